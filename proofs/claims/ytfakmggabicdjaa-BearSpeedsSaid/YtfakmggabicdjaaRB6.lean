/-
  bear.Holds and the reference's Holds, whatever comes in: the same errors, the same verdicts.
-/
import Derived.Test.YtfakmggabicdjaaTail
import Derived.Test.YtfakmggabicdjaaRB5
import Derived.Test.YtfakmggabicdjaaInv
set_option linter.unusedVariables false
set_option linter.unusedSimpArgs false
namespace Go.Proofs.Ytfakmggabicdjaa
open Go.RowKit

def hE (p : Pl) (ni : Nat) (I0 I1 : Nat → Int) (nc : Nat) (C0 C1 : Nat → Int) (n : Nat) (L : Nat → Ld) : Int := orE (eRoad p ni I0 I1 nc C0 C1) (eLds (100 * (ni : Int)) n L)
theorem ints_nil (w : World) (x : Nat → Int) : IntsAt w (.slice none 0 0) 0 x := ⟨none, 0, rfl, by omega, by omega, fun h => absurd h (by omega)⟩

set_option maxRecDepth 100000 in
set_option maxHeartbeats 4000000 in
theorem holds_any (p : Pl) (vS vC vI vK vL : Value) (ni : Nat) (I0 I1 : Nat → Int) (nc : Nat) (C0 C1 : Nat → Int) (n : Nat) (L : Nat → Ld) (w : World)
    (hS : TabAt w vS p.S) (hC : TabAt w vC p.C) (hI : PairsAt w vI ni I0 I1) (hK : PairsAt w vK nc C0 C1) (hL : LoadsAt w vL n L) :
    Calls Try.prog 35 #[.agg #[.int .i64 p.s0, .int .i64 p.s1, vS, vC, .int .i64 p.ne, .int .i64 p.ed, .int .i64 p.gr, .int .i64 p.lo, .int .i64 p.hi, .int .i64 p.sh, .int .i64 p.wi], vI, vK, vL] w fun e w' => ∃ u, e = .returned (.tuple #[u, .int .i64 (hE p ni I0 I1 nc C0 C1 n L)]) ∧ IntsAt w' u (if (hE p ni I0 I1 nc C0 C1 n L) = 0 then n else 0) (fun i => verdV p I0 I1 nc C0 C1 n L (L i)) ∧ Below w.heap.size w w' := by
  by_cases h0 : hE p ni I0 I1 nc C0 C1 n L = 0
  · rw [h0, if_pos rfl]
    obtain ⟨h1, h2⟩ := orE_inv h0
    obtain ⟨hp, hni, hi, hnc, hc⟩ := eRoad_inv h1
    obtain ⟨hn, hl⟩ := eLds_inv h2
    exact (holds_valid hp hni hi hnc hc hn hl vS vC vI vK vL w hS hC hI hK hL).mono fun e w' ⟨v, he, hr, hb⟩ => ⟨v, he, ints_of_row hr, hb⟩
  · rw [if_neg h0]
    obtain ⟨pm, hpm⟩ : ∃ pm, IntKind.i64.wrap (100 * (ni : Int)) = pm := ⟨_, rfl⟩
    have he : orE (eRoad p ni I0 I1 nc C0 C1) (eLds pm n L) = hE p ni I0 I1 nc C0 C1 n L := by
      unfold hE
      by_cases e : eRoad p ni I0 I1 nc C0 C1 = 0
      · obtain ⟨_, hni, _⟩ := eRoad_inv e
        rw [show pm = 100 * (ni : Int) by rw [← hpm]; exact IntWalk.i64_in _ (by omega)]
      · rw [orE_ne e, orE_ne e]
    obtain ⟨r, hr⟩ : ∃ r, hE p ni I0 I1 nc C0 C1 n L = r := ⟨_, rfl⟩
    rw [hr] at h0 he ⊢
    obtain ⟨aS, cS, rfl, _, _, _⟩ := id hS
    obtain ⟨aC, cC, rfl, _, _, _⟩ := id hC
    obtain ⟨aI, cI, rfl, _, _, _⟩ := id hI
    obtain ⟨aK, cK, rfl, _, _, _⟩ := id hK
    obtain ⟨aL, cL, rfl, _, _, _⟩ := id hL
    have HR : Hid (∀ W, Below w.heap.size w W → Calls Try.prog 86 #[.agg #[.int .i64 p.s0, .int .i64 p.s1, (.slice aS p.S.n cS), (.slice aC p.C.n cC), .int .i64 p.ne, .int .i64 p.ed, .int .i64 p.gr, .int .i64 p.lo, .int .i64 p.hi, .int .i64 p.sh, .int .i64 p.wi], .slice aI ni cI, .slice aK nc cK] W fun e w' => e = .returned (.int .i64 (eRoad p ni I0 I1 nc C0 C1)) ∧ Below W.heap.size W w') := fun W hW => road_any p _ _ _ _ ni I0 I1 nc C0 C1 W (PairsAt.later hS hW) (PairsAt.later hC hW) (hI.later hW) (hK.later hW)
    have HD : Hid (∀ W, Below w.heap.size w W → Calls Try.prog 87 #[.slice aL n cL, .int .i64 ni] W fun e w' => e = .returned (.int .i64 (eLds pm n L)) ∧ Below W.heap.size W w') := fun W hW => loads_any ni pm hpm _ n L W (hL.later hW)
    generalize eRoad p ni I0 I1 nc C0 C1 = x1 at HR he
    generalize eLds pm n L = x2 at HD he
    have HE := Lib.hid he
    clear he
    have e1 : (r != 0) = true := by simpa using h0
    clear hS hC hI hK hL hr h0 hpm
    have jP := Blk.new w #[.int .i64 p.s0, .int .i64 p.s1, (.slice aS p.S.n cS), (.slice aC p.C.n cC), .int .i64 p.ne, .int .i64 p.ed, .int .i64 p.gr, .int .i64 p.lo, .int .i64 p.hi, .int .i64 p.sh, .int .i64 p.wi] 26
    have jB : Below w.heap.size w (w.alloc (.cells #[.int .i64 p.s0, .int .i64 p.s1, (.slice aS p.S.n cS), (.slice aC p.C.n cC), .int .i64 p.ne, .int .i64 p.ed, .int .i64 p.gr, .int .i64 p.lo, .int .i64 p.hi, .int .i64 p.sh, .int .i64 p.wi] 26)) := by (repeat (first | exact Below.refl _ _ | assumption | refine Below.drew ?_ | refine Below.drewN ?_ _ | refine blT ?_ | refine blU ?_))
    go_enter Try.func35, Try.ntmps35
    go_wp2_with fail
    refine (HR.out _ jB).mono ?_
    rintro e w1 ⟨rfl, hb⟩
    replace jB := bwS jB (Nat.le_refl _) hb
    clear hb jP
    go_wp2_with fail
    refine (HD.out _ jB).mono ?_
    rintro e w2 ⟨rfl, hb⟩
    replace jB := bwS jB (Nat.le_refl _) hb
    clear hb
    go_wp2_with fail
    refine (first_two _ _ x1 x2 _ (by simp) (by simp)).mono ?_
    rintro e w3 ⟨rfl, rfl⟩
    replace jB := bwA jB (Nat.le_refl _) (.cells #[.int .i64 x1, .int .i64 x2] 36)
    generalize w2.alloc (.cells #[.int .i64 x1, .int .i64 x2] 36) = V at jB ⊢
    rw [HE.out]
    go_wp2
    exact bodyPost_ret (v := .tuple #[.slice none 0 0, .int .i64 r]) (by simp [results, Try.results35, go_sem]) rfl ⟨_, rfl, (ints_nil _ _), jB⟩

set_option maxRecDepth 100000 in
set_option maxHeartbeats 8000000 in
theorem rholds_any (p : Pl) (vS vC vI vK vL : Value) (ni : Nat) (I0 I1 : Nat → Int) (nc : Nat) (C0 C1 : Nat → Int) (n : Nat) (L : Nat → Ld) (w : World)
    (hS : TabAt w vS p.S) (hC : TabAt w vC p.C) (hI : PairsAt w vI ni I0 I1) (hK : PairsAt w vK nc C0 C1) (hL : LoadsAt w vL n L) :
    Calls Try.prog 36 #[.agg #[.int .i64 p.s0, .int .i64 p.s1, vS, vC, .int .i64 p.ne, .int .i64 p.ed, .int .i64 p.gr, .int .i64 p.lo, .int .i64 p.hi, .int .i64 p.sh, .int .i64 p.wi], vI, vK, vL] w fun e w' => ∃ u, e = .returned (.tuple #[u, .int .i64 (hE p ni I0 I1 nc C0 C1 n L)]) ∧ IntsAt w' u (if (hE p ni I0 I1 nc C0 C1 n L) = 0 then n else 0) (fun i => verdV p I0 I1 nc C0 C1 n L (L i)) ∧ Below w.heap.size w w' := by
  obtain ⟨aS, cS, rfl, _, _, _⟩ := id hS
  obtain ⟨aC, cC, rfl, _, _, _⟩ := id hC
  obtain ⟨aI, cI, rfl, _, _, _⟩ := id hI
  obtain ⟨aK, cK, rfl, _, _, _⟩ := id hK
  obtain ⟨aL, cL, rfl, _, _, _⟩ := id hL
  have HR : Hid (∀ W, Below w.heap.size w W → Calls Try.prog 89 #[.agg #[.int .i64 p.s0, .int .i64 p.s1, (.slice aS p.S.n cS), (.slice aC p.C.n cC), .int .i64 p.ne, .int .i64 p.ed, .int .i64 p.gr, .int .i64 p.lo, .int .i64 p.hi, .int .i64 p.sh, .int .i64 p.wi], .slice aI ni cI, .slice aK nc cK] W fun e w' => e = .returned (.int .i64 (eRoad p ni I0 I1 nc C0 C1)) ∧ Below W.heap.size W w') := fun W hW => rroad_any p _ _ _ _ ni I0 I1 nc C0 C1 W (PairsAt.later hS hW) (PairsAt.later hC hW) (hI.later hW) (hK.later hW)
  have HD : Hid (ni ≤ 1000 → ∀ W, Below w.heap.size w W → Calls Try.prog 90 #[.int .i64 ni, .slice aL n cL] W fun e w' => e = .returned (.int .i64 (eLds (100 * (ni : Int)) n L)) ∧ Below W.heap.size W w') := fun hni W hW => rloads_any ni hni _ n L W (hL.later hW)
  obtain ⟨X, hX⟩ : ∃ X : Nat → Int, X = (fun i => verdV p I0 I1 nc C0 C1 n L (L i)) := ⟨_, rfl⟩
  rw [← hX]
  have HV : Hid (eRoad p ni I0 I1 nc C0 C1 = 0 → eLds (100 * (ni : Int)) n L = 0 → ∀ k : Nat, k < n → ∀ W, Below w.heap.size w W → Calls Try.prog 91 #[.agg #[.int .i64 p.s0, .int .i64 p.s1, (.slice aS p.S.n cS), (.slice aC p.C.n cC), .int .i64 p.ne, .int .i64 p.ed, .int .i64 p.gr, .int .i64 p.lo, .int .i64 p.hi, .int .i64 p.sh, .int .i64 p.wi], .slice aI ni cI, .slice aK nc cK, .slice aL n cL, .int .i64 k] W fun e w' => e = .returned (.int .i64 (X k)) ∧ Below W.heap.size W w') := fun h1 h2 k hk W hW => by
    obtain ⟨hp, hni, hi, hnc, hc⟩ := eRoad_inv h1
    obtain ⟨hn, hl⟩ := eLds_inv h2
    rw [hX]
    exact rverdict_any p _ _ _ _ _ ni I0 I1 nc C0 C1 n L hp hni hi (fun j hj => by have := hc j hj; omega) ⟨hn, fun i hi => by have := hl i hi; exact ⟨this.w0, this.w01, this.w1, this.me0, by have := this.me1; omega, this.st0⟩⟩ k hk (hl k hk).me1 W (PairsAt.later hS hW) (PairsAt.later hC hW) (hI.later hW) (hK.later hW) (hL.later hW)
  have HN : Hid (eRoad p ni I0 I1 nc C0 C1 = 0 → ni ≤ 1000) := fun h => (eRoad_inv h).2.1
  have HN2 : Hid (eLds (100 * (ni : Int)) n L = 0 → n ≤ 30) := fun h => (eLds_inv h).1
  obtain ⟨r, hr⟩ : ∃ r, hE p ni I0 I1 nc C0 C1 n L = r := ⟨_, rfl⟩
  rw [hr]
  unfold hE at hr
  generalize eRoad p ni I0 I1 nc C0 C1 = x1 at HR HV HN hr
  generalize eLds (100 * (ni : Int)) n L = x2 at HD HV HN2 hr
  clear hS hC hI hK hL hX
  have jP := Blk.new w #[.int .i64 p.s0, .int .i64 p.s1, (.slice aS p.S.n cS), (.slice aC p.C.n cC), .int .i64 p.ne, .int .i64 p.ed, .int .i64 p.gr, .int .i64 p.lo, .int .i64 p.hi, .int .i64 p.sh, .int .i64 p.wi] 26
  have jB : Below w.heap.size w (w.alloc (.cells #[.int .i64 p.s0, .int .i64 p.s1, (.slice aS p.S.n cS), (.slice aC p.C.n cC), .int .i64 p.ne, .int .i64 p.ed, .int .i64 p.gr, .int .i64 p.lo, .int .i64 p.hi, .int .i64 p.sh, .int .i64 p.wi] 26)) := by (repeat (first | exact Below.refl _ _ | assumption | refine Below.drew ?_ | refine Below.drewN ?_ _ | refine blT ?_ | refine blU ?_))
  go_enter Try.func36, Try.ntmps36
  go_upto_region 1 with fail
  obtain ⟨c0, c1, c2, c3, c4, c5, c6, c7, c8, c9, c10⟩ := jP.c11
  have zP := jP.lt
  go_wp2_with fail
  clear c0 c1 c2 c3 c4 c5 c6 c7 c8 c9 c10 zP
  refine (HR.out _ jB).mono ?_
  rintro e w1 ⟨rfl, hb⟩
  replace jP := jP.call hb
  replace jB := bwS jB (Nat.le_refl _) hb
  clear hb HR
  by_cases e1 : x1 = 0
  · subst e1
    rw [orE_eq] at hr
    subst hr
    have HDn := Lib.hid (HD.out (HN.out rfl))
    have HVn := Lib.hid (HV.out rfl)
    clear HD HV HN
    go_wp2_with fail
    refine (HDn.out _ jB).mono ?_
    rintro e w2 ⟨rfl, hb⟩
    replace jP := jP.call hb
    replace jB := bwS jB (Nat.le_refl _) hb
    clear hb HDn
    by_cases e2 : x2 = 0
    · subst e2
      have hn30 := HN2.out rfl
      have HVk := Lib.hid (HVn.out rfl)
      clear HVn HN2
      have zP := jP.lt
      have jR := World.ownsRow_nil w2 (w.heap.size + 1) 3 1
      obtain ⟨i0, hi0, hz0, hz1, hz2⟩ := info_parts Try.infoInt
      go_wp2_with fail
      go_loopw [12, 13] (fun l i wr => ∃ k : Nat, k ≤ n ∧ i = .int .i64 k ∧ wr.ownsRow (w.heap.size + 1) 3 1 l k (catC (intC X) k) ∧ Blk wr w.heap.size #[.int .i64 p.s0, .int .i64 p.s1, (.slice aS p.S.n cS), (.slice aC p.C.n cC), .int .i64 p.ne, .int .i64 p.ed, .int .i64 p.gr, .int .i64 p.lo, .int .i64 p.hi, .int .i64 p.sh, .int .i64 p.wi] 26 ∧ Below w.heap.size w wr ∧ w.heap.size + 1 ≤ wr.heap.size) (fun _ i _ => n - (intOf i).toNat)
      case atStart => exact ⟨0, Nat.zero_le _, rfl, jR, jP, jB, by omega⟩
      case round =>
        clear jP jB jR zP
        obtain ⟨k, hk, rfl, jR, jP, jB, zB⟩ := hrel
        by_cases hlt2 : k < n
        · have HVq := Lib.hid (HVk.out k hlt2)
          obtain ⟨c0, c1, c2, c3, c4, c5, c6, c7, c8, c9, c10⟩ := jP.c11
          have zQ := jP.lt
          go_wp2_with fail
          clear c0 c1 c2 c3 c4 c5 c6 c7 c8 c9 c10 zQ
          refine (HVq.out _ jB).mono ?_
          rintro e w4 ⟨rfl, hb⟩
          replace jP := jP.call hb
          replace jR := row_call jR hb
          replace zB : w.heap.size + 1 ≤ w4.heap.size := by have := hb.size; omega
          replace jB := bwS jB (Nat.le_refl _) hb
          clear hb HVq
          have hr : ∀ q, u12.ownBlock = some q → w.heap.size + 1 ≤ q := fun q e => (jR.lt q e).1
          go_wp2_with (at_builtin; refine wpList_append_own_at _ rfl _ _ 27 rfl (w.heap.size + 1) 3 i0 (.int .i64 0) 1 8 Try.underlying27 hi0 hz0 hz1 hz2 rfl (by decide) _ _ _ rfl (jR.alloc _) ⟨w4.heap.size, 0, none⟩ 1 1 [.int .i64 (X k)] rfl rfl (news1 _ _ _) (one1 _) (by unfold maxLen; omega) (by omega) (by simp; omega) ?_; intro v' w5 hown' hgrow _ _; have kP := (jP.alloc (.cells #[.int .i64 (X k)] 3)).grown hgrow (fun q e => by have := hr q e; omega); have kB := below_grown (bwA jB (Nat.le_refl _) (.cells #[.int .i64 (X k)] 3)) hgrow (fun q e => by have := hr q e; omega) (by simp; omega); have kZ : w.heap.size + 1 ≤ w5.heap.size := (by have := hgrow.size; simp at this; omega))
          clear hgrow jP jB jR zB hr
          go_roundw
          case rel => exact ⟨k + 1, by omega, by go_num, hown', kP, kB, kZ⟩
          case measure => simp [intOf]; omega
        · obtain rfl : k = n := by omega
          go_wp2
          exact bodyPost_ret (v := .tuple #[u12, .int .i64 0]) (by simp [results, Try.results36, go_sem]) rfl ⟨u12, rfl, ints_of_row jR, jB⟩
    · have e4 : (x2 != 0) = true := by simpa using e2
      have HE2 := Lib.hid e2
      clear e2
      go_wp2
      exact bodyPost_ret (v := .tuple #[.slice none 0 0, .int .i64 x2]) (by simp [results, Try.results36, go_sem]) rfl ⟨_, rfl, by first | exact ints_nil _ _ | (rw [if_neg HE2.out]; exact ints_nil _ _), jB⟩
  · have hr2 : r = x1 := by rw [← hr]; exact orE_ne e1
    subst hr2
    have e4 : (r != 0) = true := by simpa using e1
    have HE2 := Lib.hid e1
    clear e1
    go_wp2
    exact bodyPost_ret (v := .tuple #[.slice none 0 0, .int .i64 r]) (by simp [results, Try.results36, go_sem]) rfl ⟨_, rfl, by first | exact ints_nil _ _ | (rw [if_neg HE2.out]; exact ints_nil _ _), jB⟩
end Go.Proofs.Ytfakmggabicdjaa
