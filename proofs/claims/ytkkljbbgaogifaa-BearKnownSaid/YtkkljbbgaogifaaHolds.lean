/-
  bear.Holds, where all is valid, and where it is not.
-/
import Derived.Test.YtkkljbbgaogifaaTail
import Derived.Test.YtkkljbbgaogifaaHold
import Derived.Test.YtkkljbbgaogifaaRow
set_option linter.unusedVariables false
set_option linter.unusedSimpArgs false
namespace Go.Proofs.Ytkkljbbgaogifaa
open Go.RowKit

theorem below_grown {B : Nat} {w V W : World} {r : Option Nat} (h : Below B w V) (g : V.grownBy W r) (hr : ∀ k, r = some k → B ≤ k) (hB : B ≤ V.heap.size) : Below B w W :=
  h.trans ⟨g.os, g.tape, g.output, g.size, fun k hk => g.block k (by omega) (fun e => by have := hr k e.symm; omega)⟩

set_option maxRecDepth 100000 in
set_option maxHeartbeats 4000000 in
theorem holds_ok (p : Pl) (vS vC vI vK vL : Value) (ni : Nat) (I0 I1 : Nat → Int) (nc : Nat) (C0 C1 : Nat → Int) (n : Nat) (L : Nat → Ld) (he : Env p ni I0 I1 nc C0 C1 n L) (hx : ∀ i, i < n → (L i).me < 100 * (ni : Int)) (pm : Int) (hp : IntKind.i64.wrap (100 * (ni : Int)) = pm) (h1 : eRoad p ni I0 I1 nc C0 C1 = 0) (h2 : eLds pm n L = 0) (w : World)
    (hS : TabAt w vS p.S) (hC : TabAt w vC p.C) (hI : PairsAt w vI ni I0 I1) (hK : PairsAt w vK nc C0 C1) (hL : LoadsAt w vL n L) :
    Calls Try.prog 35 #[.agg #[.int .i64 p.s0, .int .i64 p.s1, vS, vC, .int .i64 p.ne, .int .i64 p.ed, .int .i64 p.gr, .int .i64 p.lo, .int .i64 p.hi, .int .i64 p.sh, .int .i64 p.wi], vI, vK, vL] w fun e w' => ∃ v, e = .returned (.tuple #[v, .int .i64 0]) ∧ w'.ownsRow w.heap.size 3 1 v n (catC (intC (fun i => verdV p I0 I1 nc C0 C1 n L (L i))) n) ∧ Below w.heap.size w w' := by
  obtain ⟨aS, cS, rfl, _, _, _⟩ := id hS
  obtain ⟨aC, cC, rfl, _, _, _⟩ := id hC
  obtain ⟨aI, cI, rfl, _, _, _⟩ := id hI
  obtain ⟨aK, cK, rfl, _, _, _⟩ := id hK
  obtain ⟨aL, cL, rfl, hcL, hmL, h3⟩ := id hL
  have H3 := Lib.hid h3
  obtain ⟨X, hX⟩ : ∃ X : Nat → Int, X = fun i => verdV p I0 I1 nc C0 C1 n L (L i) := ⟨_, rfl⟩
  rw [← hX]
  have HV : Hid (∀ k : Nat, k < n → ∀ W, Below w.heap.size w W → Calls Try.prog 88 #[.agg #[.int .i64 p.s0, .int .i64 p.s1, (.slice aS p.S.n cS), (.slice aC p.C.n cC), .int .i64 p.ne, .int .i64 p.ed, .int .i64 p.gr, .int .i64 p.lo, .int .i64 p.hi, .int .i64 p.sh, .int .i64 p.wi], .slice aI ni cI, .slice aK nc cK, .slice aL n cL, .agg #[.int .i64 (L k).me, .int .i64 (L k).w0, .int .i64 (L k).w1, .int .i64 (L k).st]] W fun e w' => e = .returned (.int .i64 (X k)) ∧ Below W.heap.size W w') := fun k hk W hW => by
    rw [hX]
    have q := he.hn.each k hk
    exact verdict_any p _ _ _ _ _ ni I0 I1 nc C0 C1 n L he (L k) ⟨q.2.2.2.1, hx k hk, q.2.2.2.2.1, q.2.2.2.2.2⟩ W (hS.later hW) (hC.later hW) (hI.later hW) (hK.later hW) (hL.later hW)
  have HR : Hid (∀ W, Below w.heap.size w W → Calls Try.prog 86 #[.agg #[.int .i64 p.s0, .int .i64 p.s1, (.slice aS p.S.n cS), (.slice aC p.C.n cC), .int .i64 p.ne, .int .i64 p.ed, .int .i64 p.gr, .int .i64 p.lo, .int .i64 p.hi, .int .i64 p.sh, .int .i64 p.wi], .slice aI ni cI, .slice aK nc cK] W fun e w' => e = .returned (.int .i64 0) ∧ Below W.heap.size W w') := fun W hW => by
    have q := road_any p _ _ _ _ ni I0 I1 nc C0 C1 W (hS.later hW) (hC.later hW) (hI.later hW) (hK.later hW)
    rw [h1] at q
    exact q
  have HD : Hid (∀ W, Below w.heap.size w W → Calls Try.prog 87 #[.slice aL n cL, .int .i64 ni] W fun e w' => e = .returned (.int .i64 0) ∧ Below W.heap.size W w') := fun W hW => by
    have q := loads_any ni pm hp _ n L W (hL.later hW)
    rw [h2] at q
    exact q
  have hn30 := he.hn.n30
  have hO : orE 0 0 = 0 := rfl
  clear hS hC hI hK hL h3 he hx h1 h2 hX
  have jP := Blk.new w #[.int .i64 p.s0, .int .i64 p.s1, (.slice aS p.S.n cS), (.slice aC p.C.n cC), .int .i64 p.ne, .int .i64 p.ed, .int .i64 p.gr, .int .i64 p.lo, .int .i64 p.hi, .int .i64 p.sh, .int .i64 p.wi] 26
  have jB : Below w.heap.size w (w.alloc (.cells #[.int .i64 p.s0, .int .i64 p.s1, (.slice aS p.S.n cS), (.slice aC p.C.n cC), .int .i64 p.ne, .int .i64 p.ed, .int .i64 p.gr, .int .i64 p.lo, .int .i64 p.hi, .int .i64 p.sh, .int .i64 p.wi] 26)) := by (repeat (first | exact Below.refl _ _ | assumption | refine Below.drew ?_ | refine Below.drewN ?_ _ | refine blT ?_ | refine blU ?_))
  go_enter Try.func35, Try.ntmps35
  go_wp2_with fail
  refine (HR.out _ jB).mono ?_
  rintro e w1 ⟨rfl, hb⟩
  replace jP := jP.call hb
  replace jB := bwS jB (Nat.le_refl _) hb
  clear hb
  go_wp2_with fail
  refine (HD.out _ jB).mono ?_
  rintro e w2 ⟨rfl, hb⟩
  replace jP := jP.call hb
  replace jB := bwS jB (Nat.le_refl _) hb
  clear hb
  go_wp2_with fail
  refine (first_two _ _ 0 0 _ (by simp) (by simp)).mono ?_
  rintro e w3 ⟨rfl, rfl⟩
  replace jP := jP.alloc (.cells #[.int .i64 0, .int .i64 0] 36)
  replace jB := bwA jB (Nat.le_refl _) (.cells #[.int .i64 0, .int .i64 0] 36)
  generalize w2.alloc (.cells #[.int .i64 0, .int .i64 0] 36) = V at jP jB ⊢
  have zP := jP.lt
  have jR := World.ownsRow_nil V (w.heap.size + 1) 3 1
  obtain ⟨i0, hi0, hz0, hz1, hz2⟩ := info_parts Try.infoInt
  go_wp2_with fail
  go_loopw [11, 29] (fun l i wr => ∃ k : Nat, k ≤ n ∧ i = .int .i64 k ∧ wr.ownsRow (w.heap.size + 1) 3 1 l k (catC (intC X) k) ∧ Blk wr w.heap.size #[.int .i64 p.s0, .int .i64 p.s1, (.slice aS p.S.n cS), (.slice aC p.C.n cC), .int .i64 p.ne, .int .i64 p.ed, .int .i64 p.gr, .int .i64 p.lo, .int .i64 p.hi, .int .i64 p.sh, .int .i64 p.wi] 26 ∧ Below w.heap.size w wr ∧ w.heap.size + 1 ≤ wr.heap.size) (fun _ i _ => n - (intOf i).toNat)
  case atStart => exact ⟨0, Nat.zero_le _, rfl, jR, jP, jB, by omega⟩
  case round =>
    clear jP jB jR
    obtain ⟨k, hk, rfl, jR, jP, jB, zB⟩ := hrel
    by_cases hlt2 : k < n
    · obtain ⟨b, o, ha, hc⟩ := H3.out (by omega)
      subst ha
      obtain ⟨a0, a1, a2, a3⟩ := hc k hlt2
      clear hc
      replace a0 := cell_later jB a0
      replace a1 := cell_later jB a1
      replace a2 := cell_later jB a2
      replace a3 := cell_later jB a3
      have hbs := World.block_lt_of_cell? _ _ a0
      obtain ⟨c0, c1, c2, c3, c4, c5, c6, c7, c8, c9, c10⟩ := jP.c11
      have zQ := jP.lt
      have HVk := Lib.hid (HV.out k hlt2)
      obtain ⟨x, hxk⟩ : ∃ x, L k = x := ⟨_, rfl⟩
      rw [hxk] at a0 a1 a2 a3 HVk
      clear hxk
      go_wp2_with fail
      clear c0 c1 c2 c3 c4 c5 c6 c7 c8 c9 c10 a0 a1 a2 a3 hbs zQ
      refine (HVk.out _ ?_).mono ?_
      · exact bwA jB (Nat.le_refl _) _
      rintro e w4 ⟨rfl, hb⟩
      replace jP := (jP.alloc (.cells #[.int .i64 x.me, .int .i64 x.w0, .int .i64 x.w1, .int .i64 x.st] 53)).call hb
      replace jR := row_call (jR.alloc (.cells #[.int .i64 x.me, .int .i64 x.w0, .int .i64 x.w1, .int .i64 x.st] 53)) hb
      replace zB : w.heap.size + 1 ≤ w4.heap.size := by have := hb.size; simp at this; omega
      replace jB := bwS (bwA jB (Nat.le_refl _) (.cells #[.int .i64 x.me, .int .i64 x.w0, .int .i64 x.w1, .int .i64 x.st] 53)) (Nat.le_refl _) hb
      clear hb HVk
      have hr : ∀ q, u11.ownBlock = some q → w.heap.size + 1 ≤ q := fun q e => (jR.lt q e).1
      go_wp2_with (at_builtin; refine wpList_append_own_at _ rfl _ _ 27 rfl (w.heap.size + 1) 3 i0 (.int .i64 0) 1 8 Try.underlying27 hi0 hz0 hz1 hz2 rfl (by decide) _ _ _ rfl (jR.alloc _) ⟨w4.heap.size, 0, none⟩ 1 1 [.int .i64 (X k)] rfl rfl (news1 _ _ _) (one1 _) (by unfold maxLen; omega) (by omega) (by simp; omega) ?_; intro v' w5 hown' hgrow _ _; have kP := (jP.alloc (.cells #[.int .i64 (X k)] 3)).grown hgrow (fun q e => by have := hr q e; omega); have kB := below_grown (bwA jB (Nat.le_refl _) (.cells #[.int .i64 (X k)] 3)) hgrow (fun q e => by have := hr q e; omega) (by simp; omega); have kZ : w.heap.size + 1 ≤ w5.heap.size := (by have := hgrow.size; simp at this; omega))
      clear hgrow jP jB jR zB hr
      go_roundw
      case rel => exact ⟨k + 1, by omega, by go_num, hown', kP, kB, kZ⟩
      case measure => simp [intOf]; omega
    · obtain rfl : k = n := by omega
      go_wp2
      exact bodyPost_ret (v := .tuple #[u11, .int .i64 0]) (by simp [results, Try.results35, go_sem]) rfl ⟨u11, rfl, ownsRow_base jR (by omega), jB⟩
end Go.Proofs.Ytkkljbbgaogifaa
