/-
  What BearApart asks: a row of loads, and whether each of its trucks is Sure.
-/
import Derived.Test.YtfakmggabicdjaaTail
import Derived.Test.YtfakmggabicdjaaGapN
import Derived.Test.YtfakmggabicdjaaAwkB
set_option linter.unusedVariables false
set_option linter.unusedSimpArgs false
namespace Go.Proofs.Ytfakmggabicdjaa
open Go.RowKit

theorem pairs_nil (w : World) (A B : Nat → Int) : PairsAt w (.slice none 0 0) 0 A B := ⟨none, 0, rfl, by omega, by omega, fun h => absurd h (by omega)⟩
set_option maxRecDepth 100000 in
set_option maxHeartbeats 4000000 in
theorem krow_any (v : Value) (n : Nat) (W0 W1 : Nat → Int) (g : Int) (hn : n ≤ 1000) (hg : 0 ≤ g ∧ g ≤ 1000000) (w : World) (hv : PairsAt w v n W0 W1) :
    Calls Try.prog 108 #[v, .int .i64 g] w fun e w' => ∃ u, e = .returned u ∧ LoadsAt w' u n (rowL W0 W1 g) ∧ Below w.heap.size w w' := by
  obtain ⟨aV, cV, rfl, hc1, hc2, h3⟩ := hv
  have H3 := Lib.hid h3
  obtain ⟨i0, hi0, hz0, hz1, hz2⟩ := info_parts Try.infoLoad
  clear h3
  obtain ⟨L, hLL⟩ : ∃ L : Nat → Ld, L = rowL W0 W1 g := ⟨_, rfl⟩
  rw [← hLL]
  have HC : Hid (∀ k, catC (loadC L) (k + 1) = catC (loadC L) k ++ [.int .i64 (g * (k : Int)), .int .i64 (W0 k), .int .i64 (W1 k), .int .i64 0]) := fun k => by rw [hLL]; rfl
  clear hLL
  have jR := World.ownsRow_nil w w.heap.size 53 4
  go_enter Try.func108, Try.ntmps108
  go_wp2_with fail
  go_loopw [5, 6] (fun l i wr => ∃ (k : Nat), i = .int .i64 k ∧ k ≤ n ∧ wr.ownsRow w.heap.size 53 4 l k (catC (loadC L) k) ∧ Below w.heap.size w wr) (fun _ i _ => n - (intOf i).toNat)
  case atStart => exact ⟨0, rfl, Nat.zero_le _, jR, Below.refl _ _⟩
  case round =>
    clear jR
    obtain ⟨k, rfl, hk, jR, hB⟩ := hrel
    by_cases hlt2 : k < n
    · obtain ⟨b, o, ha, hc⟩ := H3.out (by omega)
      subst ha
      have a0 := cell_later hB (hc k hlt2).1
      have a1 := cell_later hB (hc k hlt2).2
      clear hc
      have z0 := World.block_lt_of_cell? _ _ a0
      have HCk := Lib.hid (HC.out k)
      have m0 := Int.mul_nonneg hg.1 (show (0 : Int) ≤ (k : Int) by omega)
      have m1 := Int.mul_le_mul hg.2 (show (k : Int) ≤ 1000 by omega) (by omega) (by omega : (0 : Int) ≤ 1000000)
      have ew : IntKind.i64.wrap (g * (k : Int)) = g * (k : Int) := IntWalk.i64_in _ (by omega)
      have hkn : (k : Int) < (n : Int) := by omega
      generalize W0 k = p0 at a0 HCk
      generalize W1 k = p1 at a1 HCk
      clear m0 m1
      have hr : ∀ z, u5.ownBlock = some z → w.heap.size ≤ z := fun z e => (jR.lt z e).1
      have zS := hB.size
      go_wp2_with (at_builtin; refine wpList_append_own_at _ rfl _ _ 43 rfl w.heap.size 53 i0 (.agg #[.int .i64 0, .int .i64 0, .int .i64 0, .int .i64 0]) 4 32 Try.underlying43 hi0 hz0 hz1 hz2 rfl (by decide) _ _ _ rfl (jR.alloc _) ⟨wr.heap.size, 0, none⟩ 1 1 [.int .i64 (g * (k : Int)), .int .i64 p0, .int .i64 p1, .int .i64 0] rfl rfl (news4 _ _ _ _ _ _) (one4 _ _ _ _) (by unfold maxLen; omega) (by omega) (by simp; omega) ?_; intro v' w9 hown' hgrow _ _; rw [← HCk.out] at hown'; have kB := below_grown (bwA hB (Nat.le_refl _) (.cells #[.int .i64 (g * (k : Int)), .int .i64 p0, .int .i64 p1, .int .i64 0] 53)) hgrow (fun q e => by have := hr q e; omega) (by simp; omega))
      clear hgrow jR hB hr
      go_roundw
      case rel => exact ⟨k + 1, by go_num, by omega, hown', kB⟩
      case measure => simp [intOf]; omega
    · obtain rfl : k = n := by omega
      go_wp2
      go_ret
      exact ⟨u5, rfl, loads_of_row jR, hB⟩

theorem kwrap_in (x : Int) (w : World) :
    Calls Try.prog 66 #[.int .i64 x, .int .i64 1000] w fun e w' => ∃ v, e = .returned (.int .i64 v) ∧ 0 ≤ v ∧ v < 1000 ∧ Below w.heap.size w w' := by
  have m1 := Int.tmod_lt_of_pos x (show (0 : Int) < 1000 by decide)
  have m2 : -1000 < x.tmod 1000 := by
    have := Int.tmod_lt_of_pos (-x) (show (0 : Int) < 1000 by decide)
    rw [Int.neg_tmod] at this
    omega
  have n1 := Int.tmod_lt_of_pos (x.tmod 1000 + 1000) (show (0 : Int) < 1000 by decide)
  have n2 := Int.tmod_nonneg 1000 (show (0 : Int) ≤ x.tmod 1000 + 1000 by omega)
  have e2 : IntKind.i64.wrap (x.tmod 1000 + 1000) = x.tmod 1000 + 1000 := IntWalk.i64_in _ (by omega)
  have HN := Lib.hid (And.intro n1 n2)
  clear m1 m2 n1 n2
  go_enter Try.func66, Try.ntmps66
  go_wp2
  go_ret
  exact ⟨_, rfl, HN.out.2, HN.out.1, Below.refl _ _⟩

set_option maxRecDepth 100000 in
set_option maxHeartbeats 8000000 in
theorem ksure_any (p : Pl) (hp : p.Ok) (vS vC vW : Value) (th : Int) (ht : 0 ≤ th ∧ th ≤ 5000) (n : Nat) (W0 W1 : Nat → Int) (hn : n ≤ 10) (hW : ∀ i, i < n → 0 ≤ W0 i ∧ W0 i ≤ W1 i ∧ W1 i ≤ 200000) (g : Int) (hg : 0 ≤ g ∧ g ≤ 5000) (w : World) (hS : TabAt w vS p.S) (hC : TabAt w vC p.C) (hw : PairsAt w vW n W0 W1) :
    Calls Try.prog 67 #[.agg #[.int .i64 p.s0, .int .i64 p.s1, vS, vC, .int .i64 p.ne, .int .i64 p.ed, .int .i64 p.gr, .int .i64 p.lo, .int .i64 p.hi, .int .i64 p.sh, .int .i64 p.wi], .int .i64 th, vW, .int .i64 g] w fun e w' => e = .returned (.bool (rowV p th W0 W1 n g)) ∧ Below w.heap.size w w' := by
  obtain ⟨aS, cS, rfl, _, _, _⟩ := id hS
  obtain ⟨aC, cC, rfl, _, _, _⟩ := id hC
  obtain ⟨aW, cW, rfl, _, _, _⟩ := id hw
  have HRw : Hid (∀ W, Below w.heap.size w W → Calls Try.prog 108 #[.slice aW n cW, .int .i64 g] W fun e w' => ∃ u, e = .returned u ∧ LoadsAt w' u n (rowL W0 W1 g) ∧ Below W.heap.size W w') := fun W hW' => krow_any _ n W0 W1 g (by omega) (by omega) W (hw.later hW')
  have m0 := Int.mul_nonneg hg.1 (show (0 : Int) ≤ (n : Int) by omega)
  have m1 := Int.mul_le_mul hg.2 (show (n : Int) ≤ 10 by omega) (by omega) (by omega : (0 : Int) ≤ 5000)
  obtain ⟨d, hd⟩ : ∃ d : Nat, (d : Int) = g * (n : Int) / 100 := ⟨(g * (n : Int) / 100).toNat, by omega⟩
  have e1 : IntKind.i64.wrap (g * (n : Int)) = g * (n : Int) := IntWalk.i64_in _ (by omega)
  have e2 : IntKind.i64.wrap ((g * (n : Int)).tdiv 100) = (d : Int) := by rw [Int.tdiv_eq_ediv_of_nonneg m0, hd]; exact IntWalk.i64_in _ (by omega)
  have hd5 : d ≤ 500 := by omega
  have hOk : ∀ i, i < n → (rowL W0 W1 g i).Ok (d + 1) := fun i hi => by
    have q := hW i hi
    have a0 := Int.mul_nonneg hg.1 (show (0 : Int) ≤ (i : Int) by omega)
    have a1 := Int.mul_le_mul_of_nonneg_left (show (i : Int) ≤ (n : Int) by omega) hg.1
    exact ⟨a0, by show g * (i : Int) < 100 * ((d + 1 : Nat) : Int); omega, q.1, q.2.1, q.2.2, Int.le_refl _, by show (0 : Int) ≤ 10000; decide⟩
  have hSp : ∀ i, i < n → ((g * (i : Int)) / 100).toNat < d + 1 := fun i hi => by
    have a0 := Int.mul_nonneg hg.1 (show (0 : Int) ≤ (i : Int) by omega)
    have a1 := Int.mul_le_mul_of_nonneg_left (show (i : Int) ≤ (n : Int) by omega) hg.1
    omega
  obtain ⟨X, hX⟩ : ∃ X : Nat → Int, X = fun i => verdV p (fun _ => th) (fun _ => th) 0 (fun _ => 0) (fun _ => 0) n (rowL W0 W1 g) (rowL W0 W1 g i) := ⟨_, rfl⟩
  have HH : Hid (∀ vI vL W, Below w.heap.size w W → PairsAt W vI (d + 1) (fun _ => th) (fun _ => th) → LoadsAt W vL n (rowL W0 W1 g) → Calls Try.prog 35 #[.agg #[.int .i64 p.s0, .int .i64 p.s1, (.slice aS p.S.n cS), (.slice aC p.C.n cC), .int .i64 p.ne, .int .i64 p.ed, .int .i64 p.gr, .int .i64 p.lo, .int .i64 p.hi, .int .i64 p.sh, .int .i64 p.wi], vI, .slice none 0 0, vL] W fun e w' => ∃ v, e = .returned (.tuple #[v, .int .i64 0]) ∧ w'.ownsRow W.heap.size 3 1 v n (catC (intC X) n) ∧ Below W.heap.size W w') := fun vI vL W hW' hI hL => by
    rw [hX]
    exact holds_valid hp (by omega) (fun _ _ => ⟨ht.1, Int.le_refl _, ht.2⟩) (by omega) (fun i hi => absurd hi (by omega)) (by omega) hOk _ _ vI _ vL W (PairsAt.later hS hW') (PairsAt.later hC hW') hI (pairs_nil _ _ _) hL
  obtain ⟨f, hf⟩ : ∃ f : Nat → Bool, f = rowB p th W0 W1 n g := ⟨_, rfl⟩
  have HX : Hid (∀ i, X i = 1 ↔ f i = true) := fun i => by rw [hX, hf]; exact verd_row i rfl
  rw [show rowV p th W0 W1 n g = allB f n by rw [hf]; rfl]
  have hT : (∀ i, i < n → f i = true) → allB f n = true := fun h => (allB_iff f n).2 h
  have hF : ∀ k, k < n → f k = false → allB f n = false := fun k hk h => by
    cases e : allB f n with
    | false => rfl
    | true => rw [(allB_iff f n).1 e k hk] at h; simp at h
  have HTT := Lib.hid hT
  have HFF := Lib.hid hF
  clear hT hF hf hX hSp hOk
  generalize allB f n = r at HTT HFF ⊢
  generalize rowL W0 W1 g = L at HRw HH
  have jP := Blk.new w #[.int .i64 p.s0, .int .i64 p.s1, (.slice aS p.S.n cS), (.slice aC p.C.n cC), .int .i64 p.ne, .int .i64 p.ed, .int .i64 p.gr, .int .i64 p.lo, .int .i64 p.hi, .int .i64 p.sh, .int .i64 p.wi] 26
  have jB : Below w.heap.size w (w.alloc (.cells #[.int .i64 p.s0, .int .i64 p.s1, (.slice aS p.S.n cS), (.slice aC p.C.n cC), .int .i64 p.ne, .int .i64 p.ed, .int .i64 p.gr, .int .i64 p.lo, .int .i64 p.hi, .int .i64 p.sh, .int .i64 p.wi] 26)) := by (repeat (first | exact Below.refl _ _ | assumption | refine Below.drew ?_ | refine Below.drewN ?_ _ | refine blT ?_ | refine blU ?_))
  obtain ⟨i0, hi0, hz0, hz1, hz2⟩ := info_parts Try.infoSpan
  clear hS hC hw hp ht hW hd m0 m1
  go_enter Try.func67, Try.ntmps67
  go_upto_region 1 with fail
  obtain ⟨bP, hbP⟩ : ∃ b, w.heap.size = b := ⟨_, rfl⟩
  rw [hbP] at jP
  (try rw [hbP])
  have zwP : w.heap.size ≤ bP := by omega
  clear hbP
  generalize w.alloc (.cells #[.int .i64 p.s0, .int .i64 p.s1, (.slice aS p.S.n cS), (.slice aC p.C.n cC), .int .i64 p.ne, .int .i64 p.ed, .int .i64 p.gr, .int .i64 p.lo, .int .i64 p.hi, .int .i64 p.sh, .int .i64 p.wi] 26) = V0 at jP jB ⊢
  go_wp2_with fail
  refine (HRw.out _ jB).mono ?_
  rintro e w2 ⟨vL, rfl, hL, hb⟩
  replace jP := jP.call hb
  replace jB := bwS jB (Nat.le_refl _) hb
  clear hb HRw
  obtain ⟨aL, cL, rfl, _, _, _⟩ := id hL
  have HL := Lib.hid hL
  have hB2 := Below.refl w2.heap.size w2
  have zP2 := jP.lt
  have HJ := Lib.hid (And.intro jP jB)
  have jR := World.ownsRow_nil w2 w2.heap.size 23 2
  clear hL jP jB
  go_wp2_with fail
  go_loopw [10, 11] (fun l i wr => ∃ (k : Nat), i = .int .i64 k ∧ k ≤ d + 1 ∧ wr.ownsRow w2.heap.size 23 2 l k (catC (pairC (fun _ => th) (fun _ => th)) k) ∧ Below w2.heap.size w2 wr) (fun _ i _ => d + 1 - (intOf i).toNat)
  case atStart => exact ⟨0, rfl, Nat.zero_le _, jR, hB2⟩
  case round =>
    clear jR hB2
    obtain ⟨k, rfl, hk, jR, hB⟩ := hrel
    have zS := hB.size
    by_cases hlt2 : k ≤ d
    · have hlt3 : (k : Int) ≤ (d : Int) := by omega
      go_wp2_with fail
      refine (kone_any _ _).mono ?_
      rintro e w4 ⟨rfl, hb⟩
      replace jR := row_call jR hb
      replace hB := bwS hB (Nat.le_refl _) hb
      replace zS := hB.size
      clear hb
      have hr : ∀ z, u10.ownBlock = some z → w2.heap.size ≤ z := fun z e => (jR.lt z e).1
      go_wp2_with (at_builtin; refine wpList_append_own_at _ rfl _ _ 42 rfl w2.heap.size 23 i0 (.agg #[.int .i64 0, .int .i64 0]) 2 16 Try.underlying42 hi0 hz0 hz1 hz2 rfl (by decide) _ _ _ rfl (jR.alloc _) ⟨w4.heap.size, 0, none⟩ 1 1 [.int .i64 th, .int .i64 th] rfl rfl (news2 _ _ _ _) (one2 _ _) (by unfold maxLen; omega) (by omega) (by simp; omega) ?_; intro v' w9 hown' hgrow _ _; have kB := below_grown (bwA hB (Nat.le_refl _) (.cells #[.int .i64 th, .int .i64 th] 23)) hgrow (fun q e => by have := hr q e; omega) (by simp; omega))
      clear hgrow jR hB hr
      go_roundw
      case rel => exact ⟨k + 1, by go_num, by omega, hown', kB⟩
      case measure => simp [intOf]; omega
    · obtain rfl : k = d + 1 := by omega
      have hlt3 : ¬ (((d + 1 : Nat) : Int) ≤ (d : Int)) := by omega
      have hI := pairs_of_row jR
      obtain ⟨aI, cI, hvI, _, _, _⟩ := id hI
      subst hvI
      obtain ⟨jP, jB⟩ := HJ.out
      have jB2 := bwS jB (Nat.le_refl _) hB
      replace jP := jP.call hB
      have hL := HL.out.later hB
      have HHn := Lib.hid (HH.out _ _ _ jB2 hI hL)
      clear jB hB jR hI hL HH zS
      obtain ⟨c0, c1, c2, c3, c4, c5, c6, c7, c8, c9, c10⟩ := jP.c11
      have zP := jP.lt
      go_wp2_with fail
      clear c0 c1 c2 c3 c4 c5 c6 c7 c8 c9 c10 zP jP
      refine HHn.out.mono ?_
      rintro e w6 ⟨vU, rfl, rU, hb⟩
      replace jB2 := bwS jB2 (Nat.le_refl _) hb
      clear hb HHn HJ HL
      have hU := ints_of_row rU
      obtain ⟨aU, cU, rfl, _, _, h3⟩ := id hU
      have H3 := Lib.hid h3
      clear rU hU h3
      go_wp2_with fail
      go_loopw [14] (fun i wr => ∃ k : Nat, i = .int .i64 k ∧ k ≤ n ∧ (∀ j, j < k → f j = true) ∧ wr = w6) (fun i _ => n - (intOf i).toNat)
      case atStart => exact ⟨0, rfl, Nat.zero_le _, fun j hj => by omega, rfl⟩
      case round =>
        obtain ⟨k, rfl, hk2, hj, rfl⟩ := hrel
        have HJ := Lib.hid hj
        clear hj
        by_cases hlt4 : k < n
        · obtain ⟨b, o, ha, hc⟩ := H3.out (by omega)
          subst ha
          have a0 := hc k hlt4
          clear hc
          have z0 := World.block_lt_of_cell? _ _ a0
          have hkn : (k : Int) < (n : Int) := by omega
          have HXk := Lib.hid (HX.out k)
          have HFk := Lib.hid (HFF.out k hlt4)
          generalize X k = y at a0 HXk
          by_cases hy : y = 1
          · subst hy
            have hfk := Lib.hid (HXk.out.1 rfl)
            go_wp2
            go_roundw
            case rel => exact ⟨k + 1, by go_num, by omega, fun j hj => by
                by_cases e : j = k
                · subst e; exact hfk.out
                · exact HJ.out j (by omega), by first | rfl | trivial⟩
            case measure => simp [intOf]; omega
          · have hr := HFk.out (by
              cases e : f k with
              | false => rfl
              | true => exact absurd (HXk.out.2 e) hy)
            subst hr
            have e4 : (y != 1) = true := by simpa using hy
            go_wp2
            go_ret
            exact ⟨rfl, jB2⟩
        · have hr := HTT.out (fun i hi => HJ.out i (by omega))
          subst hr
          go_wp2
          go_ret
          exact ⟨rfl, jB2⟩
end Go.Proofs.Ytfakmggabicdjaa
