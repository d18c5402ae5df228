/-
  Volume (package fuel), at any tank and any dip.
-/
import Derived.Test.YtegdflikeoiaaaaTail
import Derived.Test.YtegdflikeoiaaaaLas
import Derived.Test.YtegdflikeoiaaaaVlm
set_option linter.unusedVariables false
set_option linter.unusedSimpArgs false
namespace Go.Proofs.Ytegdflikeoiaaaa
open Go.RowKit

theorem eTank_ok {n k : Nat} {H L : Nat → Int} (h : eTank n k H L = 0) : k = n ∧ TkOk n H L := by
  unfold eTank at h
  by_cases h1 : eTn3 n k = 0
  · rw [if_pos h1] at h
    obtain ⟨h2, h3, h4⟩ := eTn3_ok h1
    obtain ⟨h5, h6⟩ := eL_zero h
    have hr : ∀ i, i < n → eN (H i) 0 100000 = 0 ∧ eN (L i) 0 1000000000 = 0 ∧ eO (i == 0 || decide (H (i - 1) < H i)) = 0 ∧ eO (decide (L (i - 1) ≤ L i)) = 0 := by
      intro i hi
      obtain ⟨g1, g2⟩ := orE_zero (h6 i hi)
      obtain ⟨g3, g4⟩ := orE_zero g2
      obtain ⟨g5, g6⟩ := orE_zero g4
      exact ⟨g1, g3, g5, g6⟩
    refine ⟨h4, h2, h3, fun i hi => eN_zero (hr i hi).1, fun i hi => eN_zero (hr i hi).2.1, fun i hi => ?_, fun i hi => ?_⟩
    · have := eO_zero (hr (i + 1) hi).2.2.1
      simpa using this
    · have := eO_zero (hr (i + 1) hi).2.2.2
      simpa using this
  · rw [if_neg h1] at h; exact absurd h h1
theorem Part.uniq {n : Nat} {H : Nat → Int} {h : Int} {j k : Nat} (hs : ∀ i, i + 1 < n → H i < H (i + 1)) (a : Part n H h j) (b : Part n H h k) : j = k := by
  have mono : ∀ d i, i + d < n → H i ≤ H (i + d) := by
    intro d
    induction d with
    | zero => intro i _; exact Int.le_refl _
    | succ d ih => intro i hi; have := ih i (by omega); have := hs (i + d) (by omega); rw [show i + (d + 1) = i + d + 1 by omega]; omega
  rcases Nat.lt_trichotomy j k with hjk | hjk | hjk
  · have h1 := b.ge (k - 1) (by omega)
    have h2 := mono (k - (j + 1)) (j + 1) (by have := b.k1; omega)
    rw [show j + 1 + (k - (j + 1)) = k by omega] at h2
    have := a.hi
    omega
  · exact hjk
  · have h1 := a.ge (j - 1) (by omega)
    have h2 := mono (j - (k + 1)) (k + 1) (by have := a.k1; omega)
    rw [show k + 1 + (j - (k + 1)) = j by omega] at h2
    have := b.hi
    omega
def volE (n k : Nat) (H L : Nat → Int) (d0 d1 : Int) : Int := orE (eTank n k H L) (eS d0 d1 (H 0) (H (n - 1)))
open Classical in
noncomputable def volA (n k : Nat) (H L : Nat → Int) (d0 d1 : Int) : Int := if h : volE n k H L d0 d1 = 0 ∧ ∃ j, Part n H d0 j then ctLo H L d0 (Classical.choose h.2) else 0
open Classical in
noncomputable def volB (n k : Nat) (H L : Nat → Int) (d0 d1 : Int) : Int := if h : volE n k H L d0 d1 = 0 ∧ ∃ j, Part n H d1 j then ctHi H L d1 (Classical.choose h.2) else 0
theorem volA_ok {n k : Nat} {H L : Nat → Int} {d0 d1 : Int} {j : Nat} (h : volE n k H L d0 d1 = 0) (hp : Part n H d0 j) : volA n k H L d0 d1 = ctLo H L d0 j := by
  have h2 : volE n k H L d0 d1 = 0 ∧ ∃ j, Part n H d0 j := ⟨h, j, hp⟩
  unfold volA
  rw [dif_pos h2, Part.uniq (eTank_ok (orE_zero h).1).2.hs (Classical.choose_spec h2.2) hp]
theorem volB_ok {n k : Nat} {H L : Nat → Int} {d0 d1 : Int} {j : Nat} (h : volE n k H L d0 d1 = 0) (hp : Part n H d1 j) : volB n k H L d0 d1 = ctHi H L d1 j := by
  have h2 : volE n k H L d0 d1 = 0 ∧ ∃ j, Part n H d1 j := ⟨h, j, hp⟩
  unfold volB
  rw [dif_pos h2, Part.uniq (eTank_ok (orE_zero h).1).2.hs (Classical.choose_spec h2.2) hp]
theorem vol_no {n k : Nat} {H L : Nat → Int} {d0 d1 : Int} (h : ¬ volE n k H L d0 d1 = 0) : volA n k H L d0 d1 = 0 ∧ volB n k H L d0 d1 = 0 := by
  unfold volA volB
  exact ⟨dif_neg (fun g => h g.1), dif_neg (fun g => h g.1)⟩
theorem volE_1 {n k : Nat} {H L : Nat → Int} {d0 d1 : Int} (h : ¬ eTank n k H L = 0) : volE n k H L d0 d1 = eTank n k H L := if_neg h
theorem volE_2 {n k : Nat} {H L : Nat → Int} {d0 d1 : Int} (h : eTank n k H L = 0) : volE n k H L d0 d1 = eS d0 d1 (H 0) (H (n - 1)) := if_pos h
noncomputable def volV (n k : Nat) (H L : Nat → Int) (d0 d1 : Int) : Value := .tuple #[.agg #[.int .i64 (volA n k H L d0 d1), .int .i64 (volB n k H L d0 d1)], .int .i64 (volE n k H L d0 d1)]
theorem volV_no {n k : Nat} {H L : Nat → Int} {d0 d1 : Int} (h : ¬ volE n k H L d0 d1 = 0) : volV n k H L d0 d1 = .tuple #[.agg #[.int .i64 0, .int .i64 0], .int .i64 (volE n k H L d0 d1)] := by
  unfold volV
  rw [(vol_no h).1, (vol_no h).2]
theorem volV_yes {n k : Nat} {H L : Nat → Int} {d0 d1 : Int} {i j : Nat} (h : volE n k H L d0 d1 = 0) (hi : Part n H d0 i) (hj : Part n H d1 j) : volV n k H L d0 d1 = .tuple #[.agg #[.int .i64 (ctLo H L d0 i), .int .i64 (ctHi H L d1 j)], .int .i64 0] := by
  unfold volV
  rw [volA_ok h hi, volB_ok h hj, h]

set_option maxRecDepth 100000 in
set_option maxHeartbeats 2000000 in
theorem volume_any (n k : Nat) (H L : Nat → Int) (d0 d1 : Int) (vH vL : Value) (w : World) (hH : IntsAt w vH n H) (hL : IntsAt w vL k L) :
    Calls Try.prog 19 #[.agg #[vH, vL], .agg #[.int .i64 d0, .int .i64 d1]] w fun e w' => e = .returned (volV n k H L d0 d1) ∧ Below w.heap.size w w' := by
  by_cases h0 : eTank n k H L = 0
  · obtain ⟨hk, ok⟩ := eTank_ok h0
    subst hk
    have hn2 := ok.n2
    obtain ⟨aH, cH, hvH, g1, g2, g3⟩ := id hH
    obtain ⟨aL, cL, hvL, g4, g5, g6⟩ := id hL
    obtain ⟨b, o, e1, hcH⟩ := g3 (by omega)
    obtain ⟨b2, o2, e2, hcL⟩ := g6 (by omega)
    subst e1 e2
    have hAH : AtC w b o k 1 (inC H) := hcH
    have hAL : AtC w b2 o2 k 1 (inC L) := hcL
    clear g3 g6 hcH hcL
    by_cases h1 : eS d0 d1 (H 0) (H (k - 1)) = 0
    · have hE : volE k k H L d0 d1 = 0 := (volE_2 h0).trans h1
      have hs := eS_zero h1
      subst hvH hvL
      refine (volume_ok k H L d0 d1 b o cH b2 o2 cL w ok h0 h1 hs.1 hs.2.1 hs.2.2 g1 g2 g4 g5 hAH hAL).mono ?_
      rintro e w' ⟨i, j, hi, hj, rfl, hb⟩
      exact ⟨by rw [volV_yes hE hi hj], hb⟩
    · have HE := Lib.hid (show volV k k H L d0 d1 = _ from volV_no (show ¬ volE k k H L d0 d1 = 0 by rw [volE_2 h0]; exact h1))
      have HE2 := Lib.hid (show volE k k H L d0 d1 = _ from volE_2 h0)
      have HT := Lib.hid (fun (W : World) (h : Below w.heap.size w W) => tank_any k k H L _ _ W (hH.later h) (hL.later h))
      simp only [h0] at HT
      have HS := Lib.hid (fun (W : World) => span_any d0 d1 (H 0) (H (k - 1)) W)
      have a1 := hAH.c1 (i := 0) (by omega) rfl
      rw [Nat.add_zero] at a1
      have a2 := hAH.c1 (i := k - 1) (by omega) rfl
      have HV := Lib.hid (fun (W : World) (hW : Below w.heap.size w W) => And.intro (cell_later hW a1) (cell_later hW a2))
      have zb := hAH.lt (i := 0) (by omega) rfl
      have ok40 := ok.n40
      clear a1 a2 hAH hAL hH hL ok h0
      have jT := ((Blk.new w #[vH, vL] 24).alloc (.cells #[.int .i64 d0, .int .i64 d1] 26)).alloc (.cells #[.int .i64 0, .int .i64 0] 26)
      have jQ := (Blk.new1 w (.cells #[vH, vL] 24) #[.int .i64 d0, .int .i64 d1] 26).alloc (.cells #[.int .i64 0, .int .i64 0] 26)
      have jR := Blk.new2 w (.cells #[vH, vL] 24) (.cells #[.int .i64 d0, .int .i64 d1] 26) #[.int .i64 0, .int .i64 0] 26
      have jB : Below w.heap.size w (((w.alloc (.cells #[vH, vL] 24)).alloc (.cells #[.int .i64 d0, .int .i64 d1] 26)).alloc (.cells #[.int .i64 0, .int .i64 0] 26)) := by (repeat (first | exact Below.refl _ _ | assumption | refine Below.drew ?_ | refine Below.drewN ?_ _ | refine blT ?_ | refine blU ?_))
      subst hvH hvL
      go_enter Try.func19, Try.ntmps19
      go_wp2_with fail
      refine (HT.out _ jB).mono ?_
      rintro e w1 ⟨rfl, hb⟩
      replace jT := jT.call hb
      replace jQ := jQ.call hb
      replace jR := jR.call hb
      replace jB := bwS jB (Nat.le_refl _) hb
      clear hb HT
      have e0 : ((0 : Int) != 0) = false := by decide
      have e1 : IntKind.i64.wrap ((k : Int) - 1) = ((k - 1 : Nat) : Int) := by rw [show (k : Int) - 1 = ((k - 1 : Nat) : Int) by omega]; exact IntWalk.i64_in _ (by omega)
      have e2 : k - 1 < k := by omega
      have e3 : ((k - 1 : Nat) : Int) < k := by omega
      have e4 : (0 : Int) < k := by omega
      have e5 : 0 < k := by omega
      go_upto_region 4 with fail
      refine wp_region_held_drew (S := (fun wx => Blk wx w.heap.size #[.slice (some ⟨b, o, none⟩) k cH, .slice (some ⟨b2, o2, none⟩) k cL] 24 ∧ Blk wx (w.heap.size + 1) #[.int .i64 d0, .int .i64 d1] 26 ∧ Blk wx (w.heap.size + 1 + 1) #[.int .i64 0, .int .i64 0] 26 ∧ Below w.heap.size w wx)) (by kernel_rfl) ?_ (fun hH => ?_)
      · (try dsimp only); (exact ⟨jT.drew, jQ.drew, jR.drew, jB.drew⟩)
      refine tkY 0 (some 14) ?_ ?_ ?_
      rotate_left
      · intro w hS0; (try dsimp only at hS0); obtain ⟨kT, kQ, kR, kB⟩ := hS0; obtain ⟨c0, c1⟩ := kT.c2; obtain ⟨q0, q1⟩ := kQ.c2; obtain ⟨r1, r2⟩ := HV.out _ kB; have y1 := kT.lt; have y2 := kQ.lt; have y3 := World.block_lt_of_cell? _ _ r1;go_simp; (try with_reducible rfl)
      (try simp only [cq])
      refine tkY 1 (some 15) ?_ ?_ ?_
      rotate_left
      · intro w hS0; (try dsimp only at hS0); obtain ⟨kT, kQ, kR, kB⟩ := hS0; obtain ⟨c0, c1⟩ := kT.c2; obtain ⟨q0, q1⟩ := kQ.c2; obtain ⟨r1, r2⟩ := HV.out _ kB; have y1 := kT.lt; have y2 := kQ.lt; have y3 := World.block_lt_of_cell? _ _ r1;go_simp; (try with_reducible rfl)
      (try simp only [cq])
      refine tkY 2 (some 16) ?_ ?_ ?_
      rotate_left
      · intro w hS0; (try dsimp only at hS0); obtain ⟨kT, kQ, kR, kB⟩ := hS0; obtain ⟨c0, c1⟩ := kT.c2; obtain ⟨q0, q1⟩ := kQ.c2; obtain ⟨r1, r2⟩ := HV.out _ kB; have y1 := kT.lt; have y2 := kQ.lt; have y3 := World.block_lt_of_cell? _ _ r1;go_simp; (try with_reducible rfl)
      (try simp only [cq])
      refine tkY 3 (some 17) ?_ ?_ ?_
      rotate_left
      · intro w hS0; (try dsimp only at hS0); obtain ⟨kT, kQ, kR, kB⟩ := hS0; obtain ⟨c0, c1⟩ := kT.c2; obtain ⟨q0, q1⟩ := kQ.c2; obtain ⟨r1, r2⟩ := HV.out _ kB; have y1 := kT.lt; have y2 := kQ.lt; have y3 := World.block_lt_of_cell? _ _ r1;go_simp; (try with_reducible rfl)
      (try simp only [cq])
      refine tkY 4 (some 18) ?_ ?_ ?_
      rotate_left
      · intro w hS0; (try dsimp only at hS0); obtain ⟨kT, kQ, kR, kB⟩ := hS0; obtain ⟨c0, c1⟩ := kT.c2; obtain ⟨q0, q1⟩ := kQ.c2; obtain ⟨r1, r2⟩ := HV.out _ kB; have y1 := kT.lt; have y2 := kQ.lt; have y3 := World.block_lt_of_cell? _ _ r1;go_simp; (try with_reducible rfl)
      (try simp only [cq])
      refine tkY 5 (some 19) ?_ ?_ ?_
      rotate_left
      · intro w hS0; (try dsimp only at hS0); obtain ⟨kT, kQ, kR, kB⟩ := hS0; obtain ⟨c0, c1⟩ := kT.c2; obtain ⟨q0, q1⟩ := kQ.c2; obtain ⟨r1, r2⟩ := HV.out _ kB; have y1 := kT.lt; have y2 := kQ.lt; have y3 := World.block_lt_of_cell? _ _ r1;go_simp; (try with_reducible rfl)
      (try simp only [cq])
      refine tkY 6 (some 20) ?_ ?_ ?_
      rotate_left
      · intro w hS0; (try dsimp only at hS0); obtain ⟨kT, kQ, kR, kB⟩ := hS0; obtain ⟨c0, c1⟩ := kT.c2; obtain ⟨q0, q1⟩ := kQ.c2; obtain ⟨r1, r2⟩ := HV.out _ kB; have y1 := kT.lt; have y2 := kQ.lt; have y3 := World.block_lt_of_cell? _ _ r1;go_simp; (try with_reducible rfl)
      (try simp only [cq])
      refine tkY 7 (some 21) ?_ ?_ ?_
      rotate_left
      · intro w hS0; (try dsimp only at hS0); obtain ⟨kT, kQ, kR, kB⟩ := hS0; obtain ⟨c0, c1⟩ := kT.c2; obtain ⟨q0, q1⟩ := kQ.c2; obtain ⟨r1, r2⟩ := HV.out _ kB; have y1 := kT.lt; have y2 := kQ.lt; have y3 := World.block_lt_of_cell? _ _ r1;go_simp; (try with_reducible rfl)
      (try simp only [cq])
      refine tkY 8 (some 22) ?_ ?_ ?_
      rotate_left
      · intro w hS0; (try dsimp only at hS0); obtain ⟨kT, kQ, kR, kB⟩ := hS0; obtain ⟨c0, c1⟩ := kT.c2; obtain ⟨q0, q1⟩ := kQ.c2; obtain ⟨r1, r2⟩ := HV.out _ kB; have y1 := kT.lt; have y2 := kQ.lt; have y3 := World.block_lt_of_cell? _ _ r1;go_simp; (try with_reducible rfl)
      (try simp only [cq])
      refine tkY 9 (some 23) ?_ ?_ ?_
      rotate_left
      · intro w hS0; (try dsimp only at hS0); obtain ⟨kT, kQ, kR, kB⟩ := hS0; obtain ⟨c0, c1⟩ := kT.c2; obtain ⟨q0, q1⟩ := kQ.c2; obtain ⟨r1, r2⟩ := HV.out _ kB; have y1 := kT.lt; have y2 := kQ.lt; have y3 := World.block_lt_of_cell? _ _ r1;go_simp; (try with_reducible rfl)
      (try simp only [cq])
      refine tkY 10 (some 24) ?_ ?_ ?_
      rotate_left
      · intro w _; go_simp; (try with_reducible rfl)
      (try simp only [cq])
      refine tkY 11 (some 25) ?_ ?_ ?_
      rotate_left
      · intro w hS0; (try dsimp only at hS0); obtain ⟨kT, kQ, kR, kB⟩ := hS0; obtain ⟨c0, c1⟩ := kT.c2; obtain ⟨q0, q1⟩ := kQ.c2; obtain ⟨r1, r2⟩ := HV.out _ kB; have y1 := kT.lt; have y2 := kQ.lt; have y3 := World.block_lt_of_cell? _ _ r1;go_simp; (try with_reducible rfl)
      (try simp only [cq])
      refine tkY 12 (some 26) ?_ ?_ ?_
      rotate_left
      · intro w hS0; (try dsimp only at hS0); obtain ⟨kT, kQ, kR, kB⟩ := hS0; obtain ⟨c0, c1⟩ := kT.c2; obtain ⟨q0, q1⟩ := kQ.c2; obtain ⟨r1, r2⟩ := HV.out _ kB; have y1 := kT.lt; have y2 := kQ.lt; have y3 := World.block_lt_of_cell? _ _ r1;go_simp; (try with_reducible rfl)
      (try simp only [cq])
      refine wpAnyH_ready (rs := [13]) (by kernel_rfl) (by simp) ?_
      refine arc1 (some 27) fun K hK => ?_
      go_simp
      (refine (HS.out _).mono ?_; rintro e w' ⟨rfl, hb⟩)
      refine hK.out _ _ ?_ ?_
      · (exact ⟨hH.1.call hb, hH.2.1.call hb, hH.2.2.1.call hb, bwS hH.2.2.2 (Nat.le_refl _) hb⟩)
      (try clear hH); (try clear hb)
      intro hH
      clear hK K
      (try simp only [cq])
      refine tkY 14 (some 7) ?_ ?_ ?_
      rotate_left
      · intro w _; go_simp; (try with_reducible rfl)
      (try simp only [cq])
      refine wpAnyH_done (by kernel_rfl) ?_ _
      (try dsimp only [Act.put])
      (try simp only [cq])
      clear jT jQ jR jB HS
      obtain ⟨jT, jQ, jR, jB⟩ := hH
      have hz2 : (eS d0 d1 (H 0) (H (k - 1)) != 0) = true := by simpa using h1
      clear h1
      obtain ⟨E, hE⟩ : ∃ z, eS d0 d1 (H 0) (H (k - 1)) = z := ⟨_, rfl⟩
      rw [hE] at hz2 ⊢
      have HE3 := Lib.hid hE
      clear hE
      obtain ⟨r0, r1⟩ := jR.c2
      have f0 := jR.free 0
      have f1 := jR.free 1
      have zR := jR.lt
      have KR := Lib.hid ((jR.set 0 (.int .i64 0)).set 1 (.int .i64 0))
      have KB := Lib.hid (below_set2 (c := w.heap.size + 1 + 1) (j := 0) (k := 1) jB (by omega) (.int .i64 0) (.int .i64 0))
      clear jT jQ jR jB
      go_wp2_with fail
      obtain ⟨z0, z1⟩ := KR.out.c2
      exact bodyPost_ret (v := .tuple #[.agg #[.int .i64 0, .int .i64 0], .int .i64 E]) (by simp [results, Try.results19, go_sem, z0, z1]) rfl ⟨by rw [HE.out, HE2.out, HE3.out], KB.out⟩
  · have HE := Lib.hid (show volV n k H L d0 d1 = _ from volV_no (show ¬ volE n k H L d0 d1 = 0 by rw [volE_1 h0]; exact h0))
    have HE2 := Lib.hid (show volE n k H L d0 d1 = _ from volE_1 h0)
    have HT := Lib.hid (fun (W : World) (h : Below w.heap.size w W) => tank_any n k H L _ _ W (hH.later h) (hL.later h))
    clear hH hL
    have jT := ((Blk.new w #[vH, vL] 24).alloc (.cells #[.int .i64 d0, .int .i64 d1] 26)).alloc (.cells #[.int .i64 0, .int .i64 0] 26)
    have jQ := (Blk.new1 w (.cells #[vH, vL] 24) #[.int .i64 d0, .int .i64 d1] 26).alloc (.cells #[.int .i64 0, .int .i64 0] 26)
    have jR := Blk.new2 w (.cells #[vH, vL] 24) (.cells #[.int .i64 d0, .int .i64 d1] 26) #[.int .i64 0, .int .i64 0] 26
    have jB : Below w.heap.size w (((w.alloc (.cells #[vH, vL] 24)).alloc (.cells #[.int .i64 d0, .int .i64 d1] 26)).alloc (.cells #[.int .i64 0, .int .i64 0] 26)) := by (repeat (first | exact Below.refl _ _ | assumption | refine Below.drew ?_ | refine Below.drewN ?_ _ | refine blT ?_ | refine blU ?_))
    go_enter Try.func19, Try.ntmps19
    go_wp2_with fail
    refine (HT.out _ jB).mono ?_
    rintro e w1 ⟨rfl, hb⟩
    replace jT := jT.call hb
    replace jQ := jQ.call hb
    replace jR := jR.call hb
    replace jB := bwS jB (Nat.le_refl _) hb
    clear hb HT
    have hz2 : (eTank n k H L != 0) = true := by simpa using h0
    clear h0
    obtain ⟨E, hE⟩ : ∃ z, eTank n k H L = z := ⟨_, rfl⟩
    rw [hE] at hz2 ⊢
    have HE3 := Lib.hid hE
    clear hE
    obtain ⟨r0, r1⟩ := jR.c2
    have f0 := jR.free 0
    have f1 := jR.free 1
    have zR := jR.lt
    have KR := Lib.hid ((jR.set 0 (.int .i64 0)).set 1 (.int .i64 0))
    have KB := Lib.hid (below_set2 (c := w.heap.size + 1 + 1) (j := 0) (k := 1) jB (by omega) (.int .i64 0) (.int .i64 0))
    clear jT jQ jR jB
    go_wp2_with fail
    obtain ⟨z0, z1⟩ := KR.out.c2
    exact bodyPost_ret (v := .tuple #[.agg #[.int .i64 0, .int .i64 0], .int .i64 E]) (by simp [results, Try.results19, go_sem, z0, z1]) rfl ⟨by rw [HE.out, HE2.out, HE3.out], KB.out⟩
end Go.Proofs.Ytegdflikeoiaaaa
