/-
  checkTank of the reference, exact for any tank.
  content and Volume of the reference, at any tank and any dip.
-/
import Derived.Test.YtegdflikeoiaaaaTail
import Derived.Test.YtegdflikeoiaaaaVan
import Derived.Test.YtegdflikeoiaaaaRck
import Derived.Test.YtegdflikeoiaaaaStn
set_option linter.unusedVariables false
set_option linter.unusedSimpArgs false
namespace Go.Proofs.Ytegdflikeoiaaaa
open Go.RowKit

theorem eTk_h {H L : Nat → Int} {i : Nat} (h : (decide (0 ≤ H i) && decide (H i ≤ 100000)) = false) : eTk H L i = 2 := by
  unfold eTk; rw [eN_out h]; rfl
theorem eTk_l {H L : Nat → Int} {i : Nat} (h : (decide (0 ≤ H i) && decide (H i ≤ 100000)) = true) (h2 : (decide (0 ≤ L i) && decide (L i ≤ 1000000000)) = false) : eTk H L i = 2 := by
  unfold eTk; rw [eN_in h, eN_out h2]; rfl
theorem eTk_0 {H L : Nat → Int} (h : (decide (0 ≤ H 0) && decide (H 0 ≤ 100000)) = true) (h2 : (decide (0 ≤ L 0) && decide (L 0 ≤ 1000000000)) = true) : eTk H L 0 = 0 := by
  unfold eTk; rw [eN_in h, eN_in h2]; simp [orE, eO]
theorem eTk_s {H L : Nat → Int} {j : Nat} (h : (decide (0 ≤ H (j + 1)) && decide (H (j + 1) ≤ 100000)) = true) (h2 : (decide (0 ≤ L (j + 1)) && decide (L (j + 1) ≤ 1000000000)) = true) : eTk H L (j + 1) = if H (j + 1) ≤ H j ∨ L (j + 1) < L j then 11 else 0 := by
  unfold eTk; rw [eN_in h, eN_in h2]
  by_cases a : H (j + 1) ≤ H j
  · rw [if_pos (Or.inl a)]
    have : ¬ H j < H (j + 1) := by omega
    simp [orE, eO, this]
  · have a' : H j < H (j + 1) := by omega
    by_cases b : L (j + 1) < L j
    · rw [if_pos (Or.inr b)]
      have : ¬ L j ≤ L (j + 1) := by omega
      simp [orE, eO, a', this]
    · have b' : L j ≤ L (j + 1) := by omega
      rw [if_neg (by omega)]
      simp [orE, eO, a', b']
set_option maxRecDepth 100000 in
set_option maxHeartbeats 4000000 in
theorem rtank_any (n k : Nat) (H L : Nat → Int) (vH vL : Value) (w : World) (hH : IntsAt w vH n H) (hL : IntsAt w vL k L) :
    Calls Try.prog 72 #[.agg #[vH, vL]] w fun e w' => e = .returned (.int .i64 (eTank n k H L)) ∧ Below w.heap.size w w' := by
  obtain ⟨aH, cH, rfl, p1, p2, p3⟩ := hH
  obtain ⟨aL, cL, rfl, q1, q2, q3⟩ := hL
  have HA := Lib.hid p3
  have HC := Lib.hid q3
  clear p3 q3
  have jT := Blk.new w #[.slice aH n cH, .slice aL k cL] 24
  have hB : Below w.heap.size w (w.alloc (.cells #[.slice aH n cH, .slice aL k cL] 24)) := by (repeat (first | exact Below.refl _ _ | assumption | refine Below.drew ?_ | refine Below.drewN ?_ _ | refine blT ?_ | refine blU ?_))
  by_cases h1 : (n : Int) < 2
  · have hE : eTank n k H L = 6 := by
      have : eTn3 n k = 6 := by unfold eTn3 eLs; rw [if_pos h1]; rfl
      unfold eTank; rw [this]; rfl
    rw [hE]
    clear hE
    go_enter Try.func72, Try.ntmps72
    go_wp2
    go_ret
    exact ⟨rfl, hB⟩
  by_cases h2 : (40 : Int) < n
  · have hE : eTank n k H L = 8 := by
      have : eTn3 n k = 8 := by unfold eTn3 eLs eM; rw [if_neg h1, if_pos h2]; rfl
      unfold eTank; rw [this]; rfl
    rw [hE]
    clear hE
    obtain ⟨c0, c1⟩ := jT.c2
    go_enter Try.func72, Try.ntmps72
    go_wp2
    go_ret
    exact ⟨rfl, hB⟩
  by_cases h3 : k = n
  rotate_left
  · have e3 : ((k : Int) != n) = true := by simp; omega
    have hE : eTank n k H L = 3 := by
      have : eTn3 n k = 3 := by unfold eTn3 eLs eM; rw [if_neg h1, if_neg h2, show ((k : Int) == n) = false by simp; omega]; rfl
      unfold eTank; rw [this]; rfl
    rw [hE]
    clear hE
    obtain ⟨c0, c1⟩ := jT.c2
    go_enter Try.func72, Try.ntmps72
    go_wp2
    go_ret
    exact ⟨rfl, hB⟩
  subst h3
  have e3 : ((k : Int) != k) = false := by simp
  have hE : eTank k k H L = firstNZ (eTk H L) 0 k := by
    have : eTn3 k k = 0 := by unfold eTn3 eLs eM; rw [if_neg h1, if_neg h2, show ((k : Int) == k) = true by simp]; rfl
    unfold eTank; rw [this, if_pos rfl]; unfold eL; rw [if_neg h2]
  rw [hE]
  clear hE
  go_enter Try.func72, Try.ntmps72
  obtain ⟨c0, c1⟩ := jT.c2
  go_wp2_with fail
  clear c0 c1
  go_loopw [3] (fun i wr => ∃ d : Nat, d ≤ k ∧ i = .int .i64 d ∧ firstNZ (eTk H L) 0 k = firstNZ (eTk H L) d (k - d) ∧ Blk wr w.heap.size #[.slice aH k cH, .slice aL k cL] 24 ∧ Below w.heap.size w wr) (fun i _ => k - (intOf i).toNat)
  case atStart => exact ⟨0, Nat.zero_le _, rfl, rfl, jT, hB⟩
  case round =>
    clear jT hB h1 h2 e3
    obtain ⟨i, hi, rfl, hd, jT, hB⟩ := hrel
    have HD := Lib.hid hd
    clear hd
    by_cases hlt : i < k
    · obtain ⟨b, o, ha, hc⟩ := HA.out (by omega)
      obtain ⟨b2, o2, ha2, hc2⟩ := HC.out (by omega)
      subst ha ha2
      have hcH : AtC w b o k 1 (inC H) := hc
      have hcL : AtC w b2 o2 k 1 (inC L) := hc2
      clear hc hc2
      have a0 := hcH.c1 hlt rfl
      have a1 := hcL.c1 hlt rfl
      have HV := Lib.hid (fun (W : World) (hW : Below w.heap.size w W) => And.intro (cell_later hW a0) (cell_later hW a1))
      have HP := Lib.hid (fun (j : Nat) (hj : i = j + 1) (W : World) (hW : Below w.heap.size w W) => And.intro (cell_later hW (hcH.c1 (i := j) (by omega) rfl)) (cell_later hW (hcL.c1 (i := j) (by omega) rfl)))
      have H0 : Hid (∀ _ : eTk H L i = 0, Hid _) := fun h => firstNZ_step0 (eTk H L) k i (by omega) h
      have HN : Hid (∀ _ : ¬ eTk H L i = 0, Hid _) := fun h => firstNZ_stepN (eTk H L) k i (by omega) h
      have zb := World.block_lt_of_cell? _ _ a0
      have zb2 := World.block_lt_of_cell? _ _ a1
      have hltI : (i : Int) < k := by omega
      clear a0 a1 hcH hcL
      obtain ⟨x0, x1⟩ := HV.out _ hB
      obtain ⟨c0, c1⟩ := jT.c2
      have K0 := Lib.hid (fun (W : World) => within_any (H i) 0 100000 W)
      have K1 := Lib.hid (fun (W : World) => within_any (L i) 0 1000000000 W)
      cases hw : (decide (0 ≤ H i) && decide (H i ≤ 100000)) with
      | false =>
        have hE := eTk_h (L := L) hw
        have HE := Lib.hid (HD.out.trans ((HN.out (by rw [hE]; decide)).out.trans hE))
        simp only [hw] at K0
        clear hw hE
        go_wp2_with fail
        refine (K0.out _).mono ?_
        rintro e w2 ⟨rfl, hb⟩
        replace hB := bwS hB (Nat.le_refl _) hb
        clear hb K0 x0 x1 c0 c1 jT
        go_wp2
        go_ret
        exact ⟨by rw [HE.out]; rfl, hB⟩
      | true =>
      cases hw2 : (decide (0 ≤ L i) && decide (L i ≤ 1000000000)) with
      | false =>
        have hE := eTk_l (L := L) hw hw2
        have HE := Lib.hid (HD.out.trans ((HN.out (by rw [hE]; decide)).out.trans hE))
        simp only [hw] at K0
        simp only [hw2] at K1
        clear hw hw2 hE
        go_wp2_with fail
        refine (K0.out _).mono ?_
        rintro e w2 ⟨rfl, hb⟩
        replace jT := jT.call hb
        replace hB := bwS hB (Nat.le_refl _) hb
        clear hb K0 x0 x1 c0 c1
        obtain ⟨x0, x1⟩ := HV.out _ hB
        obtain ⟨c0, c1⟩ := jT.c2
        go_wp2_with fail
        refine (K1.out _).mono ?_
        rintro e w2 ⟨rfl, hb⟩
        replace hB := bwS hB (Nat.le_refl _) hb
        clear hb K1 x0 x1 c0 c1 jT
        go_wp2
        go_ret
        exact ⟨by rw [HE.out]; rfl, hB⟩
      | true =>
        simp only [hw] at K0
        simp only [hw2] at K1
        have HW := Lib.hid (And.intro hw hw2)
        clear hw hw2
        go_wp2_with fail
        refine (K0.out _).mono ?_
        rintro e w2 ⟨rfl, hb⟩
        replace jT := jT.call hb
        replace hB := bwS hB (Nat.le_refl _) hb
        clear hb K0 x0 x1 c0 c1
        obtain ⟨x0, x1⟩ := HV.out _ hB
        obtain ⟨c0, c1⟩ := jT.c2
        go_wp2_with fail
        refine (K1.out _).mono ?_
        rintro e w2 ⟨rfl, hb⟩
        replace jT := jT.call hb
        replace hB := bwS hB (Nat.le_refl _) hb
        clear hb K1 x0 x1 c0 c1
        by_cases hk0 : i = 0
        · subst hk0
          have HE := Lib.hid (HD.out.trans (H0.out (eTk_0 HW.out.1 HW.out.2)).out)
          clear H0 HN HD HP HV HW
          go_upto_region 12 with fail
          refine wp_region_held_drew (S := (fun wx => Blk wx w.heap.size #[.slice (some ⟨b, o, none⟩) k cH, .slice (some ⟨b2, o2, none⟩) k cL] 24 ∧ Below w.heap.size w wx)) (by kernel_rfl) ?_ (fun hH => ?_)
          · (try dsimp only); (exact ⟨jT.drew, hB.drew⟩)
          refine tkY 0 (some 42) ?_ ?_ ?_
          rotate_left
          · intro w _; go_simp; (try with_reducible rfl)
          (try simp only [cq])
          refine tkY 1 (some 43) ?_ ?_ ?_
          rotate_left
          · intro w _; go_simp; (try with_reducible rfl)
          (try simp only [cq])
          refine tkY 2 (some 44) ?_ ?_ ?_
          rotate_left
          · intro w _; go_simp; (try with_reducible rfl)
          (try simp only [cq])
          refine tkN 3 (some 45) ?_
          (try simp only [cq])
          refine tkN 4 (some 46) ?_
          (try simp only [cq])
          refine tkN 5 (some 47) ?_
          (try simp only [cq])
          refine tkN 6 (some 48) ?_
          (try simp only [cq])
          refine tkN 7 (some 49) ?_
          (try simp only [cq])
          refine tkN 8 (some 50) ?_
          (try simp only [cq])
          refine tkN 9 (some 51) ?_
          (try simp only [cq])
          refine tkN 10 (some 52) ?_
          (try simp only [cq])
          refine tkN 11 (some 53) ?_
          (try simp only [cq])
          refine tkN 12 (some 54) ?_
          (try simp only [cq])
          refine tkN 13 (some 55) ?_
          (try simp only [cq])
          refine tkN 14 (some 56) ?_
          (try simp only [cq])
          refine tkN 15 (some 57) ?_
          (try simp only [cq])
          refine tkN 16 (some 58) ?_
          (try simp only [cq])
          refine tkN 17 (some 59) ?_
          (try simp only [cq])
          refine tkN 18 (some 60) ?_
          (try simp only [cq])
          refine tkN 19 (some 61) ?_
          (try simp only [cq])
          refine tkN 20 (some 62) ?_
          (try simp only [cq])
          refine tkN 21 (some 63) ?_
          (try simp only [cq])
          refine tkN 22 (some 64) ?_
          (try simp only [cq])
          refine tkN 23 (some 65) ?_
          (try simp only [cq])
          refine tkN 24 (some 66) ?_
          (try simp only [cq])
          refine tkN 25 (some 67) ?_
          (try simp only [cq])
          refine tkN 26 (some 68) ?_
          (try simp only [cq])
          refine tkN 27 (some 69) ?_
          (try simp only [cq])
          refine tkN 28 (some 70) ?_
          (try simp only [cq])
          refine tkY 29 (some 71) ?_ ?_ ?_
          rotate_left
          · intro w _; go_simp; (try with_reducible rfl)
          (try simp only [cq])
          refine wpAnyH_done (by kernel_rfl) ?_ _
          (try dsimp only [Act.put])
          (try simp only [cq])
          clear jT hB
          go_wp2
          go_roundw
          case rel => exact ⟨0 + 1, by omega, by go_num, HE.out, hH⟩
          case measure => simp [intOf]; omega
        · obtain ⟨j, rfl⟩ : ∃ j, i = j + 1 := ⟨i - 1, by omega⟩
          have hE := eTk_s HW.out.1 HW.out.2
          clear hk0 HW
          have HV2 := Lib.hid (fun (W : World) (hW : Below w.heap.size w W) => And.intro (HV.out W hW) (HP.out j rfl W hW))
          clear HV HP
          have HE := Lib.hid hE
          clear hE
          have e4 : IntKind.i64.wrap (((j + 1 : Nat) : Int) - 1) = (j : Int) := by rw [show ((j + 1 : Nat) : Int) - 1 = (j : Int) by omega]; exact IntWalk.i64_in _ (by omega)
          have e5 : (j : Int) < k := by omega
          have e6 : j < k := by omega
          have e7 : (0 : Int) < ((j + 1 : Nat) : Int) := by omega
          obtain ⟨i, hij⟩ : ∃ i, j + 1 = i := ⟨_, rfl⟩
          rw [hij] at HV2 HE H0 HN HD hltI hlt e4 e7 ⊢
          have e8 : decide ((0 : Int) < i) = true := decide_eq_true e7
          have e9 : decide (0 < i) = true := decide_eq_true (by omega)
          clear e7
          have HIJ := Lib.hid hij
          clear hij hi
          generalize H i = x at HV2 HE
          generalize H j = y at HV2 HE
          generalize L i = u at HV2 HE
          generalize L j = v at HV2 HE
          have LD := Lib.hid (fun (W : World) (h : Blk W w.heap.size #[.slice (some ⟨b, o, none⟩) k cH, .slice (some ⟨b2, o2, none⟩) k cL] 24 ∧ Below w.heap.size w W) => And.intro (h.1.c2) (And.intro h.1.lt (HV2.out W h.2)))
          by_cases g1 : x ≤ y
          · have hz : eTk H L i = 11 := by rw [HE.out, if_pos (Or.inl g1)]
            have HF := Lib.hid (HD.out.trans ((HN.out (by rw [hz]; decide)).out.trans hz))
            clear hz HE H0 HN HD
            have g3 : decide (x ≤ y) = true := decide_eq_true g1
            clear g1
            go_upto_region 12 with fail
            refine wp_region_held_drew (S := (fun wx => Blk wx w.heap.size #[.slice (some ⟨b, o, none⟩) k cH, .slice (some ⟨b2, o2, none⟩) k cL] 24 ∧ Below w.heap.size w wx)) (by kernel_rfl) ?_ (fun hH => ?_)
            · (try dsimp only); (exact ⟨jT.drew, hB.drew⟩)
            refine tkY 0 (some 42) ?_ ?_ ?_
            rotate_left
            · intro w _; go_simp; (try with_reducible rfl)
            (try simp only [cq])
            refine tkY 1 (some 43) ?_ ?_ ?_
            rotate_left
            · intro w _; go_simp; (try with_reducible rfl)
            (try simp only [cq])
            refine tkY 2 (some 44) ?_ ?_ ?_
            rotate_left
            · intro w _; go_simp; (try with_reducible rfl)
            (try simp only [cq])
            refine tkY 3 (some 45) ?_ ?_ ?_
            rotate_left
            · intro w hS0; (try dsimp only at hS0); obtain ⟨⟨c0, c1⟩, y1, ⟨x0, x1⟩, x2, x3⟩ := LD.out _ hS0;go_simp; (try with_reducible rfl)
            (try simp only [cq])
            refine tkY 4 (some 46) ?_ ?_ ?_
            rotate_left
            · intro w hS0; (try dsimp only at hS0); obtain ⟨⟨c0, c1⟩, y1, ⟨x0, x1⟩, x2, x3⟩ := LD.out _ hS0;go_simp; (try with_reducible rfl)
            (try simp only [cq])
            refine tkY 5 (some 47) ?_ ?_ ?_
            rotate_left
            · intro w _; go_simp; (try with_reducible rfl)
            (try simp only [cq])
            refine tkY 6 (some 48) ?_ ?_ ?_
            rotate_left
            · intro w hS0; (try dsimp only at hS0); obtain ⟨⟨c0, c1⟩, y1, ⟨x0, x1⟩, x2, x3⟩ := LD.out _ hS0;go_simp; (try with_reducible rfl)
            (try simp only [cq])
            refine tkY 7 (some 49) ?_ ?_ ?_
            rotate_left
            · intro w hS0; (try dsimp only at hS0); obtain ⟨⟨c0, c1⟩, y1, ⟨x0, x1⟩, x2, x3⟩ := LD.out _ hS0;go_simp; (try with_reducible rfl)
            (try simp only [cq])
            refine tkY 8 (some 50) ?_ ?_ ?_
            rotate_left
            · intro w hS0; (try dsimp only at hS0); obtain ⟨⟨c0, c1⟩, y1, ⟨x0, x1⟩, x2, x3⟩ := LD.out _ hS0;go_simp; (try with_reducible rfl)
            (try simp only [cq])
            refine tkY 9 (some 51) ?_ ?_ ?_
            rotate_left
            · intro w hS0; (try dsimp only at hS0); obtain ⟨⟨c0, c1⟩, y1, ⟨x0, x1⟩, x2, x3⟩ := LD.out _ hS0;go_simp; (try with_reducible rfl)
            (try simp only [cq])
            refine tkY 10 (some 52) ?_ ?_ ?_
            rotate_left
            · intro w _; go_simp; (try with_reducible rfl)
            (try simp only [cq])
            refine tkY 11 (some 53) ?_ ?_ ?_
            rotate_left
            · intro w _; go_simp; (try with_reducible rfl)
            (try simp only [cq])
            refine tkY 12 (some 54) ?_ ?_ ?_
            rotate_left
            · intro w hS0; (try dsimp only at hS0); obtain ⟨⟨c0, c1⟩, y1, ⟨x0, x1⟩, x2, x3⟩ := LD.out _ hS0;go_simp; (try with_reducible rfl)
            (try simp only [cq])
            refine tkY 13 (some 55) ?_ ?_ ?_
            rotate_left
            · intro w hS0; (try dsimp only at hS0); obtain ⟨⟨c0, c1⟩, y1, ⟨x0, x1⟩, x2, x3⟩ := LD.out _ hS0;go_simp; (try with_reducible rfl)
            (try simp only [cq])
            refine tkY 14 (some 56) ?_ ?_ ?_
            rotate_left
            · intro w _; go_simp; (try with_reducible rfl)
            (try simp only [cq])
            refine tkY 15 (some 57) ?_ ?_ ?_
            rotate_left
            · intro w _; go_simp; (try with_reducible rfl)
            (try simp only [cq])
            refine tkN 16 (some 58) ?_
            (try simp only [cq])
            refine tkN 17 (some 59) ?_
            (try simp only [cq])
            refine tkN 18 (some 60) ?_
            (try simp only [cq])
            refine tkN 19 (some 61) ?_
            (try simp only [cq])
            refine tkN 20 (some 62) ?_
            (try simp only [cq])
            refine tkN 21 (some 63) ?_
            (try simp only [cq])
            refine tkN 22 (some 64) ?_
            (try simp only [cq])
            refine tkN 23 (some 65) ?_
            (try simp only [cq])
            refine tkN 24 (some 66) ?_
            (try simp only [cq])
            refine tkN 25 (some 67) ?_
            (try simp only [cq])
            refine tkN 26 (some 68) ?_
            (try simp only [cq])
            refine tkN 27 (some 69) ?_
            (try simp only [cq])
            refine tkY 28 (some 70) ?_ ?_ ?_
            rotate_left
            · intro w _; go_simp; (try with_reducible rfl)
            (try simp only [cq])
            refine tkY 29 (some 71) ?_ ?_ ?_
            rotate_left
            · intro w _; go_simp; (try with_reducible rfl)
            (try simp only [cq])
            refine wpAnyH_done (by kernel_rfl) ?_ _
            (try dsimp only [Act.put])
            (try simp only [cq])
            have hB2 := hH.2
            clear jT hB hH
            go_wp2
            go_ret
            exact ⟨by rw [HF.out]; rfl, hB2⟩
          · have g3 : decide (x ≤ y) = false := decide_eq_false g1
            by_cases g2 : u < v
            · have hz : eTk H L i = 11 := by rw [HE.out, if_pos (Or.inr g2)]
              have HF := Lib.hid (HD.out.trans ((HN.out (by rw [hz]; decide)).out.trans hz))
              clear hz HE H0 HN HD g1
              have g4 : decide (u < v) = true := decide_eq_true g2
              clear g2
              go_upto_region 12 with fail
              refine wp_region_held_drew (S := (fun wx => Blk wx w.heap.size #[.slice (some ⟨b, o, none⟩) k cH, .slice (some ⟨b2, o2, none⟩) k cL] 24 ∧ Below w.heap.size w wx)) (by kernel_rfl) ?_ (fun hH => ?_)
              · (try dsimp only); (exact ⟨jT.drew, hB.drew⟩)
              refine tkY 0 (some 42) ?_ ?_ ?_
              rotate_left
              · intro w _; go_simp; (try with_reducible rfl)
              (try simp only [cq])
              refine tkY 1 (some 43) ?_ ?_ ?_
              rotate_left
              · intro w _; go_simp; (try with_reducible rfl)
              (try simp only [cq])
              refine tkY 2 (some 44) ?_ ?_ ?_
              rotate_left
              · intro w _; go_simp; (try with_reducible rfl)
              (try simp only [cq])
              refine tkY 3 (some 45) ?_ ?_ ?_
              rotate_left
              · intro w hS0; (try dsimp only at hS0); obtain ⟨⟨c0, c1⟩, y1, ⟨x0, x1⟩, x2, x3⟩ := LD.out _ hS0;go_simp; (try with_reducible rfl)
              (try simp only [cq])
              refine tkY 4 (some 46) ?_ ?_ ?_
              rotate_left
              · intro w hS0; (try dsimp only at hS0); obtain ⟨⟨c0, c1⟩, y1, ⟨x0, x1⟩, x2, x3⟩ := LD.out _ hS0;go_simp; (try with_reducible rfl)
              (try simp only [cq])
              refine tkY 5 (some 47) ?_ ?_ ?_
              rotate_left
              · intro w _; go_simp; (try with_reducible rfl)
              (try simp only [cq])
              refine tkY 6 (some 48) ?_ ?_ ?_
              rotate_left
              · intro w hS0; (try dsimp only at hS0); obtain ⟨⟨c0, c1⟩, y1, ⟨x0, x1⟩, x2, x3⟩ := LD.out _ hS0;go_simp; (try with_reducible rfl)
              (try simp only [cq])
              refine tkY 7 (some 49) ?_ ?_ ?_
              rotate_left
              · intro w hS0; (try dsimp only at hS0); obtain ⟨⟨c0, c1⟩, y1, ⟨x0, x1⟩, x2, x3⟩ := LD.out _ hS0;go_simp; (try with_reducible rfl)
              (try simp only [cq])
              refine tkY 8 (some 50) ?_ ?_ ?_
              rotate_left
              · intro w hS0; (try dsimp only at hS0); obtain ⟨⟨c0, c1⟩, y1, ⟨x0, x1⟩, x2, x3⟩ := LD.out _ hS0;go_simp; (try with_reducible rfl)
              (try simp only [cq])
              refine tkY 9 (some 51) ?_ ?_ ?_
              rotate_left
              · intro w hS0; (try dsimp only at hS0); obtain ⟨⟨c0, c1⟩, y1, ⟨x0, x1⟩, x2, x3⟩ := LD.out _ hS0;go_simp; (try with_reducible rfl)
              (try simp only [cq])
              refine tkY 10 (some 52) ?_ ?_ ?_
              rotate_left
              · intro w _; go_simp; (try with_reducible rfl)
              (try simp only [cq])
              refine tkY 11 (some 53) ?_ ?_ ?_
              rotate_left
              · intro w _; go_simp; (try with_reducible rfl)
              (try simp only [cq])
              refine tkY 12 (some 54) ?_ ?_ ?_
              rotate_left
              · intro w hS0; (try dsimp only at hS0); obtain ⟨⟨c0, c1⟩, y1, ⟨x0, x1⟩, x2, x3⟩ := LD.out _ hS0;go_simp; (try with_reducible rfl)
              (try simp only [cq])
              refine tkY 13 (some 55) ?_ ?_ ?_
              rotate_left
              · intro w hS0; (try dsimp only at hS0); obtain ⟨⟨c0, c1⟩, y1, ⟨x0, x1⟩, x2, x3⟩ := LD.out _ hS0;go_simp; (try with_reducible rfl)
              (try simp only [cq])
              refine tkY 14 (some 56) ?_ ?_ ?_
              rotate_left
              · intro w _; go_simp; (try with_reducible rfl)
              (try simp only [cq])
              refine tkY 15 (some 57) ?_ ?_ ?_
              rotate_left
              · intro w _; go_simp; (try with_reducible rfl)
              (try simp only [cq])
              refine tkY 16 (some 58) ?_ ?_ ?_
              rotate_left
              · intro w hS0; (try dsimp only at hS0); obtain ⟨⟨c0, c1⟩, y1, ⟨x0, x1⟩, x2, x3⟩ := LD.out _ hS0;go_simp; (try with_reducible rfl)
              (try simp only [cq])
              refine tkY 17 (some 59) ?_ ?_ ?_
              rotate_left
              · intro w hS0; (try dsimp only at hS0); obtain ⟨⟨c0, c1⟩, y1, ⟨x0, x1⟩, x2, x3⟩ := LD.out _ hS0;go_simp; (try with_reducible rfl)
              (try simp only [cq])
              refine tkY 18 (some 60) ?_ ?_ ?_
              rotate_left
              · intro w _; go_simp; (try with_reducible rfl)
              (try simp only [cq])
              refine tkY 19 (some 61) ?_ ?_ ?_
              rotate_left
              · intro w hS0; (try dsimp only at hS0); obtain ⟨⟨c0, c1⟩, y1, ⟨x0, x1⟩, x2, x3⟩ := LD.out _ hS0;go_simp; (try with_reducible rfl)
              (try simp only [cq])
              refine tkY 20 (some 62) ?_ ?_ ?_
              rotate_left
              · intro w hS0; (try dsimp only at hS0); obtain ⟨⟨c0, c1⟩, y1, ⟨x0, x1⟩, x2, x3⟩ := LD.out _ hS0;go_simp; (try with_reducible rfl)
              (try simp only [cq])
              refine tkY 21 (some 63) ?_ ?_ ?_
              rotate_left
              · intro w hS0; (try dsimp only at hS0); obtain ⟨⟨c0, c1⟩, y1, ⟨x0, x1⟩, x2, x3⟩ := LD.out _ hS0;go_simp; (try with_reducible rfl)
              (try simp only [cq])
              refine tkY 22 (some 64) ?_ ?_ ?_
              rotate_left
              · intro w hS0; (try dsimp only at hS0); obtain ⟨⟨c0, c1⟩, y1, ⟨x0, x1⟩, x2, x3⟩ := LD.out _ hS0;go_simp; (try with_reducible rfl)
              (try simp only [cq])
              refine tkY 23 (some 65) ?_ ?_ ?_
              rotate_left
              · intro w _; go_simp; (try with_reducible rfl)
              (try simp only [cq])
              refine tkY 24 (some 66) ?_ ?_ ?_
              rotate_left
              · intro w _; go_simp; (try with_reducible rfl)
              (try simp only [cq])
              refine tkY 25 (some 67) ?_ ?_ ?_
              rotate_left
              · intro w hS0; (try dsimp only at hS0); obtain ⟨⟨c0, c1⟩, y1, ⟨x0, x1⟩, x2, x3⟩ := LD.out _ hS0;go_simp; (try with_reducible rfl)
              (try simp only [cq])
              refine tkY 26 (some 68) ?_ ?_ ?_
              rotate_left
              · intro w hS0; (try dsimp only at hS0); obtain ⟨⟨c0, c1⟩, y1, ⟨x0, x1⟩, x2, x3⟩ := LD.out _ hS0;go_simp; (try with_reducible rfl)
              (try simp only [cq])
              refine tkY 27 (some 69) ?_ ?_ ?_
              rotate_left
              · intro w _; go_simp; (try with_reducible rfl)
              (try simp only [cq])
              refine tkY 28 (some 70) ?_ ?_ ?_
              rotate_left
              · intro w _; go_simp; (try with_reducible rfl)
              (try simp only [cq])
              refine tkY 29 (some 71) ?_ ?_ ?_
              rotate_left
              · intro w _; go_simp; (try with_reducible rfl)
              (try simp only [cq])
              refine wpAnyH_done (by kernel_rfl) ?_ _
              (try dsimp only [Act.put])
              (try simp only [cq])
              have hB2 := hH.2
              clear jT hB hH
              go_wp2
              go_ret
              exact ⟨by rw [HF.out]; rfl, hB2⟩
            · have hz : eTk H L i = 0 := by rw [HE.out, if_neg (by omega)]
              have HF := Lib.hid (HD.out.trans (H0.out hz).out)
              clear hz HE H0 HN HD g1
              have g4 : decide (u < v) = false := decide_eq_false g2
              clear g2
              go_upto_region 12 with fail
              refine wp_region_held_drew (S := (fun wx => Blk wx w.heap.size #[.slice (some ⟨b, o, none⟩) k cH, .slice (some ⟨b2, o2, none⟩) k cL] 24 ∧ Below w.heap.size w wx)) (by kernel_rfl) ?_ (fun hH => ?_)
              · (try dsimp only); (exact ⟨jT.drew, hB.drew⟩)
              refine tkY 0 (some 42) ?_ ?_ ?_
              rotate_left
              · intro w _; go_simp; (try with_reducible rfl)
              (try simp only [cq])
              refine tkY 1 (some 43) ?_ ?_ ?_
              rotate_left
              · intro w _; go_simp; (try with_reducible rfl)
              (try simp only [cq])
              refine tkY 2 (some 44) ?_ ?_ ?_
              rotate_left
              · intro w _; go_simp; (try with_reducible rfl)
              (try simp only [cq])
              refine tkY 3 (some 45) ?_ ?_ ?_
              rotate_left
              · intro w hS0; (try dsimp only at hS0); obtain ⟨⟨c0, c1⟩, y1, ⟨x0, x1⟩, x2, x3⟩ := LD.out _ hS0;go_simp; (try with_reducible rfl)
              (try simp only [cq])
              refine tkY 4 (some 46) ?_ ?_ ?_
              rotate_left
              · intro w hS0; (try dsimp only at hS0); obtain ⟨⟨c0, c1⟩, y1, ⟨x0, x1⟩, x2, x3⟩ := LD.out _ hS0;go_simp; (try with_reducible rfl)
              (try simp only [cq])
              refine tkY 5 (some 47) ?_ ?_ ?_
              rotate_left
              · intro w _; go_simp; (try with_reducible rfl)
              (try simp only [cq])
              refine tkY 6 (some 48) ?_ ?_ ?_
              rotate_left
              · intro w hS0; (try dsimp only at hS0); obtain ⟨⟨c0, c1⟩, y1, ⟨x0, x1⟩, x2, x3⟩ := LD.out _ hS0;go_simp; (try with_reducible rfl)
              (try simp only [cq])
              refine tkY 7 (some 49) ?_ ?_ ?_
              rotate_left
              · intro w hS0; (try dsimp only at hS0); obtain ⟨⟨c0, c1⟩, y1, ⟨x0, x1⟩, x2, x3⟩ := LD.out _ hS0;go_simp; (try with_reducible rfl)
              (try simp only [cq])
              refine tkY 8 (some 50) ?_ ?_ ?_
              rotate_left
              · intro w hS0; (try dsimp only at hS0); obtain ⟨⟨c0, c1⟩, y1, ⟨x0, x1⟩, x2, x3⟩ := LD.out _ hS0;go_simp; (try with_reducible rfl)
              (try simp only [cq])
              refine tkY 9 (some 51) ?_ ?_ ?_
              rotate_left
              · intro w hS0; (try dsimp only at hS0); obtain ⟨⟨c0, c1⟩, y1, ⟨x0, x1⟩, x2, x3⟩ := LD.out _ hS0;go_simp; (try with_reducible rfl)
              (try simp only [cq])
              refine tkY 10 (some 52) ?_ ?_ ?_
              rotate_left
              · intro w _; go_simp; (try with_reducible rfl)
              (try simp only [cq])
              refine tkY 11 (some 53) ?_ ?_ ?_
              rotate_left
              · intro w _; go_simp; (try with_reducible rfl)
              (try simp only [cq])
              refine tkY 12 (some 54) ?_ ?_ ?_
              rotate_left
              · intro w hS0; (try dsimp only at hS0); obtain ⟨⟨c0, c1⟩, y1, ⟨x0, x1⟩, x2, x3⟩ := LD.out _ hS0;go_simp; (try with_reducible rfl)
              (try simp only [cq])
              refine tkY 13 (some 55) ?_ ?_ ?_
              rotate_left
              · intro w hS0; (try dsimp only at hS0); obtain ⟨⟨c0, c1⟩, y1, ⟨x0, x1⟩, x2, x3⟩ := LD.out _ hS0;go_simp; (try with_reducible rfl)
              (try simp only [cq])
              refine tkY 14 (some 56) ?_ ?_ ?_
              rotate_left
              · intro w _; go_simp; (try with_reducible rfl)
              (try simp only [cq])
              refine tkY 15 (some 57) ?_ ?_ ?_
              rotate_left
              · intro w _; go_simp; (try with_reducible rfl)
              (try simp only [cq])
              refine tkY 16 (some 58) ?_ ?_ ?_
              rotate_left
              · intro w hS0; (try dsimp only at hS0); obtain ⟨⟨c0, c1⟩, y1, ⟨x0, x1⟩, x2, x3⟩ := LD.out _ hS0;go_simp; (try with_reducible rfl)
              (try simp only [cq])
              refine tkY 17 (some 59) ?_ ?_ ?_
              rotate_left
              · intro w hS0; (try dsimp only at hS0); obtain ⟨⟨c0, c1⟩, y1, ⟨x0, x1⟩, x2, x3⟩ := LD.out _ hS0;go_simp; (try with_reducible rfl)
              (try simp only [cq])
              refine tkY 18 (some 60) ?_ ?_ ?_
              rotate_left
              · intro w _; go_simp; (try with_reducible rfl)
              (try simp only [cq])
              refine tkY 19 (some 61) ?_ ?_ ?_
              rotate_left
              · intro w hS0; (try dsimp only at hS0); obtain ⟨⟨c0, c1⟩, y1, ⟨x0, x1⟩, x2, x3⟩ := LD.out _ hS0;go_simp; (try with_reducible rfl)
              (try simp only [cq])
              refine tkY 20 (some 62) ?_ ?_ ?_
              rotate_left
              · intro w hS0; (try dsimp only at hS0); obtain ⟨⟨c0, c1⟩, y1, ⟨x0, x1⟩, x2, x3⟩ := LD.out _ hS0;go_simp; (try with_reducible rfl)
              (try simp only [cq])
              refine tkY 21 (some 63) ?_ ?_ ?_
              rotate_left
              · intro w hS0; (try dsimp only at hS0); obtain ⟨⟨c0, c1⟩, y1, ⟨x0, x1⟩, x2, x3⟩ := LD.out _ hS0;go_simp; (try with_reducible rfl)
              (try simp only [cq])
              refine tkY 22 (some 64) ?_ ?_ ?_
              rotate_left
              · intro w hS0; (try dsimp only at hS0); obtain ⟨⟨c0, c1⟩, y1, ⟨x0, x1⟩, x2, x3⟩ := LD.out _ hS0;go_simp; (try with_reducible rfl)
              (try simp only [cq])
              refine tkY 23 (some 65) ?_ ?_ ?_
              rotate_left
              · intro w _; go_simp; (try with_reducible rfl)
              (try simp only [cq])
              refine tkY 24 (some 66) ?_ ?_ ?_
              rotate_left
              · intro w _; go_simp; (try with_reducible rfl)
              (try simp only [cq])
              refine tkY 25 (some 67) ?_ ?_ ?_
              rotate_left
              · intro w hS0; (try dsimp only at hS0); obtain ⟨⟨c0, c1⟩, y1, ⟨x0, x1⟩, x2, x3⟩ := LD.out _ hS0;go_simp; (try with_reducible rfl)
              (try simp only [cq])
              refine tkY 26 (some 68) ?_ ?_ ?_
              rotate_left
              · intro w hS0; (try dsimp only at hS0); obtain ⟨⟨c0, c1⟩, y1, ⟨x0, x1⟩, x2, x3⟩ := LD.out _ hS0;go_simp; (try with_reducible rfl)
              (try simp only [cq])
              refine tkY 27 (some 69) ?_ ?_ ?_
              rotate_left
              · intro w _; go_simp; (try with_reducible rfl)
              (try simp only [cq])
              refine tkY 28 (some 70) ?_ ?_ ?_
              rotate_left
              · intro w _; go_simp; (try with_reducible rfl)
              (try simp only [cq])
              refine tkY 29 (some 71) ?_ ?_ ?_
              rotate_left
              · intro w _; go_simp; (try with_reducible rfl)
              (try simp only [cq])
              refine wpAnyH_done (by kernel_rfl) ?_ _
              (try dsimp only [Act.put])
              (try simp only [cq])
              clear jT hB
              go_wp2
              go_roundw
              case rel => exact ⟨i + 1, by omega, by go_num, HF.out, hH⟩
              case measure => have hij := HIJ.out; simp [intOf]; omega
    · obtain rfl : i = k := by omega
      have hF := HD.out
      rw [Nat.sub_self] at hF
      have HF := Lib.hid hF
      clear hF
      obtain ⟨c0, c1⟩ := jT.c2
      go_wp2
      go_ret
      exact ⟨by rw [HF.out]; rfl, hB⟩
end Go.Proofs.Ytegdflikeoiaaaa

namespace Go.Proofs.Ytegdflikeoiaaaa
open Go.RowKit

set_option maxRecDepth 100000 in
set_option maxHeartbeats 4000000 in
theorem rcontent_ok (n : Nat) (H L : Nat → Int) (h : Int) (b o cH b2 o2 cL : Nat) (w : World) (ok : TkOk n H L) (g0 : H 0 ≤ h) (g1 : h ≤ H (n - 1)) (hH : AtC w b o n 1 (inC H)) (hL : AtC w b2 o2 n 1 (inC L)) :
    Calls Try.prog 74 #[.agg #[.slice (some ⟨b, o, none⟩) n cH, .slice (some ⟨b2, o2, none⟩) n cL], .int .i64 h] w fun e w' => ∃ k : Nat, Part n H h k ∧ e = .returned (.tuple #[.int .i64 (L k), .int .i64 ((L (k + 1) - L k) * (h - H k)), .int .i64 (H (k + 1) - H k)]) ∧ Below w.heap.size w w' := by
  have n2 := ok.n2
  have n40 := ok.n40
  have hok := Lib.hid (And.intro ok (And.intro g0 g1))
  have HK := Lib.hid (fun (k : Nat) (hk : k + 1 < n) (hh : H (k + 1) < h) => show k + 2 < n from by
    by_cases q : k + 2 < n
    · exact q
    · have : n - 1 = k + 1 := by omega
      rw [this] at g1; omega)
  clear ok g0 g1
  have HH := Lib.hid (fun (W : World) (hW : Below w.heap.size w W) => hH.later hW)
  have HL := Lib.hid (fun (W : World) (hW : Below w.heap.size w W) => hL.later hW)
  have zb := hH.lt (i := 0) (by omega) rfl
  have zb2 := hL.lt (i := 0) (by omega) rfl
  clear hH hL
  have jT := Blk.new w #[.slice (some ⟨b, o, none⟩) n cH, .slice (some ⟨b2, o2, none⟩) n cL] 24
  have jB : Below w.heap.size w (w.alloc (.cells #[.slice (some ⟨b, o, none⟩) n cH, .slice (some ⟨b2, o2, none⟩) n cL] 24)) := by (repeat (first | exact Below.refl _ _ | assumption | refine Below.drew ?_ | refine Below.drewN ?_ _ | refine blT ?_ | refine blU ?_))
  go_enter Try.func74, Try.ntmps74
  go_wp2_with fail
  go_loopw [7] (fun i wr => ∃ k : Nat, i = .int .i64 ((k + 1 : Nat) : Int) ∧ k + 1 < n ∧ H k ≤ h ∧ (∀ j, k = j + 1 → H k < h) ∧ Blk wr w.heap.size #[.slice (some ⟨b, o, none⟩) n cH, .slice (some ⟨b2, o2, none⟩) n cL] 24 ∧ Below w.heap.size w wr) (fun i _ => n - (intOf i).toNat)
  case atStart => exact ⟨0, by go_num, by omega, hok.out.2.1, fun j hj => by omega, jT, jB⟩
  case round =>
    clear jT jB
    obtain ⟨k, rfl, hk, ha, hc, jT, jB⟩ := hrel
    have HC := Lib.hid (And.intro ha hc)
    clear ha hc
    obtain ⟨c0, c1⟩ := jT.c2
    have a2 := (HH.out _ jB).c1 (i := k + 1) hk rfl
    have zz1 := World.block_lt_of_cell? _ _ a2
    obtain ⟨i, hki⟩ : ∃ i, k + 1 = i := ⟨_, rfl⟩
    have hiN : i < n := by omega
    have hiI : (i : Int) < n := by omega
    by_cases hlt : H (k + 1) < h
    · have hk2 := HK.out k hk hlt
      have HLt := Lib.hid hlt
      rw [hki] at a2 hlt ⊢
      generalize H i = y at a2 hlt
      have HKI := Lib.hid hki
      clear hki
      go_wp2
      go_roundw
      case rel => exact ⟨k + 1, by rw [show k + 1 + 1 = i + 1 by have := HKI.out; omega]; go_num, by omega, Int.le_of_lt HLt.out, fun j hj => HLt.out, jT, jB⟩
      case measure => have := HKI.out; simp [intOf]; omega
    · have hPt : Part n H h k := ⟨hk, HC.out.1, by omega, HC.out.2⟩
      clear HC HK
      obtain ⟨ok, g0, g1⟩ := hok.out
      have o1 := ok.h0 k (by omega)
      have o2' := ok.h0 (k + 1) hk
      have o3 := ok.l0 k (by omega)
      have o4 := ok.l0 (k + 1) hk
      have o5 := ok.hs k hk
      have o6 := ok.ls k hk
      have o7 := hPt.lo
      have o8 := hPt.hi
      have a1 := (HH.out _ jB).c1 (i := k) (by omega) rfl
      have a3 := (HL.out _ jB).c1 (i := k) (by omega) rfl
      have a4 := (HL.out _ jB).c1 (i := k + 1) hk rfl
      have HPt := Lib.hid hPt
      clear hPt ok g0 g1 hok HH HL
      rw [hki] at a2 a4 o2' o4 o5 o6 o8 hlt hk ⊢
      have hRes := Lib.hid (show ∃ k : Nat, Part n H h k ∧ (L k, L (k + 1), H k, H (k + 1)) = (L k, L i, H k, H i) from ⟨k, HPt.out, by rw [hki]⟩)
      have HFin : Hid (∀ x y u v : Int, H k = x → H i = y → L k = u → L i = v → Hid _) := fun x y u v e1 e2 e3 e4 => (show ∃ k : Nat, Part n H h k ∧ Ending.returned (.tuple #[.int .i64 u, .int .i64 ((v - u) * (h - x)), .int .i64 (y - x)]) = Ending.returned (.tuple #[.int .i64 (L k), .int .i64 ((L (k + 1) - L k) * (h - H k)), .int .i64 (H (k + 1) - H k)]) from ⟨k, HPt.out, by rw [hki, e1, e2, e3, e4]⟩)
      have e4 : IntKind.i64.wrap ((i : Int) - 1) = (k : Int) := by rw [← hki, show ((k + 1 : Nat) : Int) - 1 = (k : Int) by omega]; exact IntWalk.i64_in _ (by omega)
      have hkN : k < n := by omega
      have hkI : (k : Int) < n := by omega
      have HKI := Lib.hid hki
      clear hki hRes HPt
      obtain ⟨x, hx⟩ : ∃ x, H k = x := ⟨_, rfl⟩
      obtain ⟨y, hy⟩ : ∃ x, H i = x := ⟨_, rfl⟩
      obtain ⟨u, hu⟩ : ∃ x, L k = x := ⟨_, rfl⟩
      obtain ⟨v, hv⟩ : ∃ x, L i = x := ⟨_, rfl⟩
      have HF2 := Lib.hid (HFin.out x y u v hx hy hu hv).out
      rw [hx] at a1 o1 o5 o7
      rw [hy] at a2 o2' o5 o8 hlt
      rw [hu] at a3 o3 o6
      rw [hv] at a4 o4 o6
      clear hx hy hu hv HFin
      have e5 : IntKind.i64.wrap (h - x) = h - x := IntWalk.i64_in _ (by omega)
      have e6 : IntKind.i64.wrap (v - u) = v - u := IntWalk.i64_in _ (by omega)
      have e7 : IntKind.i64.wrap (y - x) = y - x := IntWalk.i64_in _ (by omega)
      have m0 : 0 ≤ (v - u) * (h - x) := Int.mul_nonneg (by omega) (by omega)
      have m1 : (v - u) * (h - x) ≤ 100000000000000 := Int.le_trans (Int.mul_le_mul (show v - u ≤ 1000000000 by omega) (show h - x ≤ 100000 by omega) (by omega) (by omega)) (by decide)
      have e8 : IntKind.i64.wrap ((v - u) * (h - x)) = (v - u) * (h - x) := IntWalk.i64_in _ (by omega)
      have HV := Lib.hid (fun (W : World) (hW : Below wr.heap.size wr W) => And.intro (cell_later hW a1) (And.intro (cell_later hW a2) (And.intro (cell_later hW a3) (And.intro (cell_later hW a4) (And.intro (cell_later hW c0) (cell_later hW c1))))))
      have zz2 := World.block_lt_of_cell? _ _ a3
      have zz3 := jT.lt
      clear m0 m1 o1 o2' o3 o4 o5 o6 o7 o8
      go_upto_region 4 with fail
      clear a1 a2 a3 a4 c0 c1
      refine wp_region_held_drew (S := (fun wx => Below wr.heap.size wr wx)) (by kernel_rfl) ?_ (fun hH => ?_)
      · (try dsimp only); (exact (Below.refl _ _).drew)
      refine tkY 0 (some 17) ?_ ?_ ?_
      rotate_left
      · intro w hS0; (try dsimp only at hS0); obtain ⟨r1, r2, r3, r4, r5, r6⟩ := HV.out _ hS0;go_simp; (try with_reducible rfl)
      (try simp only [cq])
      refine tkY 1 (some 18) ?_ ?_ ?_
      rotate_left
      · intro w hS0; (try dsimp only at hS0); obtain ⟨r1, r2, r3, r4, r5, r6⟩ := HV.out _ hS0;go_simp; (try with_reducible rfl)
      (try simp only [cq])
      refine tkY 2 (some 19) ?_ ?_ ?_
      rotate_left
      · intro w _; go_simp; (try with_reducible rfl)
      (try simp only [cq])
      refine tkY 3 (some 20) ?_ ?_ ?_
      rotate_left
      · intro w _; go_simp; (try with_reducible rfl)
      (try simp only [cq])
      refine tkY 4 (some 21) ?_ ?_ ?_
      rotate_left
      · intro w hS0; (try dsimp only at hS0); obtain ⟨r1, r2, r3, r4, r5, r6⟩ := HV.out _ hS0;go_simp; (try with_reducible rfl)
      (try simp only [cq])
      refine tkY 5 (some 22) ?_ ?_ ?_
      rotate_left
      · intro w hS0; (try dsimp only at hS0); obtain ⟨r1, r2, r3, r4, r5, r6⟩ := HV.out _ hS0;go_simp; (try with_reducible rfl)
      (try simp only [cq])
      refine tkY 6 (some 23) ?_ ?_ ?_
      rotate_left
      · intro w hS0; (try dsimp only at hS0); obtain ⟨r1, r2, r3, r4, r5, r6⟩ := HV.out _ hS0;go_simp; (try with_reducible rfl)
      (try simp only [cq])
      refine tkY 7 (some 24) ?_ ?_ ?_
      rotate_left
      · intro w hS0; (try dsimp only at hS0); obtain ⟨r1, r2, r3, r4, r5, r6⟩ := HV.out _ hS0;go_simp; (try with_reducible rfl)
      (try simp only [cq])
      refine tkY 8 (some 25) ?_ ?_ ?_
      rotate_left
      · intro w _; go_simp; (try with_reducible rfl)
      (try simp only [cq])
      refine tkY 9 (some 26) ?_ ?_ ?_
      rotate_left
      · intro w hS0; (try dsimp only at hS0); obtain ⟨r1, r2, r3, r4, r5, r6⟩ := HV.out _ hS0;go_simp; (try with_reducible rfl)
      (try simp only [cq])
      refine tkY 10 (some 27) ?_ ?_ ?_
      rotate_left
      · intro w hS0; (try dsimp only at hS0); obtain ⟨r1, r2, r3, r4, r5, r6⟩ := HV.out _ hS0;go_simp; (try with_reducible rfl)
      (try simp only [cq])
      refine tkY 11 (some 28) ?_ ?_ ?_
      rotate_left
      · intro w hS0; (try dsimp only at hS0); obtain ⟨r1, r2, r3, r4, r5, r6⟩ := HV.out _ hS0;go_simp; (try with_reducible rfl)
      (try simp only [cq])
      refine tkY 12 (some 29) ?_ ?_ ?_
      rotate_left
      · intro w hS0; (try dsimp only at hS0); obtain ⟨r1, r2, r3, r4, r5, r6⟩ := HV.out _ hS0;go_simp; (try with_reducible rfl)
      (try simp only [cq])
      refine tkY 13 (some 30) ?_ ?_ ?_
      rotate_left
      · intro w _; go_simp; (try with_reducible rfl)
      (try simp only [cq])
      refine tkY 14 (some 31) ?_ ?_ ?_
      rotate_left
      · intro w _; go_simp; (try with_reducible rfl)
      (try simp only [cq])
      refine tkY 15 (some 32) ?_ ?_ ?_
      rotate_left
      · intro w hS0; (try dsimp only at hS0); obtain ⟨r1, r2, r3, r4, r5, r6⟩ := HV.out _ hS0;go_simp; (try with_reducible rfl)
      (try simp only [cq])
      refine tkY 16 (some 33) ?_ ?_ ?_
      rotate_left
      · intro w hS0; (try dsimp only at hS0); obtain ⟨r1, r2, r3, r4, r5, r6⟩ := HV.out _ hS0;go_simp; (try with_reducible rfl)
      (try simp only [cq])
      refine tkY 17 (some 34) ?_ ?_ ?_
      rotate_left
      · intro w _; go_simp; (try with_reducible rfl)
      (try simp only [cq])
      refine tkY 18 (some 35) ?_ ?_ ?_
      rotate_left
      · intro w _; go_simp; (try with_reducible rfl)
      (try simp only [cq])
      refine tkY 19 (some 36) ?_ ?_ ?_
      rotate_left
      · intro w hS0; (try dsimp only at hS0); obtain ⟨r1, r2, r3, r4, r5, r6⟩ := HV.out _ hS0;go_simp; (try with_reducible rfl)
      (try simp only [cq])
      refine tkY 20 (some 37) ?_ ?_ ?_
      rotate_left
      · intro w hS0; (try dsimp only at hS0); obtain ⟨r1, r2, r3, r4, r5, r6⟩ := HV.out _ hS0;go_simp; (try with_reducible rfl)
      (try simp only [cq])
      refine tkY 21 (some 38) ?_ ?_ ?_
      rotate_left
      · intro w _; go_simp; (try with_reducible rfl)
      (try simp only [cq])
      refine tkY 22 (some 39) ?_ ?_ ?_
      rotate_left
      · intro w _; go_simp; (try with_reducible rfl)
      (try simp only [cq])
      refine tkY 23 (some 40) ?_ ?_ ?_
      rotate_left
      · intro w hS0; (try dsimp only at hS0); obtain ⟨r1, r2, r3, r4, r5, r6⟩ := HV.out _ hS0;go_simp; (try with_reducible rfl)
      (try simp only [cq])
      refine tkY 24 (some 41) ?_ ?_ ?_
      rotate_left
      · intro w hS0; (try dsimp only at hS0); obtain ⟨r1, r2, r3, r4, r5, r6⟩ := HV.out _ hS0;go_simp; (try with_reducible rfl)
      (try simp only [cq])
      refine tkY 25 (some 42) ?_ ?_ ?_
      rotate_left
      · intro w _; go_simp; (try with_reducible rfl)
      (try simp only [cq])
      refine tkY 26 (some 43) ?_ ?_ ?_
      rotate_left
      · intro w _; go_simp; (try with_reducible rfl)
      (try simp only [cq])
      refine tkY 27 (some 44) ?_ ?_ ?_
      rotate_left
      · intro w hS0; (try dsimp only at hS0); obtain ⟨r1, r2, r3, r4, r5, r6⟩ := HV.out _ hS0;go_simp; (try with_reducible rfl)
      (try simp only [cq])
      refine tkY 28 (some 45) ?_ ?_ ?_
      rotate_left
      · intro w hS0; (try dsimp only at hS0); obtain ⟨r1, r2, r3, r4, r5, r6⟩ := HV.out _ hS0;go_simp; (try with_reducible rfl)
      (try simp only [cq])
      refine tkY 29 (some 46) ?_ ?_ ?_
      rotate_left
      · intro w _; go_simp; (try with_reducible rfl)
      (try simp only [cq])
      refine tkY 30 (some 47) ?_ ?_ ?_
      rotate_left
      · intro w hS0; (try dsimp only at hS0); obtain ⟨r1, r2, r3, r4, r5, r6⟩ := HV.out _ hS0;go_simp; (try with_reducible rfl)
      (try simp only [cq])
      refine tkY 31 (some 48) ?_ ?_ ?_
      rotate_left
      · intro w hS0; (try dsimp only at hS0); obtain ⟨r1, r2, r3, r4, r5, r6⟩ := HV.out _ hS0;go_simp; (try with_reducible rfl)
      (try simp only [cq])
      refine tkY 32 (some 49) ?_ ?_ ?_
      rotate_left
      · intro w hS0; (try dsimp only at hS0); obtain ⟨r1, r2, r3, r4, r5, r6⟩ := HV.out _ hS0;go_simp; (try with_reducible rfl)
      (try simp only [cq])
      refine tkY 33 (some 50) ?_ ?_ ?_
      rotate_left
      · intro w hS0; (try dsimp only at hS0); obtain ⟨r1, r2, r3, r4, r5, r6⟩ := HV.out _ hS0;go_simp; (try with_reducible rfl)
      (try simp only [cq])
      refine tkY 34 (some 51) ?_ ?_ ?_
      rotate_left
      · intro w _; go_simp; (try with_reducible rfl)
      (try simp only [cq])
      refine tkY 35 (some 52) ?_ ?_ ?_
      rotate_left
      · intro w _; go_simp; (try with_reducible rfl)
      (try simp only [cq])
      refine tkY 36 (some 53) ?_ ?_ ?_
      rotate_left
      · intro w hS0; (try dsimp only at hS0); obtain ⟨r1, r2, r3, r4, r5, r6⟩ := HV.out _ hS0;go_simp; (try with_reducible rfl)
      (try simp only [cq])
      refine tkY 37 (some 54) ?_ ?_ ?_
      rotate_left
      · intro w hS0; (try dsimp only at hS0); obtain ⟨r1, r2, r3, r4, r5, r6⟩ := HV.out _ hS0;go_simp; (try with_reducible rfl)
      (try simp only [cq])
      refine tkY 38 (some 55) ?_ ?_ ?_
      rotate_left
      · intro w _; go_simp; (try with_reducible rfl)
      (try simp only [cq])
      refine tkY 39 (some 4) ?_ ?_ ?_
      rotate_left
      · intro w _; go_simp; (try with_reducible rfl)
      (try simp only [cq])
      refine tkY 40 (some 5) ?_ ?_ ?_
      rotate_left
      · intro w _; go_simp; (try with_reducible rfl)
      (try simp only [cq])
      refine tkY 41 (some 6) ?_ ?_ ?_
      rotate_left
      · intro w _; go_simp; (try with_reducible rfl)
      (try simp only [cq])
      refine wpAnyH_done (by kernel_rfl) ?_ _
      (try dsimp only [Act.put])
      (try simp only [cq])
      have jB2 : Below w.heap.size w _ := jB.trans (hH.mono jB.size)
      clear hH jB jT
      obtain ⟨k9, hP9, hQ9⟩ := HF2.out
      go_wp2
      exact bodyPost_ret (v := .tuple #[.int .i64 u, .int .i64 ((v - u) * (h - x)), .int .i64 (y - x)]) (by simp [results, Try.results74, go_sem]) rfl ⟨k9, hP9, hQ9, jB2⟩

theorem ct_comm (H L : Nat → Int) (h : Int) (k : Nat) : ctLo H L h k = L k + (L (k + 1) - L k) * (h - H k) / (H (k + 1) - H k) ∧ ctHi H L h k = L k + upQ ((L (k + 1) - L k) * (h - H k)) (H (k + 1) - H k) := by
  unfold ctLo ctHi
  rw [Int.mul_comm (L (k + 1) - L k)]
  exact ⟨rfl, rfl⟩
theorem part_bd {n : Nat} {H L : Nat → Int} {h : Int} {k : Nat} (ok : TkOk n H L) (hp : Part n H h k) : 0 ≤ L k ∧ L k ≤ 1000000000 ∧ 0 ≤ (L (k + 1) - L k) * (h - H k) ∧ (L (k + 1) - L k) * (h - H k) ≤ 100000000000000 ∧ 1 ≤ H (k + 1) - H k ∧ H (k + 1) - H k ≤ 100000 := by
  have hk := hp.k1
  have o1 := ok.h0 k (by omega)
  have o2 := ok.h0 (k + 1) hk
  have o3 := ok.l0 k (by omega)
  have o4 := ok.l0 (k + 1) hk
  have o5 := ok.hs k hk
  have o6 := ok.ls k hk
  have o7 := hp.lo
  have o8 := hp.hi
  refine ⟨o3.1, o3.2, Int.mul_nonneg (by omega) (by omega), ?_, by omega, by omega⟩
  exact Int.le_trans (Int.mul_le_mul (show L (k + 1) - L k ≤ 1000000000 by omega) (show h - H k ≤ 100000 by omega) (by omega) (by omega)) (by decide)
set_option maxRecDepth 100000 in
set_option maxHeartbeats 4000000 in
theorem rvolume_any (n k : Nat) (H L : Nat → Int) (d0 d1 : Int) (vH vL : Value) (w : World) (hH : IntsAt w vH n H) (hL : IntsAt w vL k L) :
    Calls Try.prog 20 #[.agg #[vH, vL], .agg #[.int .i64 d0, .int .i64 d1]] w fun e w' => e = .returned (volV n k H L d0 d1) ∧ Below w.heap.size w w' := by
  by_cases h0 : eTank n k H L = 0
  rotate_left
  · have HE := Lib.hid (show volV n k H L d0 d1 = _ from volV_no (show ¬ volE n k H L d0 d1 = 0 by rw [volE_1 h0]; exact h0))
    have HE2 := Lib.hid (show volE n k H L d0 d1 = _ from volE_1 h0)
    have HT := Lib.hid (fun (W : World) (h : Below w.heap.size w W) => rtank_any n k H L _ _ W (hH.later h) (hL.later h))
    clear hH hL
    have jT := ((Blk.new w #[vH, vL] 24).alloc (.cells #[.int .i64 d0, .int .i64 d1] 26)).alloc (.cells #[.int .i64 0, .int .i64 0] 26)
    have jQ := (Blk.new1 w (.cells #[vH, vL] 24) #[.int .i64 d0, .int .i64 d1] 26).alloc (.cells #[.int .i64 0, .int .i64 0] 26)
    have jR := Blk.new2 w (.cells #[vH, vL] 24) (.cells #[.int .i64 d0, .int .i64 d1] 26) #[.int .i64 0, .int .i64 0] 26
    have jB : Below w.heap.size w (((w.alloc (.cells #[vH, vL] 24)).alloc (.cells #[.int .i64 d0, .int .i64 d1] 26)).alloc (.cells #[.int .i64 0, .int .i64 0] 26)) := by (repeat (first | exact Below.refl _ _ | assumption | refine Below.drew ?_ | refine Below.drewN ?_ _ | refine blT ?_ | refine blU ?_))
    go_enter Try.func20, Try.ntmps20
    go_wp2_with fail
    refine (HT.out _ jB).mono ?_
    rintro e w1 ⟨rfl, hb⟩
    replace jT := jT.call hb
    replace jQ := jQ.call hb
    replace jR := jR.call hb
    replace jB := bwS jB (Nat.le_refl _) hb
    clear hb
    clear HT
    have hz2 : (eTank n k H L != 0) = true := by simpa using h0
    clear h0
    obtain ⟨E, hE⟩ : ∃ z, eTank n k H L = z := ⟨_, rfl⟩
    rw [hE] at hz2 ⊢
    have HE3 := Lib.hid hE
    clear hE
    obtain ⟨r0, r1⟩ := jR.c2
    have f0 := jR.free 0
    have f1 := jR.free 1
    have zR := jR.lt
    have KR := Lib.hid ((jR.set 0 (.int .i64 0)).set 1 (.int .i64 0))
    have KB := Lib.hid (below_set2 (c := w.heap.size + 1 + 1) (j := 0) (k := 1) jB (by omega) (.int .i64 0) (.int .i64 0))
    clear jT jQ jR jB
    go_wp2_with fail
    obtain ⟨z0, z1⟩ := KR.out.c2
    exact bodyPost_ret (v := .tuple #[.agg #[.int .i64 0, .int .i64 0], .int .i64 E]) (by simp [results, Try.results20, go_sem, z0, z1]) rfl ⟨by rw [HE.out, HE2.out, HE3.out], KB.out⟩
  obtain ⟨hk, ok⟩ := eTank_ok h0
  subst hk
  have hn2 := ok.n2
  have hn40 := ok.n40
  have HT := Lib.hid (fun (W : World) (h : Below w.heap.size w W) => rtank_any k k H L _ _ W (hH.later h) (hL.later h))
  simp only [h0] at HT
  obtain ⟨aH, cH, rfl, g1, g2, g3⟩ := id hH
  obtain ⟨aL, cL, rfl, g4, g5, g6⟩ := id hL
  obtain ⟨b, o, e1, hcH⟩ := g3 (by omega)
  obtain ⟨b2, o2, e2, hcL⟩ := g6 (by omega)
  subst e1 e2
  have hAH : AtC w b o k 1 (inC H) := hcH
  have hAL : AtC w b2 o2 k 1 (inC L) := hcL
  clear g3 g6 hcH hcL
  have HS := Lib.hid (fun (W : World) => rsp_any d0 d1 (H 0) (H (k - 1)) W)
  have zb := hAH.lt (i := 0) (by omega) rfl
  have HV := Lib.hid (fun (W : World) (hW : Below w.heap.size w W) => And.intro (cell_later hW (by have := hAH.c1 (i := 0) (by omega) rfl; rw [Nat.add_zero] at this; exact this)) (cell_later hW (hAH.c1 (i := k - 1) (by omega) rfl)))
  have jT := ((Blk.new w #[.slice (some ⟨b, o, none⟩) k cH, .slice (some ⟨b2, o2, none⟩) k cL] 24).alloc (.cells #[.int .i64 d0, .int .i64 d1] 26)).alloc (.cells #[.int .i64 0, .int .i64 0] 26)
  have jQ := (Blk.new1 w (.cells #[.slice (some ⟨b, o, none⟩) k cH, .slice (some ⟨b2, o2, none⟩) k cL] 24) #[.int .i64 d0, .int .i64 d1] 26).alloc (.cells #[.int .i64 0, .int .i64 0] 26)
  have jR := Blk.new2 w (.cells #[.slice (some ⟨b, o, none⟩) k cH, .slice (some ⟨b2, o2, none⟩) k cL] 24) (.cells #[.int .i64 d0, .int .i64 d1] 26) #[.int .i64 0, .int .i64 0] 26
  have jB : Below w.heap.size w (((w.alloc (.cells #[.slice (some ⟨b, o, none⟩) k cH, .slice (some ⟨b2, o2, none⟩) k cL] 24)).alloc (.cells #[.int .i64 d0, .int .i64 d1] 26)).alloc (.cells #[.int .i64 0, .int .i64 0] 26)) := by (repeat (first | exact Below.refl _ _ | assumption | refine Below.drew ?_ | refine Below.drewN ?_ _ | refine blT ?_ | refine blU ?_))
  by_cases h1 : eS d0 d1 (H 0) (H (k - 1)) = 0
  rotate_left
  · have HE := Lib.hid (show volV k k H L d0 d1 = _ from volV_no (show ¬ volE k k H L d0 d1 = 0 by rw [volE_2 h0]; exact h1))
    have HE2 := Lib.hid (show volE k k H L d0 d1 = _ from volE_2 h0)
    clear hH hL hAH hAL h0 ok
    go_enter Try.func20, Try.ntmps20
    go_wp2_with fail
    refine (HT.out _ jB).mono ?_
    rintro e w1 ⟨rfl, hb⟩
    replace jT := jT.call hb
    replace jQ := jQ.call hb
    replace jR := jR.call hb
    replace jB := bwS jB (Nat.le_refl _) hb
    clear hb
    clear HT
    have e0 : ((0 : Int) != 0) = false := by decide
    have e1 : IntKind.i64.wrap ((k : Int) - 1) = ((k - 1 : Nat) : Int) := by rw [show (k : Int) - 1 = ((k - 1 : Nat) : Int) by omega]; exact IntWalk.i64_in _ (by omega)
    have e2 : k - 1 < k := by omega
    have e3 : ((k - 1 : Nat) : Int) < k := by omega
    have e4 : (0 : Int) < k := by omega
    have e5 : 0 < k := by omega
    go_upto_region 4 with fail
    refine wp_region_held_drew (S := (fun wx => Blk wx w.heap.size #[.slice (some ⟨b, o, none⟩) k cH, .slice (some ⟨b2, o2, none⟩) k cL] 24 ∧ Blk wx (w.heap.size + 1) #[.int .i64 d0, .int .i64 d1] 26 ∧ Blk wx (w.heap.size + 1 + 1) #[.int .i64 0, .int .i64 0] 26 ∧ Below w.heap.size w wx)) (by kernel_rfl) ?_ (fun hH => ?_)
    · (try dsimp only); (exact ⟨jT.drew, jQ.drew, jR.drew, jB.drew⟩)
    refine tkY 0 (some 20) ?_ ?_ ?_
    rotate_left
    · intro w hS0; (try dsimp only at hS0); obtain ⟨kT, kQ, kR, kB⟩ := hS0; obtain ⟨c0, c1⟩ := kT.c2; obtain ⟨q0, q1⟩ := kQ.c2; obtain ⟨r1, r2⟩ := HV.out _ kB; have y1 := kT.lt; have y2 := kQ.lt; have y3 := World.block_lt_of_cell? _ _ r1;go_simp; (try with_reducible rfl)
    (try simp only [cq])
    refine tkY 1 (some 21) ?_ ?_ ?_
    rotate_left
    · intro w hS0; (try dsimp only at hS0); obtain ⟨kT, kQ, kR, kB⟩ := hS0; obtain ⟨c0, c1⟩ := kT.c2; obtain ⟨q0, q1⟩ := kQ.c2; obtain ⟨r1, r2⟩ := HV.out _ kB; have y1 := kT.lt; have y2 := kQ.lt; have y3 := World.block_lt_of_cell? _ _ r1;go_simp; (try with_reducible rfl)
    (try simp only [cq])
    refine tkY 2 (some 22) ?_ ?_ ?_
    rotate_left
    · intro w hS0; (try dsimp only at hS0); obtain ⟨kT, kQ, kR, kB⟩ := hS0; obtain ⟨c0, c1⟩ := kT.c2; obtain ⟨q0, q1⟩ := kQ.c2; obtain ⟨r1, r2⟩ := HV.out _ kB; have y1 := kT.lt; have y2 := kQ.lt; have y3 := World.block_lt_of_cell? _ _ r1;go_simp; (try with_reducible rfl)
    (try simp only [cq])
    refine tkY 3 (some 23) ?_ ?_ ?_
    rotate_left
    · intro w hS0; (try dsimp only at hS0); obtain ⟨kT, kQ, kR, kB⟩ := hS0; obtain ⟨c0, c1⟩ := kT.c2; obtain ⟨q0, q1⟩ := kQ.c2; obtain ⟨r1, r2⟩ := HV.out _ kB; have y1 := kT.lt; have y2 := kQ.lt; have y3 := World.block_lt_of_cell? _ _ r1;go_simp; (try with_reducible rfl)
    (try simp only [cq])
    refine tkY 4 (some 24) ?_ ?_ ?_
    rotate_left
    · intro w hS0; (try dsimp only at hS0); obtain ⟨kT, kQ, kR, kB⟩ := hS0; obtain ⟨c0, c1⟩ := kT.c2; obtain ⟨q0, q1⟩ := kQ.c2; obtain ⟨r1, r2⟩ := HV.out _ kB; have y1 := kT.lt; have y2 := kQ.lt; have y3 := World.block_lt_of_cell? _ _ r1;go_simp; (try with_reducible rfl)
    (try simp only [cq])
    refine tkY 5 (some 25) ?_ ?_ ?_
    rotate_left
    · intro w hS0; (try dsimp only at hS0); obtain ⟨kT, kQ, kR, kB⟩ := hS0; obtain ⟨c0, c1⟩ := kT.c2; obtain ⟨q0, q1⟩ := kQ.c2; obtain ⟨r1, r2⟩ := HV.out _ kB; have y1 := kT.lt; have y2 := kQ.lt; have y3 := World.block_lt_of_cell? _ _ r1;go_simp; (try with_reducible rfl)
    (try simp only [cq])
    refine tkY 6 (some 26) ?_ ?_ ?_
    rotate_left
    · intro w hS0; (try dsimp only at hS0); obtain ⟨kT, kQ, kR, kB⟩ := hS0; obtain ⟨c0, c1⟩ := kT.c2; obtain ⟨q0, q1⟩ := kQ.c2; obtain ⟨r1, r2⟩ := HV.out _ kB; have y1 := kT.lt; have y2 := kQ.lt; have y3 := World.block_lt_of_cell? _ _ r1;go_simp; (try with_reducible rfl)
    (try simp only [cq])
    refine tkY 7 (some 27) ?_ ?_ ?_
    rotate_left
    · intro w hS0; (try dsimp only at hS0); obtain ⟨kT, kQ, kR, kB⟩ := hS0; obtain ⟨c0, c1⟩ := kT.c2; obtain ⟨q0, q1⟩ := kQ.c2; obtain ⟨r1, r2⟩ := HV.out _ kB; have y1 := kT.lt; have y2 := kQ.lt; have y3 := World.block_lt_of_cell? _ _ r1;go_simp; (try with_reducible rfl)
    (try simp only [cq])
    refine tkY 8 (some 28) ?_ ?_ ?_
    rotate_left
    · intro w hS0; (try dsimp only at hS0); obtain ⟨kT, kQ, kR, kB⟩ := hS0; obtain ⟨c0, c1⟩ := kT.c2; obtain ⟨q0, q1⟩ := kQ.c2; obtain ⟨r1, r2⟩ := HV.out _ kB; have y1 := kT.lt; have y2 := kQ.lt; have y3 := World.block_lt_of_cell? _ _ r1;go_simp; (try with_reducible rfl)
    (try simp only [cq])
    refine tkY 9 (some 29) ?_ ?_ ?_
    rotate_left
    · intro w hS0; (try dsimp only at hS0); obtain ⟨kT, kQ, kR, kB⟩ := hS0; obtain ⟨c0, c1⟩ := kT.c2; obtain ⟨q0, q1⟩ := kQ.c2; obtain ⟨r1, r2⟩ := HV.out _ kB; have y1 := kT.lt; have y2 := kQ.lt; have y3 := World.block_lt_of_cell? _ _ r1;go_simp; (try with_reducible rfl)
    (try simp only [cq])
    refine tkY 10 (some 30) ?_ ?_ ?_
    rotate_left
    · intro w _; go_simp; (try with_reducible rfl)
    (try simp only [cq])
    refine tkY 11 (some 31) ?_ ?_ ?_
    rotate_left
    · intro w hS0; (try dsimp only at hS0); obtain ⟨kT, kQ, kR, kB⟩ := hS0; obtain ⟨c0, c1⟩ := kT.c2; obtain ⟨q0, q1⟩ := kQ.c2; obtain ⟨r1, r2⟩ := HV.out _ kB; have y1 := kT.lt; have y2 := kQ.lt; have y3 := World.block_lt_of_cell? _ _ r1;go_simp; (try with_reducible rfl)
    (try simp only [cq])
    refine tkY 12 (some 32) ?_ ?_ ?_
    rotate_left
    · intro w hS0; (try dsimp only at hS0); obtain ⟨kT, kQ, kR, kB⟩ := hS0; obtain ⟨c0, c1⟩ := kT.c2; obtain ⟨q0, q1⟩ := kQ.c2; obtain ⟨r1, r2⟩ := HV.out _ kB; have y1 := kT.lt; have y2 := kQ.lt; have y3 := World.block_lt_of_cell? _ _ r1;go_simp; (try with_reducible rfl)
    (try simp only [cq])
    refine wpAnyH_ready (rs := [13]) (by kernel_rfl) (by simp) ?_
    refine arc1 (some 33) fun K hK => ?_
    go_simp
    (refine (HS.out _).mono ?_; rintro e w' ⟨rfl, hb⟩)
    refine hK.out _ _ ?_ ?_
    · (exact ⟨hH.1.call hb, hH.2.1.call hb, hH.2.2.1.call hb, bwS hH.2.2.2 (Nat.le_refl _) hb⟩)
    (try clear hH); (try clear hb)
    intro hH
    clear hK K
    (try simp only [cq])
    refine tkY 14 (some 7) ?_ ?_ ?_
    rotate_left
    · intro w _; go_simp; (try with_reducible rfl)
    (try simp only [cq])
    refine wpAnyH_done (by kernel_rfl) ?_ _
    (try dsimp only [Act.put])
    (try simp only [cq])
    clear jT jQ jR jB HS
    obtain ⟨jT, jQ, jR, jB⟩ := hH
    have hz2 : (eS d0 d1 (H 0) (H (k - 1)) != 0) = true := by simpa using h1
    clear h1
    obtain ⟨E, hE⟩ : ∃ z, eS d0 d1 (H 0) (H (k - 1)) = z := ⟨_, rfl⟩
    rw [hE] at hz2 ⊢
    have HE3 := Lib.hid hE
    clear hE
    obtain ⟨r0, r1⟩ := jR.c2
    have f0 := jR.free 0
    have f1 := jR.free 1
    have zR := jR.lt
    have KR := Lib.hid ((jR.set 0 (.int .i64 0)).set 1 (.int .i64 0))
    have KB := Lib.hid (below_set2 (c := w.heap.size + 1 + 1) (j := 0) (k := 1) jB (by omega) (.int .i64 0) (.int .i64 0))
    clear jT jQ jR jB
    go_wp2_with fail
    obtain ⟨z0, z1⟩ := KR.out.c2
    exact bodyPost_ret (v := .tuple #[.agg #[.int .i64 0, .int .i64 0], .int .i64 E]) (by simp [results, Try.results20, go_sem, z0, z1]) rfl ⟨by rw [HE.out, HE2.out, HE3.out], KB.out⟩
  · have hE : volE k k H L d0 d1 = 0 := (volE_2 h0).trans h1
    have hs := eS_zero h1
    have HC0 := Lib.hid (fun (W : World) (hW : Below w.heap.size w W) => rcontent_ok k H L d0 b o cH b2 o2 cL W ok hs.1 (by omega) (hAH.later hW) (hAL.later hW))
    have HC1 := Lib.hid (fun (W : World) (hW : Below w.heap.size w W) => rcontent_ok k H L d1 b o cH b2 o2 cL W ok (by omega) hs.2.2 (hAH.later hW) (hAL.later hW))
    have HR : Hid (∀ i j, Part k H d0 i → Part k H d1 j → volV k k H L d0 d1 = .tuple #[.agg #[.int .i64 (ctLo H L d0 i), .int .i64 (ctHi H L d1 j)], .int .i64 0]) := fun i j hi hj => volV_yes hE hi hj
    have HO := Lib.hid ok
    simp only [h1] at HS
    clear hH hL hAH hAL h0 ok h1 hE hs
    go_enter Try.func20, Try.ntmps20
    go_wp2_with fail
    refine (HT.out _ jB).mono ?_
    rintro e w1 ⟨rfl, hb⟩
    replace jT := jT.call hb
    replace jQ := jQ.call hb
    replace jR := jR.call hb
    replace jB := bwS jB (Nat.le_refl _) hb
    clear hb
    clear HT
    have e0 : ((0 : Int) != 0) = false := by decide
    have e1 : IntKind.i64.wrap ((k : Int) - 1) = ((k - 1 : Nat) : Int) := by rw [show (k : Int) - 1 = ((k - 1 : Nat) : Int) by omega]; exact IntWalk.i64_in _ (by omega)
    have e2 : k - 1 < k := by omega
    have e3 : ((k - 1 : Nat) : Int) < k := by omega
    have e4 : (0 : Int) < k := by omega
    have e5 : 0 < k := by omega
    go_upto_region 4 with fail
    refine wp_region_held_drew (S := (fun wx => Blk wx w.heap.size #[.slice (some ⟨b, o, none⟩) k cH, .slice (some ⟨b2, o2, none⟩) k cL] 24 ∧ Blk wx (w.heap.size + 1) #[.int .i64 d0, .int .i64 d1] 26 ∧ Blk wx (w.heap.size + 1 + 1) #[.int .i64 0, .int .i64 0] 26 ∧ Below w.heap.size w wx)) (by kernel_rfl) ?_ (fun hH => ?_)
    · (try dsimp only); (exact ⟨jT.drew, jQ.drew, jR.drew, jB.drew⟩)
    refine tkY 0 (some 20) ?_ ?_ ?_
    rotate_left
    · intro w hS0; (try dsimp only at hS0); obtain ⟨kT, kQ, kR, kB⟩ := hS0; obtain ⟨c0, c1⟩ := kT.c2; obtain ⟨q0, q1⟩ := kQ.c2; obtain ⟨r1, r2⟩ := HV.out _ kB; have y1 := kT.lt; have y2 := kQ.lt; have y3 := World.block_lt_of_cell? _ _ r1;go_simp; (try with_reducible rfl)
    (try simp only [cq])
    refine tkY 1 (some 21) ?_ ?_ ?_
    rotate_left
    · intro w hS0; (try dsimp only at hS0); obtain ⟨kT, kQ, kR, kB⟩ := hS0; obtain ⟨c0, c1⟩ := kT.c2; obtain ⟨q0, q1⟩ := kQ.c2; obtain ⟨r1, r2⟩ := HV.out _ kB; have y1 := kT.lt; have y2 := kQ.lt; have y3 := World.block_lt_of_cell? _ _ r1;go_simp; (try with_reducible rfl)
    (try simp only [cq])
    refine tkY 2 (some 22) ?_ ?_ ?_
    rotate_left
    · intro w hS0; (try dsimp only at hS0); obtain ⟨kT, kQ, kR, kB⟩ := hS0; obtain ⟨c0, c1⟩ := kT.c2; obtain ⟨q0, q1⟩ := kQ.c2; obtain ⟨r1, r2⟩ := HV.out _ kB; have y1 := kT.lt; have y2 := kQ.lt; have y3 := World.block_lt_of_cell? _ _ r1;go_simp; (try with_reducible rfl)
    (try simp only [cq])
    refine tkY 3 (some 23) ?_ ?_ ?_
    rotate_left
    · intro w hS0; (try dsimp only at hS0); obtain ⟨kT, kQ, kR, kB⟩ := hS0; obtain ⟨c0, c1⟩ := kT.c2; obtain ⟨q0, q1⟩ := kQ.c2; obtain ⟨r1, r2⟩ := HV.out _ kB; have y1 := kT.lt; have y2 := kQ.lt; have y3 := World.block_lt_of_cell? _ _ r1;go_simp; (try with_reducible rfl)
    (try simp only [cq])
    refine tkY 4 (some 24) ?_ ?_ ?_
    rotate_left
    · intro w hS0; (try dsimp only at hS0); obtain ⟨kT, kQ, kR, kB⟩ := hS0; obtain ⟨c0, c1⟩ := kT.c2; obtain ⟨q0, q1⟩ := kQ.c2; obtain ⟨r1, r2⟩ := HV.out _ kB; have y1 := kT.lt; have y2 := kQ.lt; have y3 := World.block_lt_of_cell? _ _ r1;go_simp; (try with_reducible rfl)
    (try simp only [cq])
    refine tkY 5 (some 25) ?_ ?_ ?_
    rotate_left
    · intro w hS0; (try dsimp only at hS0); obtain ⟨kT, kQ, kR, kB⟩ := hS0; obtain ⟨c0, c1⟩ := kT.c2; obtain ⟨q0, q1⟩ := kQ.c2; obtain ⟨r1, r2⟩ := HV.out _ kB; have y1 := kT.lt; have y2 := kQ.lt; have y3 := World.block_lt_of_cell? _ _ r1;go_simp; (try with_reducible rfl)
    (try simp only [cq])
    refine tkY 6 (some 26) ?_ ?_ ?_
    rotate_left
    · intro w hS0; (try dsimp only at hS0); obtain ⟨kT, kQ, kR, kB⟩ := hS0; obtain ⟨c0, c1⟩ := kT.c2; obtain ⟨q0, q1⟩ := kQ.c2; obtain ⟨r1, r2⟩ := HV.out _ kB; have y1 := kT.lt; have y2 := kQ.lt; have y3 := World.block_lt_of_cell? _ _ r1;go_simp; (try with_reducible rfl)
    (try simp only [cq])
    refine tkY 7 (some 27) ?_ ?_ ?_
    rotate_left
    · intro w hS0; (try dsimp only at hS0); obtain ⟨kT, kQ, kR, kB⟩ := hS0; obtain ⟨c0, c1⟩ := kT.c2; obtain ⟨q0, q1⟩ := kQ.c2; obtain ⟨r1, r2⟩ := HV.out _ kB; have y1 := kT.lt; have y2 := kQ.lt; have y3 := World.block_lt_of_cell? _ _ r1;go_simp; (try with_reducible rfl)
    (try simp only [cq])
    refine tkY 8 (some 28) ?_ ?_ ?_
    rotate_left
    · intro w hS0; (try dsimp only at hS0); obtain ⟨kT, kQ, kR, kB⟩ := hS0; obtain ⟨c0, c1⟩ := kT.c2; obtain ⟨q0, q1⟩ := kQ.c2; obtain ⟨r1, r2⟩ := HV.out _ kB; have y1 := kT.lt; have y2 := kQ.lt; have y3 := World.block_lt_of_cell? _ _ r1;go_simp; (try with_reducible rfl)
    (try simp only [cq])
    refine tkY 9 (some 29) ?_ ?_ ?_
    rotate_left
    · intro w hS0; (try dsimp only at hS0); obtain ⟨kT, kQ, kR, kB⟩ := hS0; obtain ⟨c0, c1⟩ := kT.c2; obtain ⟨q0, q1⟩ := kQ.c2; obtain ⟨r1, r2⟩ := HV.out _ kB; have y1 := kT.lt; have y2 := kQ.lt; have y3 := World.block_lt_of_cell? _ _ r1;go_simp; (try with_reducible rfl)
    (try simp only [cq])
    refine tkY 10 (some 30) ?_ ?_ ?_
    rotate_left
    · intro w _; go_simp; (try with_reducible rfl)
    (try simp only [cq])
    refine tkY 11 (some 31) ?_ ?_ ?_
    rotate_left
    · intro w hS0; (try dsimp only at hS0); obtain ⟨kT, kQ, kR, kB⟩ := hS0; obtain ⟨c0, c1⟩ := kT.c2; obtain ⟨q0, q1⟩ := kQ.c2; obtain ⟨r1, r2⟩ := HV.out _ kB; have y1 := kT.lt; have y2 := kQ.lt; have y3 := World.block_lt_of_cell? _ _ r1;go_simp; (try with_reducible rfl)
    (try simp only [cq])
    refine tkY 12 (some 32) ?_ ?_ ?_
    rotate_left
    · intro w hS0; (try dsimp only at hS0); obtain ⟨kT, kQ, kR, kB⟩ := hS0; obtain ⟨c0, c1⟩ := kT.c2; obtain ⟨q0, q1⟩ := kQ.c2; obtain ⟨r1, r2⟩ := HV.out _ kB; have y1 := kT.lt; have y2 := kQ.lt; have y3 := World.block_lt_of_cell? _ _ r1;go_simp; (try with_reducible rfl)
    (try simp only [cq])
    refine wpAnyH_ready (rs := [13]) (by kernel_rfl) (by simp) ?_
    refine arc1 (some 33) fun K hK => ?_
    go_simp
    (refine (HS.out _).mono ?_; rintro e w' ⟨rfl, hb⟩)
    refine hK.out _ _ ?_ ?_
    · (exact ⟨hH.1.call hb, hH.2.1.call hb, hH.2.2.1.call hb, bwS hH.2.2.2 (Nat.le_refl _) hb⟩)
    (try clear hH); (try clear hb)
    intro hH
    clear hK K
    (try simp only [cq])
    refine tkY 14 (some 7) ?_ ?_ ?_
    rotate_left
    · intro w _; go_simp; (try with_reducible rfl)
    (try simp only [cq])
    refine wpAnyH_done (by kernel_rfl) ?_ _
    (try dsimp only [Act.put])
    (try simp only [cq])
    clear jT jQ jR jB HS
    obtain ⟨jT, jQ, jR, jB⟩ := hH
    obtain ⟨c0, c1⟩ := jT.c2
    obtain ⟨q0, q1⟩ := jQ.c2
    go_wp2_with fail
    refine (HC0.out _ jB).mono ?_
    rintro e w2 ⟨i, hi, rfl, hb⟩
    replace jT := jT.call hb
    replace jQ := jQ.call hb
    replace jR := jR.call hb
    replace jB := bwS jB (Nat.le_refl _) hb
    clear hb
    clear HC0 c0 c1 q0 q1
    obtain ⟨c0, c1⟩ := jT.c2
    obtain ⟨q0, q1⟩ := jQ.c2
    go_wp2_with fail
    refine (HC1.out _ jB).mono ?_
    rintro e w3 ⟨j, hj, rfl, hb⟩
    replace jT := jT.call hb
    replace jQ := jQ.call hb
    replace jR := jR.call hb
    replace jB := bwS jB (Nat.le_refl _) hb
    clear hb
    clear HC1 c0 c1 q0 q1 jT jQ
    have hV := HR.out i j hi hj
    rw [(ct_comm H L d0 i).1, (ct_comm H L d1 j).2] at hV
    obtain ⟨p1, p2, p3, p4, p5, p6⟩ := part_bd HO.out hi
    obtain ⟨q1, q2, q3, q4, q5, q6⟩ := part_bd HO.out hj
    clear HR HO hi hj
    generalize L i = u at hV p1 p2 p3 p4 ⊢
    generalize L j = v at hV q1 q2 q3 q4 ⊢
    generalize (L (i + 1) - u) * (d0 - H i) = m at hV p3 p4 ⊢
    generalize (L (j + 1) - v) * (d1 - H j) = m2 at hV q3 q4 ⊢
    generalize H (i + 1) - H i = d at hV p5 p6 ⊢
    generalize H (j + 1) - H j = d2 at hV q5 q6 ⊢
    have F0 := Lib.hid (fun (W : World) => rdown_any m d p3 (by omega) p5 W)
    have F1 := Lib.hid (fun (W : World) => rup_any m2 d2 q3 (by omega) q5 (by omega) W)
    have b1 : 0 ≤ m / d := Int.ediv_nonneg p3 (by omega)
    have b2' : m / d ≤ m := Int.ediv_le_self d p3
    have b3 : 0 ≤ upQ m2 d2 := Int.ediv_nonneg (by omega) (by omega)
    have b4 : upQ m2 d2 ≤ m2 + d2 - 1 := Int.ediv_le_self d2 (by omega)
    generalize m / d = x at F0 b1 b2' hV
    generalize upQ m2 d2 = y at F1 b3 b4 hV
    have e8 : IntKind.i64.wrap (u + x) = u + x := IntWalk.i64_in _ (by omega)
    have e9 : IntKind.i64.wrap (v + y) = v + y := IntWalk.i64_in _ (by omega)
    have HV9 := Lib.hid hV
    clear hV p1 p2 p3 p4 p5 p6 q1 q2 q3 q4 q5 q6 b1 b2' b3 b4
    go_wp2_with fail
    refine (F0.out _).mono ?_
    rintro e w' ⟨rfl, rfl⟩
    go_wp2_with fail
    refine (F1.out _).mono ?_
    rintro e w' ⟨rfl, rfl⟩
    obtain ⟨r0, r1⟩ := jR.c2
    have f0 := jR.free 0
    have f1 := jR.free 1
    have zR := jR.lt
    have KR := Lib.hid ((jR.set 0 (.int .i64 (u + x))).set 1 (.int .i64 (v + y)))
    have KB := Lib.hid (below_set2 (c := w.heap.size + 1 + 1) (j := 0) (k := 1) jB (by omega) (.int .i64 (u + x)) (.int .i64 (v + y)))
    clear jR jB F0 F1
    go_wp2_with fail
    obtain ⟨z0, z1⟩ := KR.out.c2
    exact bodyPost_ret (v := .tuple #[.agg #[.int .i64 (u + x), .int .i64 (v + y)], .int .i64 0]) (by simp [results, Try.results20, go_sem, z0, z1]) rfl ⟨by rw [HV9.out], KB.out⟩
end Go.Proofs.Ytegdflikeoiaaaa
