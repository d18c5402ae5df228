/-
  The reference's parts, cracks, thicknesses and burdens (layer 3), at plates that are valid.
-/
import Derived.Test.YtfakmggabicdjaaTail
import Derived.Test.YtfakmggabicdjaaRB2
import Derived.Test.YtfakmggabicdjaaHold
set_option linter.unusedVariables false
set_option linter.unusedSimpArgs false
namespace Go.Proofs.Ytfakmggabicdjaa
open Go.RowKit

theorem rfar_any (a b : Int) (ha : -1000000000000 ≤ a ∧ a ≤ 1000000000000) (hb : -1000000000000 ≤ b ∧ b ≤ 1000000000000) (w : World) :
    Calls Try.prog 135 #[.int .i64 a, .int .i64 b] w fun e w' => e = .returned (.int .i64 (farV a b)) ∧ Below w.heap.size w w' := by
  have e1 : IntKind.i64.wrap (a - b) = a - b := IntWalk.i64_in _ (by omega)
  have e2 : IntKind.i64.wrap (b - a) = b - a := IntWalk.i64_in _ (by omega)
  have HF : Hid (farV a b = max (a - b) (b - a)) := rfl
  generalize farV a b = r at HF ⊢
  go_enter Try.func135, Try.ntmps135
  go_wp2
  go_ret
  have hr := HF.out
  subst hr
  exact ⟨rfl, Below.refl _ _⟩


theorem anyV_iff (f : Nat → Bool) : ∀ n, anyV f n = true ↔ ∃ k, k < n ∧ f k = true
  | 0 => by simp [anyV]
  | n + 1 => by
    rw [anyV, Bool.or_eq_true, anyV_iff f n]
    constructor
    · rintro (⟨k, hk, h⟩ | h)
      · exact ⟨k, by omega, h⟩
      · exact ⟨n, by omega, h⟩
    · rintro ⟨k, hk, h⟩
      by_cases e : k = n
      · subst e; exact .inr h
      · exact .inl ⟨k, by omega, h⟩
theorem may_iff {c0 c1 at' ne : Int} (h : 0 ≤ ne) : decide (endV false (awayL c0 c1 at') (awayH c0 c1 at') ≤ ne) = (decide (c0 ≤ at' + ne) && decide (at' - ne ≤ c1)) := by
  rw [← Bool.decide_and]
  refine decide_eq_decide.2 ?_
  simp only [endV, awayL, Bool.false_eq_true, if_false]
  omega
theorem must_iff {c0 c1 at' ne : Int} (h : c0 ≤ c1) : decide (endV true (awayL c0 c1 at') (awayH c0 c1 at') ≤ ne) = (decide (farV at' c0 ≤ ne) && decide (farV at' c1 ≤ ne)) := by
  rw [← Bool.decide_and]
  refine decide_eq_decide.2 ?_
  simp only [endV, awayH, farV, if_true]
  omega

set_option maxRecDepth 100000 in
set_option maxHeartbeats 4000000 in
theorem rpart_any (v : Value) (t : Tab) (n : Int) (w : World) (hv : TabAt w v t) (h1 : 1 ≤ t.n) (h0 : t.F 0 ≤ n) :
    Calls Try.prog 109 #[v, .int .i64 n] w fun e w' => e = .returned (.int .i64 (t.val n)) ∧ Below w.heap.size w w' := by
  obtain ⟨a, cap, rfl, hcap, hm, h3⟩ := hv
  have H3 := Lib.hid h3
  have HV : Hid (t.val n = scanP t.F t.P n (t.P 0) t.n) := scanP_init t.F t.P n 0 (t.P 0) h0 t.n h1
  obtain ⟨b, o, rfl, hc⟩ := H3.out (by omega)
  have p0 := (hc 0 (by omega)).2
  simp only [Nat.zero_mul, Nat.add_zero] at p0
  have z0 := World.block_lt_of_cell? _ _ p0
  have hn0 : 0 < (t.n : Int) := by omega
  clear h3 hc h0
  generalize t.val n = r at HV ⊢
  obtain ⟨l, hl⟩ : ∃ l, t.P 0 = l := ⟨_, rfl⟩
  rw [hl] at p0 HV
  clear hl
  go_enter Try.func109, Try.ntmps109
  go_wp2_with fail
  clear p0 z0
  go_loopw [5, 6] (fun q i wr => ∃ k : Nat, k ≤ t.n ∧ i = .int .i64 k ∧ q = .int .i64 (scanP t.F t.P n l k) ∧ wr = w) (fun _ i _ => t.n - (intOf i).toNat)
  case atStart => exact ⟨0, Nat.zero_le _, rfl, rfl, rfl⟩
  case round =>
    obtain ⟨k, hk, rfl, rfl, rfl⟩ := hrel
    by_cases hlt2 : k < t.n
    · obtain ⟨b2, o2, ha, hc⟩ := H3.out (by omega)
      simp only [Option.some.injEq, Addr.mk.injEq, and_true] at ha
      obtain ⟨rfl, rfl⟩ := ha
      obtain ⟨a0, a1⟩ := hc k hlt2
      clear hc
      have hbs := World.block_lt_of_cell? _ _ a0
      have HS : Hid (scanP t.F t.P n l (k + 1) = if t.F k ≤ n then t.P k else scanP t.F t.P n l k) := rfl
      generalize hs' : scanP t.F t.P n l (k + 1) = s' at HS
      have HS' := Lib.hid hs'
      generalize scanP t.F t.P n l k = s at HS ⊢
      clear hs'
      by_cases hF : t.F k ≤ n
      · have hr := HS.out
        rw [if_pos hF] at hr
        have HR := Lib.hid hr
        clear hr HS
        go_wp2
        go_roundw
        case rel => exact ⟨k + 1, by omega, by go_num, by rw [HS'.out, HR.out], trivial⟩
        case measure => simp [intOf]; omega
      · have hr := HS.out
        rw [if_neg hF] at hr
        have HR := Lib.hid hr
        clear hr HS
        go_wp2
        go_roundw
        case rel => exact ⟨k + 1, by omega, by go_num, by rw [HS'.out, HR.out], trivial⟩
        case measure => simp [intOf]; omega
    · obtain rfl : k = t.n := by omega
      have hr := HV.out
      subst hr
      go_wp2
      go_ret
      exact ⟨rfl, Below.refl _ _⟩

set_option maxRecDepth 100000 in
set_option maxHeartbeats 4000000 in
theorem rmay_any (p : Pl) (vS vC vK : Value) (nc : Nat) (C0 C1 : Nat → Int) (at' : Int) (w : World) (hS : TabAt w vS p.S) (hC : TabAt w vC p.C) (hK : PairsAt w vK nc C0 C1) (ha : 0 ≤ at' ∧ at' ≤ 1000000000) (hne : 0 ≤ p.ne ∧ p.ne ≤ 10000) (hc : ∀ j, j < nc → 0 ≤ C0 j ∧ C0 j ≤ C1 j ∧ C1 j ≤ 1000000000) :
    Calls Try.prog 132 #[.agg #[.int .i64 p.s0, .int .i64 p.s1, vS, vC, .int .i64 p.ne, .int .i64 p.ed, .int .i64 p.gr, .int .i64 p.lo, .int .i64 p.hi, .int .i64 p.sh, .int .i64 p.wi], vK, .int .i64 at'] w fun e w' => e = .returned (.bool (nearV p false nc C0 C1 at')) ∧ Below w.heap.size w w' := by
  obtain ⟨aS, cS, rfl, _, _, _⟩ := id hS
  obtain ⟨aC, cC, rfl, _, _, _⟩ := id hC
  obtain ⟨aK, cK, rfl, hcK, hmK, h3⟩ := hK
  have H3 := Lib.hid h3
  clear h3 hS hC
  obtain ⟨f, hf⟩ : ∃ f : Nat → Bool, f = fun j => decide (endV false (awayL (C0 j) (C1 j) at') (awayH (C0 j) (C1 j) at') ≤ p.ne) := ⟨_, rfl⟩
  rw [show nearV p false nc C0 C1 at' = anyV f nc by rw [hf]; rfl]
  have HFj : Hid (∀ j, j < nc → f j = (decide (C0 j ≤ at' + p.ne) && decide (at' - p.ne ≤ C1 j))) := fun j hj => by rw [hf]; exact may_iff hne.1
  have HCb := Lib.hid hc
  clear hf hc
  have HT : Hid (∀ k, k < nc → f k = true → anyV f nc = true) := fun k hk h => (anyV_iff f nc).2 ⟨k, hk, h⟩
  have HZ : Hid ((∀ j, j < nc → f j = false) → anyV f nc = false) := fun h => by
    cases e : anyV f nc with
    | false => rfl
    | true =>
      obtain ⟨k, hk, g⟩ := (anyV_iff f nc).1 e
      rw [h k hk] at g
      exact g.symm
  generalize anyV f nc = r at HT HZ ⊢
  obtain ⟨at1, h1⟩ : ∃ x, at' + p.ne = x := ⟨_, rfl⟩
  obtain ⟨at2, h2⟩ : ∃ x, at' - p.ne = x := ⟨_, rfl⟩
  have ew1 : IntKind.i64.wrap (at' + p.ne) = at1 := by rw [← h1]; exact IntWalk.i64_in _ (by omega)
  have ew2 : IntKind.i64.wrap (at' - p.ne) = at2 := by rw [← h2]; exact IntWalk.i64_in _ (by omega)
  rw [h1, h2] at HFj
  have jP := Blk.new w #[.int .i64 p.s0, .int .i64 p.s1, (.slice aS p.S.n cS), (.slice aC p.C.n cC), .int .i64 p.ne, .int .i64 p.ed, .int .i64 p.gr, .int .i64 p.lo, .int .i64 p.hi, .int .i64 p.sh, .int .i64 p.wi] 26
  have jB : Below w.heap.size w (w.alloc (.cells #[.int .i64 p.s0, .int .i64 p.s1, (.slice aS p.S.n cS), (.slice aC p.C.n cC), .int .i64 p.ne, .int .i64 p.ed, .int .i64 p.gr, .int .i64 p.lo, .int .i64 p.hi, .int .i64 p.sh, .int .i64 p.wi] 26)) := by (repeat (first | exact Below.refl _ _ | assumption | refine Below.drew ?_ | refine Below.drewN ?_ _ | refine blT ?_ | refine blU ?_))
  clear h1 h2
  go_enter Try.func132, Try.ntmps132
  go_upto_region 1 with fail
  obtain ⟨bP, hbP⟩ : ∃ b, w.heap.size = b := ⟨_, rfl⟩
  rw [hbP] at jP
  (try rw [hbP])
  clear hbP
  replace H3 : Hid (0 < nc → ∃ b o, aK = some ⟨b, o, none⟩ ∧ ∀ i, i < nc → (w.alloc (.cells #[.int .i64 p.s0, .int .i64 p.s1, (.slice aS p.S.n cS), (.slice aC p.C.n cC), .int .i64 p.ne, .int .i64 p.ed, .int .i64 p.gr, .int .i64 p.lo, .int .i64 p.hi, .int .i64 p.sh, .int .i64 p.wi] 26)).cell? ⟨b, o + i * 2, none⟩ = some (.int .i64 (C0 i)) ∧ (w.alloc (.cells #[.int .i64 p.s0, .int .i64 p.s1, (.slice aS p.S.n cS), (.slice aC p.C.n cC), .int .i64 p.ne, .int .i64 p.ed, .int .i64 p.gr, .int .i64 p.lo, .int .i64 p.hi, .int .i64 p.sh, .int .i64 p.wi] 26)).cell? ⟨b, o + i * 2 + 1, none⟩ = some (.int .i64 (C1 i))) := fun h0 => by
    obtain ⟨b, o, e, hc⟩ := H3.out h0
    exact ⟨b, o, e, fun i hi => ⟨cell_later jB (hc i hi).1, cell_later jB (hc i hi).2⟩⟩
  have HB := Lib.hid jB
  clear jB
  generalize w.alloc (.cells #[.int .i64 p.s0, .int .i64 p.s1, (.slice aS p.S.n cS), (.slice aC p.C.n cC), .int .i64 p.ne, .int .i64 p.ed, .int .i64 p.gr, .int .i64 p.lo, .int .i64 p.hi, .int .i64 p.sh, .int .i64 p.wi] 26) = V at jP HB H3 ⊢
  have HP := Lib.hid jP
  clear jP
  go_wp2_with fail
  go_loopw [7] (fun i wr => ∃ k : Nat, k ≤ nc ∧ i = .int .i64 k ∧ (∀ j, j < k → f j = false) ∧ Below V.heap.size V wr) (fun i _ => nc - (intOf i).toNat)
  case atStart => exact ⟨0, Nat.zero_le _, rfl, fun j hj => by omega, Below.refl _ _⟩
  case round =>
    obtain ⟨k, hk, rfl, hj, hB⟩ := hrel
    have HJ := Lib.hid hj
    clear hj
    by_cases hlt2 : k < nc
    · obtain ⟨b, o, rfl, hc⟩ := H3.out (by omega)
      have HC := Lib.hid (hc k hlt2)
      have HTk := Lib.hid (HT.out k hlt2)
      have HFk := Lib.hid (HFj.out k hlt2)
      have hcb := HCb.out k hlt2
      clear hc H3 HT HZ HFj HCb
      skip
      clear hcb
      generalize C0 k = q0 at HC HFk
      generalize C1 k = q1 at HC HFk
      by_cases e1 : q0 ≤ at1
      · by_cases e2 : at2 ≤ q1
        · have hr := HTk.out (by rw [HFk.out]; simp [e1, e2])
          subst hr
          go_upto_region 4 with fail
          refine wp_region_held_drew (S := (fun v => Below V.heap.size V v)) (by kernel_rfl) ?_ (fun hH => ?_)
          · (try dsimp only); (exact hB.drew)
          refine tkY 0 (some 14) ?_ ?_ ?_
          rotate_left
          · intro w _; go_simp; (try with_reducible rfl)
          (try simp only [cq])
          refine tkY 1 (some 15) ?_ ?_ ?_
          rotate_left
          · intro w hS0; (try dsimp only at hS0); have kP := HP.out.call hS0; obtain ⟨c0, c1, c2, c3, c4, c5, c6, c7, c8, c9, c10⟩ := kP.c11; have g0 := cell_later hS0 HC.out.1; have g1 := cell_later hS0 HC.out.2; have y0 := kP.lt; have y1 := World.block_lt_of_cell? _ _ g0;go_simp; (try with_reducible rfl)
          (try simp only [cq])
          refine tkY 2 (some 16) ?_ ?_ ?_
          rotate_left
          · intro w hS0; (try dsimp only at hS0); have kP := HP.out.call hS0; obtain ⟨c0, c1, c2, c3, c4, c5, c6, c7, c8, c9, c10⟩ := kP.c11; have g0 := cell_later hS0 HC.out.1; have g1 := cell_later hS0 HC.out.2; have y0 := kP.lt; have y1 := World.block_lt_of_cell? _ _ g0;go_simp; (try with_reducible rfl)
          (try simp only [cq])
          refine tkY 3 (some 17) ?_ ?_ ?_
          rotate_left
          · intro w _; go_simp; (try with_reducible rfl)
          (try simp only [cq])
          refine tkY 4 (some 18) ?_ ?_ ?_
          rotate_left
          · intro w _; go_simp; (try with_reducible rfl)
          (try simp only [cq])
          refine tkY 5 (some 19) ?_ ?_ ?_
          rotate_left
          · intro w _; go_simp; (try with_reducible rfl)
          (try simp only [cq])
          refine tkY 6 (some 20) ?_ ?_ ?_
          rotate_left
          · intro w hS0; (try dsimp only at hS0); have kP := HP.out.call hS0; obtain ⟨c0, c1, c2, c3, c4, c5, c6, c7, c8, c9, c10⟩ := kP.c11; have g0 := cell_later hS0 HC.out.1; have g1 := cell_later hS0 HC.out.2; have y0 := kP.lt; have y1 := World.block_lt_of_cell? _ _ g0;go_simp; (try with_reducible rfl)
          (try simp only [cq])
          refine tkY 7 (some 21) ?_ ?_ ?_
          rotate_left
          · intro w hS0; (try dsimp only at hS0); have kP := HP.out.call hS0; obtain ⟨c0, c1, c2, c3, c4, c5, c6, c7, c8, c9, c10⟩ := kP.c11; have g0 := cell_later hS0 HC.out.1; have g1 := cell_later hS0 HC.out.2; have y0 := kP.lt; have y1 := World.block_lt_of_cell? _ _ g0;go_simp; (try with_reducible rfl)
          (try simp only [cq])
          refine tkY 8 (some 22) ?_ ?_ ?_
          rotate_left
          · intro w hS0; (try dsimp only at hS0); have kP := HP.out.call hS0; obtain ⟨c0, c1, c2, c3, c4, c5, c6, c7, c8, c9, c10⟩ := kP.c11; have g0 := cell_later hS0 HC.out.1; have g1 := cell_later hS0 HC.out.2; have y0 := kP.lt; have y1 := World.block_lt_of_cell? _ _ g0;go_simp; (try with_reducible rfl)
          (try simp only [cq])
          refine tkY 9 (some 23) ?_ ?_ ?_
          rotate_left
          · intro w _; go_simp; (try with_reducible rfl)
          (try simp only [cq])
          refine tkY 10 (some 24) ?_ ?_ ?_
          rotate_left
          · intro w _; go_simp; (try with_reducible rfl)
          (try simp only [cq])
          refine tkY 11 (some 25) ?_ ?_ ?_
          rotate_left
          · intro w _; go_simp; (try with_reducible rfl)
          (try simp only [cq])
          refine tkY 12 (some 26) ?_ ?_ ?_
          rotate_left
          · intro w hS0; (try dsimp only at hS0); have kP := HP.out.call hS0; obtain ⟨c0, c1, c2, c3, c4, c5, c6, c7, c8, c9, c10⟩ := kP.c11; have g0 := cell_later hS0 HC.out.1; have g1 := cell_later hS0 HC.out.2; have y0 := kP.lt; have y1 := World.block_lt_of_cell? _ _ g0;go_simp; (try with_reducible rfl)
          (try simp only [cq])
          refine tkY 13 (some 27) ?_ ?_ ?_
          rotate_left
          · intro w hS0; (try dsimp only at hS0); have kP := HP.out.call hS0; obtain ⟨c0, c1, c2, c3, c4, c5, c6, c7, c8, c9, c10⟩ := kP.c11; have g0 := cell_later hS0 HC.out.1; have g1 := cell_later hS0 HC.out.2; have y0 := kP.lt; have y1 := World.block_lt_of_cell? _ _ g0;go_simp; (try with_reducible rfl)
          (try simp only [cq])
          refine tkY 14 (some 28) ?_ ?_ ?_
          rotate_left
          · intro w _; go_simp; (try with_reducible rfl)
          (try simp only [cq])
          refine tkY 15 (some 29) ?_ ?_ ?_
          rotate_left
          · intro w _; go_simp; (try with_reducible rfl)
          (try simp only [cq])
          refine tkY 16 (some 30) ?_ ?_ ?_
          rotate_left
          · intro w _; go_simp; (try with_reducible rfl)
          (try simp only [cq])
          refine tkY 17 (some 31) ?_ ?_ ?_
          rotate_left
          · intro w hS0; (try dsimp only at hS0); have kP := HP.out.call hS0; obtain ⟨c0, c1, c2, c3, c4, c5, c6, c7, c8, c9, c10⟩ := kP.c11; have g0 := cell_later hS0 HC.out.1; have g1 := cell_later hS0 HC.out.2; have y0 := kP.lt; have y1 := World.block_lt_of_cell? _ _ g0;go_simp; (try with_reducible rfl)
          (try simp only [cq])
          refine tkY 18 (some 32) ?_ ?_ ?_
          rotate_left
          · intro w hS0; (try dsimp only at hS0); have kP := HP.out.call hS0; obtain ⟨c0, c1, c2, c3, c4, c5, c6, c7, c8, c9, c10⟩ := kP.c11; have g0 := cell_later hS0 HC.out.1; have g1 := cell_later hS0 HC.out.2; have y0 := kP.lt; have y1 := World.block_lt_of_cell? _ _ g0;go_simp; (try with_reducible rfl)
          (try simp only [cq])
          refine tkY 19 (some 33) ?_ ?_ ?_
          rotate_left
          · intro w hS0; (try dsimp only at hS0); have kP := HP.out.call hS0; obtain ⟨c0, c1, c2, c3, c4, c5, c6, c7, c8, c9, c10⟩ := kP.c11; have g0 := cell_later hS0 HC.out.1; have g1 := cell_later hS0 HC.out.2; have y0 := kP.lt; have y1 := World.block_lt_of_cell? _ _ g0;go_simp; (try with_reducible rfl)
          (try simp only [cq])
          refine tkY 20 (some 34) ?_ ?_ ?_
          rotate_left
          · intro w _; go_simp; (try with_reducible rfl)
          (try simp only [cq])
          refine tkY 21 (some 35) ?_ ?_ ?_
          rotate_left
          · intro w _; go_simp; (try with_reducible rfl)
          (try simp only [cq])
          refine wpAnyH_done (by kernel_rfl) ?_ _
          (try dsimp only [Act.put])
          (try simp only [cq])
          clear hB
          have hB := hH
          clear hH
          go_wp2
          go_ret
          exact ⟨rfl, bwS HB.out (by have := HB.out.size; omega) hB⟩
        · have hz : f k = false := by rw [HFk.out]; simp; omega
          go_upto_region 4 with fail
          refine wp_region_held_drew (S := (fun v => Below V.heap.size V v)) (by kernel_rfl) ?_ (fun hH => ?_)
          · (try dsimp only); (exact hB.drew)
          refine tkY 0 (some 14) ?_ ?_ ?_
          rotate_left
          · intro w _; go_simp; (try with_reducible rfl)
          (try simp only [cq])
          refine tkY 1 (some 15) ?_ ?_ ?_
          rotate_left
          · intro w hS0; (try dsimp only at hS0); have kP := HP.out.call hS0; obtain ⟨c0, c1, c2, c3, c4, c5, c6, c7, c8, c9, c10⟩ := kP.c11; have g0 := cell_later hS0 HC.out.1; have g1 := cell_later hS0 HC.out.2; have y0 := kP.lt; have y1 := World.block_lt_of_cell? _ _ g0;go_simp; (try with_reducible rfl)
          (try simp only [cq])
          refine tkY 2 (some 16) ?_ ?_ ?_
          rotate_left
          · intro w hS0; (try dsimp only at hS0); have kP := HP.out.call hS0; obtain ⟨c0, c1, c2, c3, c4, c5, c6, c7, c8, c9, c10⟩ := kP.c11; have g0 := cell_later hS0 HC.out.1; have g1 := cell_later hS0 HC.out.2; have y0 := kP.lt; have y1 := World.block_lt_of_cell? _ _ g0;go_simp; (try with_reducible rfl)
          (try simp only [cq])
          refine tkY 3 (some 17) ?_ ?_ ?_
          rotate_left
          · intro w _; go_simp; (try with_reducible rfl)
          (try simp only [cq])
          refine tkY 4 (some 18) ?_ ?_ ?_
          rotate_left
          · intro w _; go_simp; (try with_reducible rfl)
          (try simp only [cq])
          refine tkY 5 (some 19) ?_ ?_ ?_
          rotate_left
          · intro w _; go_simp; (try with_reducible rfl)
          (try simp only [cq])
          refine tkY 6 (some 20) ?_ ?_ ?_
          rotate_left
          · intro w hS0; (try dsimp only at hS0); have kP := HP.out.call hS0; obtain ⟨c0, c1, c2, c3, c4, c5, c6, c7, c8, c9, c10⟩ := kP.c11; have g0 := cell_later hS0 HC.out.1; have g1 := cell_later hS0 HC.out.2; have y0 := kP.lt; have y1 := World.block_lt_of_cell? _ _ g0;go_simp; (try with_reducible rfl)
          (try simp only [cq])
          refine tkY 7 (some 21) ?_ ?_ ?_
          rotate_left
          · intro w hS0; (try dsimp only at hS0); have kP := HP.out.call hS0; obtain ⟨c0, c1, c2, c3, c4, c5, c6, c7, c8, c9, c10⟩ := kP.c11; have g0 := cell_later hS0 HC.out.1; have g1 := cell_later hS0 HC.out.2; have y0 := kP.lt; have y1 := World.block_lt_of_cell? _ _ g0;go_simp; (try with_reducible rfl)
          (try simp only [cq])
          refine tkY 8 (some 22) ?_ ?_ ?_
          rotate_left
          · intro w hS0; (try dsimp only at hS0); have kP := HP.out.call hS0; obtain ⟨c0, c1, c2, c3, c4, c5, c6, c7, c8, c9, c10⟩ := kP.c11; have g0 := cell_later hS0 HC.out.1; have g1 := cell_later hS0 HC.out.2; have y0 := kP.lt; have y1 := World.block_lt_of_cell? _ _ g0;go_simp; (try with_reducible rfl)
          (try simp only [cq])
          refine tkY 9 (some 23) ?_ ?_ ?_
          rotate_left
          · intro w _; go_simp; (try with_reducible rfl)
          (try simp only [cq])
          refine tkY 10 (some 24) ?_ ?_ ?_
          rotate_left
          · intro w _; go_simp; (try with_reducible rfl)
          (try simp only [cq])
          refine tkY 11 (some 25) ?_ ?_ ?_
          rotate_left
          · intro w _; go_simp; (try with_reducible rfl)
          (try simp only [cq])
          refine tkY 12 (some 26) ?_ ?_ ?_
          rotate_left
          · intro w hS0; (try dsimp only at hS0); have kP := HP.out.call hS0; obtain ⟨c0, c1, c2, c3, c4, c5, c6, c7, c8, c9, c10⟩ := kP.c11; have g0 := cell_later hS0 HC.out.1; have g1 := cell_later hS0 HC.out.2; have y0 := kP.lt; have y1 := World.block_lt_of_cell? _ _ g0;go_simp; (try with_reducible rfl)
          (try simp only [cq])
          refine tkY 13 (some 27) ?_ ?_ ?_
          rotate_left
          · intro w hS0; (try dsimp only at hS0); have kP := HP.out.call hS0; obtain ⟨c0, c1, c2, c3, c4, c5, c6, c7, c8, c9, c10⟩ := kP.c11; have g0 := cell_later hS0 HC.out.1; have g1 := cell_later hS0 HC.out.2; have y0 := kP.lt; have y1 := World.block_lt_of_cell? _ _ g0;go_simp; (try with_reducible rfl)
          (try simp only [cq])
          refine tkY 14 (some 28) ?_ ?_ ?_
          rotate_left
          · intro w _; go_simp; (try with_reducible rfl)
          (try simp only [cq])
          refine tkY 15 (some 29) ?_ ?_ ?_
          rotate_left
          · intro w _; go_simp; (try with_reducible rfl)
          (try simp only [cq])
          refine tkY 16 (some 30) ?_ ?_ ?_
          rotate_left
          · intro w _; go_simp; (try with_reducible rfl)
          (try simp only [cq])
          refine tkY 17 (some 31) ?_ ?_ ?_
          rotate_left
          · intro w hS0; (try dsimp only at hS0); have kP := HP.out.call hS0; obtain ⟨c0, c1, c2, c3, c4, c5, c6, c7, c8, c9, c10⟩ := kP.c11; have g0 := cell_later hS0 HC.out.1; have g1 := cell_later hS0 HC.out.2; have y0 := kP.lt; have y1 := World.block_lt_of_cell? _ _ g0;go_simp; (try with_reducible rfl)
          (try simp only [cq])
          refine tkY 18 (some 32) ?_ ?_ ?_
          rotate_left
          · intro w hS0; (try dsimp only at hS0); have kP := HP.out.call hS0; obtain ⟨c0, c1, c2, c3, c4, c5, c6, c7, c8, c9, c10⟩ := kP.c11; have g0 := cell_later hS0 HC.out.1; have g1 := cell_later hS0 HC.out.2; have y0 := kP.lt; have y1 := World.block_lt_of_cell? _ _ g0;go_simp; (try with_reducible rfl)
          (try simp only [cq])
          refine tkY 19 (some 33) ?_ ?_ ?_
          rotate_left
          · intro w hS0; (try dsimp only at hS0); have kP := HP.out.call hS0; obtain ⟨c0, c1, c2, c3, c4, c5, c6, c7, c8, c9, c10⟩ := kP.c11; have g0 := cell_later hS0 HC.out.1; have g1 := cell_later hS0 HC.out.2; have y0 := kP.lt; have y1 := World.block_lt_of_cell? _ _ g0;go_simp; (try with_reducible rfl)
          (try simp only [cq])
          refine tkY 20 (some 34) ?_ ?_ ?_
          rotate_left
          · intro w _; go_simp; (try with_reducible rfl)
          (try simp only [cq])
          refine tkY 21 (some 35) ?_ ?_ ?_
          rotate_left
          · intro w _; go_simp; (try with_reducible rfl)
          (try simp only [cq])
          refine wpAnyH_done (by kernel_rfl) ?_ _
          (try dsimp only [Act.put])
          (try simp only [cq])
          clear hB
          have hB := hH
          clear hH
          go_wp2
          go_roundw
          case rel => exact ⟨k + 1, by omega, by go_num, fun j hj => by
              by_cases e : j = k
              · subst e; exact hz
              · exact HJ.out j (by omega), hB⟩
          case measure => simp [intOf]; omega
      · have hz : f k = false := by rw [HFk.out]; simp [e1]
        go_upto_region 4 with fail
        refine wp_region_held_drew (S := (fun v => Below V.heap.size V v)) (by kernel_rfl) ?_ (fun hH => ?_)
        · (try dsimp only); (exact hB.drew)
        refine tkY 0 (some 14) ?_ ?_ ?_
        rotate_left
        · intro w _; go_simp; (try with_reducible rfl)
        (try simp only [cq])
        refine tkY 1 (some 15) ?_ ?_ ?_
        rotate_left
        · intro w hS0; (try dsimp only at hS0); have kP := HP.out.call hS0; obtain ⟨c0, c1, c2, c3, c4, c5, c6, c7, c8, c9, c10⟩ := kP.c11; have g0 := cell_later hS0 HC.out.1; have g1 := cell_later hS0 HC.out.2; have y0 := kP.lt; have y1 := World.block_lt_of_cell? _ _ g0;go_simp; (try with_reducible rfl)
        (try simp only [cq])
        refine tkY 2 (some 16) ?_ ?_ ?_
        rotate_left
        · intro w hS0; (try dsimp only at hS0); have kP := HP.out.call hS0; obtain ⟨c0, c1, c2, c3, c4, c5, c6, c7, c8, c9, c10⟩ := kP.c11; have g0 := cell_later hS0 HC.out.1; have g1 := cell_later hS0 HC.out.2; have y0 := kP.lt; have y1 := World.block_lt_of_cell? _ _ g0;go_simp; (try with_reducible rfl)
        (try simp only [cq])
        refine tkY 3 (some 17) ?_ ?_ ?_
        rotate_left
        · intro w _; go_simp; (try with_reducible rfl)
        (try simp only [cq])
        refine tkY 4 (some 18) ?_ ?_ ?_
        rotate_left
        · intro w _; go_simp; (try with_reducible rfl)
        (try simp only [cq])
        refine tkY 5 (some 19) ?_ ?_ ?_
        rotate_left
        · intro w _; go_simp; (try with_reducible rfl)
        (try simp only [cq])
        refine tkY 6 (some 20) ?_ ?_ ?_
        rotate_left
        · intro w hS0; (try dsimp only at hS0); have kP := HP.out.call hS0; obtain ⟨c0, c1, c2, c3, c4, c5, c6, c7, c8, c9, c10⟩ := kP.c11; have g0 := cell_later hS0 HC.out.1; have g1 := cell_later hS0 HC.out.2; have y0 := kP.lt; have y1 := World.block_lt_of_cell? _ _ g0;go_simp; (try with_reducible rfl)
        (try simp only [cq])
        refine tkY 7 (some 21) ?_ ?_ ?_
        rotate_left
        · intro w hS0; (try dsimp only at hS0); have kP := HP.out.call hS0; obtain ⟨c0, c1, c2, c3, c4, c5, c6, c7, c8, c9, c10⟩ := kP.c11; have g0 := cell_later hS0 HC.out.1; have g1 := cell_later hS0 HC.out.2; have y0 := kP.lt; have y1 := World.block_lt_of_cell? _ _ g0;go_simp; (try with_reducible rfl)
        (try simp only [cq])
        refine tkY 8 (some 22) ?_ ?_ ?_
        rotate_left
        · intro w hS0; (try dsimp only at hS0); have kP := HP.out.call hS0; obtain ⟨c0, c1, c2, c3, c4, c5, c6, c7, c8, c9, c10⟩ := kP.c11; have g0 := cell_later hS0 HC.out.1; have g1 := cell_later hS0 HC.out.2; have y0 := kP.lt; have y1 := World.block_lt_of_cell? _ _ g0;go_simp; (try with_reducible rfl)
        (try simp only [cq])
        refine tkY 9 (some 23) ?_ ?_ ?_
        rotate_left
        · intro w _; go_simp; (try with_reducible rfl)
        (try simp only [cq])
        refine tkY 10 (some 24) ?_ ?_ ?_
        rotate_left
        · intro w _; go_simp; (try with_reducible rfl)
        (try simp only [cq])
        refine tkN 11 (some 25) ?_
        (try simp only [cq])
        refine tkN 12 (some 26) ?_
        (try simp only [cq])
        refine tkN 13 (some 27) ?_
        (try simp only [cq])
        refine tkN 14 (some 28) ?_
        (try simp only [cq])
        refine tkN 15 (some 29) ?_
        (try simp only [cq])
        refine tkN 16 (some 30) ?_
        (try simp only [cq])
        refine tkN 17 (some 31) ?_
        (try simp only [cq])
        refine tkN 18 (some 32) ?_
        (try simp only [cq])
        refine tkN 19 (some 33) ?_
        (try simp only [cq])
        refine tkN 20 (some 34) ?_
        (try simp only [cq])
        refine tkY 21 (some 35) ?_ ?_ ?_
        rotate_left
        · intro w _; go_simp; (try with_reducible rfl)
        (try simp only [cq])
        refine wpAnyH_done (by kernel_rfl) ?_ _
        (try dsimp only [Act.put])
        (try simp only [cq])
        clear hB
        have hB := hH
        clear hH
        go_wp2
        go_roundw
        case rel => exact ⟨k + 1, by omega, by go_num, fun j hj => by
            by_cases e : j = k
            · subst e; exact hz
            · exact HJ.out j (by omega), hB⟩
        case measure => simp [intOf]; omega
    · have hr := HZ.out (fun j hj => HJ.out j (by omega))
      subst hr
      go_wp2
      go_ret
      exact ⟨rfl, bwS HB.out (by have := HB.out.size; omega) hB⟩

set_option maxRecDepth 100000 in
set_option maxHeartbeats 4000000 in
theorem rmust_any (p : Pl) (vS vC vK : Value) (nc : Nat) (C0 C1 : Nat → Int) (at' : Int) (w : World) (hS : TabAt w vS p.S) (hC : TabAt w vC p.C) (hK : PairsAt w vK nc C0 C1) (ha : 0 ≤ at' ∧ at' ≤ 1000000000) (hne : 0 ≤ p.ne ∧ p.ne ≤ 10000) (hc : ∀ j, j < nc → 0 ≤ C0 j ∧ C0 j ≤ C1 j ∧ C1 j ≤ 1000000000) :
    Calls Try.prog 133 #[.agg #[.int .i64 p.s0, .int .i64 p.s1, vS, vC, .int .i64 p.ne, .int .i64 p.ed, .int .i64 p.gr, .int .i64 p.lo, .int .i64 p.hi, .int .i64 p.sh, .int .i64 p.wi], vK, .int .i64 at'] w fun e w' => e = .returned (.bool (nearV p true nc C0 C1 at')) ∧ Below w.heap.size w w' := by
  obtain ⟨aS, cS, rfl, _, _, _⟩ := id hS
  obtain ⟨aC, cC, rfl, _, _, _⟩ := id hC
  obtain ⟨aK, cK, rfl, hcK, hmK, h3⟩ := hK
  have H3 := Lib.hid h3
  clear h3 hS hC
  obtain ⟨f, hf⟩ : ∃ f : Nat → Bool, f = fun j => decide (endV true (awayL (C0 j) (C1 j) at') (awayH (C0 j) (C1 j) at') ≤ p.ne) := ⟨_, rfl⟩
  rw [show nearV p true nc C0 C1 at' = anyV f nc by rw [hf]; rfl]
  have HFj : Hid (∀ j, j < nc → f j = (decide (farV at' (C0 j) ≤ p.ne) && decide (farV at' (C1 j) ≤ p.ne))) := fun j hj => by rw [hf]; exact must_iff (hc j hj).2.1
  have HCb := Lib.hid hc
  clear hf hc
  have HT : Hid (∀ k, k < nc → f k = true → anyV f nc = true) := fun k hk h => (anyV_iff f nc).2 ⟨k, hk, h⟩
  have HZ : Hid ((∀ j, j < nc → f j = false) → anyV f nc = false) := fun h => by
    cases e : anyV f nc with
    | false => rfl
    | true =>
      obtain ⟨k, hk, g⟩ := (anyV_iff f nc).1 e
      rw [h k hk] at g
      exact g.symm
  generalize anyV f nc = r at HT HZ ⊢
  obtain ⟨at1, h1⟩ : ∃ x, at' + p.ne = x := ⟨_, rfl⟩
  obtain ⟨at2, h2⟩ : ∃ x, at' - p.ne = x := ⟨_, rfl⟩
  have ew1 : IntKind.i64.wrap (at' + p.ne) = at1 := by rw [← h1]; exact IntWalk.i64_in _ (by omega)
  have ew2 : IntKind.i64.wrap (at' - p.ne) = at2 := by rw [← h2]; exact IntWalk.i64_in _ (by omega)
  skip
  have jP := Blk.new w #[.int .i64 p.s0, .int .i64 p.s1, (.slice aS p.S.n cS), (.slice aC p.C.n cC), .int .i64 p.ne, .int .i64 p.ed, .int .i64 p.gr, .int .i64 p.lo, .int .i64 p.hi, .int .i64 p.sh, .int .i64 p.wi] 26
  have jB : Below w.heap.size w (w.alloc (.cells #[.int .i64 p.s0, .int .i64 p.s1, (.slice aS p.S.n cS), (.slice aC p.C.n cC), .int .i64 p.ne, .int .i64 p.ed, .int .i64 p.gr, .int .i64 p.lo, .int .i64 p.hi, .int .i64 p.sh, .int .i64 p.wi] 26)) := by (repeat (first | exact Below.refl _ _ | assumption | refine Below.drew ?_ | refine Below.drewN ?_ _ | refine blT ?_ | refine blU ?_))
  clear h1 h2
  go_enter Try.func133, Try.ntmps133
  go_upto_region 1 with fail
  obtain ⟨bP, hbP⟩ : ∃ b, w.heap.size = b := ⟨_, rfl⟩
  rw [hbP] at jP
  (try rw [hbP])
  clear hbP
  replace H3 : Hid (0 < nc → ∃ b o, aK = some ⟨b, o, none⟩ ∧ ∀ i, i < nc → (w.alloc (.cells #[.int .i64 p.s0, .int .i64 p.s1, (.slice aS p.S.n cS), (.slice aC p.C.n cC), .int .i64 p.ne, .int .i64 p.ed, .int .i64 p.gr, .int .i64 p.lo, .int .i64 p.hi, .int .i64 p.sh, .int .i64 p.wi] 26)).cell? ⟨b, o + i * 2, none⟩ = some (.int .i64 (C0 i)) ∧ (w.alloc (.cells #[.int .i64 p.s0, .int .i64 p.s1, (.slice aS p.S.n cS), (.slice aC p.C.n cC), .int .i64 p.ne, .int .i64 p.ed, .int .i64 p.gr, .int .i64 p.lo, .int .i64 p.hi, .int .i64 p.sh, .int .i64 p.wi] 26)).cell? ⟨b, o + i * 2 + 1, none⟩ = some (.int .i64 (C1 i))) := fun h0 => by
    obtain ⟨b, o, e, hc⟩ := H3.out h0
    exact ⟨b, o, e, fun i hi => ⟨cell_later jB (hc i hi).1, cell_later jB (hc i hi).2⟩⟩
  have HB := Lib.hid jB
  clear jB
  generalize w.alloc (.cells #[.int .i64 p.s0, .int .i64 p.s1, (.slice aS p.S.n cS), (.slice aC p.C.n cC), .int .i64 p.ne, .int .i64 p.ed, .int .i64 p.gr, .int .i64 p.lo, .int .i64 p.hi, .int .i64 p.sh, .int .i64 p.wi] 26) = V at jP HB H3 ⊢
  have HP := Lib.hid jP
  clear jP
  go_wp2_with fail
  go_loopw [7] (fun i wr => ∃ k : Nat, k ≤ nc ∧ i = .int .i64 k ∧ (∀ j, j < k → f j = false) ∧ Below V.heap.size V wr) (fun i _ => nc - (intOf i).toNat)
  case atStart => exact ⟨0, Nat.zero_le _, rfl, fun j hj => by omega, Below.refl _ _⟩
  case round =>
    obtain ⟨k, hk, rfl, hj, hB⟩ := hrel
    have HJ := Lib.hid hj
    clear hj
    by_cases hlt2 : k < nc
    · obtain ⟨b, o, rfl, hc⟩ := H3.out (by omega)
      have HC := Lib.hid (hc k hlt2)
      have HTk := Lib.hid (HT.out k hlt2)
      have HFk := Lib.hid (HFj.out k hlt2)
      have hcb := HCb.out k hlt2
      clear hc H3 HT HZ HFj HCb
      have HF0 : Hid (∀ W, Calls Try.prog 135 #[.int .i64 at', .int .i64 (C0 k)] W fun e w' => e = .returned (.int .i64 (farV at' (C0 k))) ∧ Below W.heap.size W w') := fun W => rfar_any _ _ (by omega) (by omega) W
      have HF1 : Hid (∀ W, Calls Try.prog 135 #[.int .i64 at', .int .i64 (C1 k)] W fun e w' => e = .returned (.int .i64 (farV at' (C1 k))) ∧ Below W.heap.size W w') := fun W => rfar_any _ _ (by omega) (by omega) W
      generalize farV at' (C0 k) = f0 at HF0 HFk
      generalize farV at' (C1 k) = f1 at HF1 HFk
      clear hcb
      generalize C0 k = q0 at HC HF0
      generalize C1 k = q1 at HC HF1
      by_cases e1 : f0 ≤ p.ne
      · by_cases e2 : f1 ≤ p.ne
        · have hr := HTk.out (by rw [HFk.out]; simp [e1, e2])
          subst hr
          go_upto_region 4 with fail
          refine wp_region_held_drew (S := (fun v => Below V.heap.size V v)) (by kernel_rfl) ?_ (fun hH => ?_)
          · (try dsimp only); (exact hB.drew)
          refine tkY 0 (some 14) ?_ ?_ ?_
          rotate_left
          · intro w _; go_simp; (try with_reducible rfl)
          (try simp only [cq])
          refine tkY 1 (some 15) ?_ ?_ ?_
          rotate_left
          · intro w _; go_simp; (try with_reducible rfl)
          (try simp only [cq])
          refine tkY 2 (some 16) ?_ ?_ ?_
          rotate_left
          · intro w _; go_simp; (try with_reducible rfl)
          (try simp only [cq])
          refine tkY 3 (some 17) ?_ ?_ ?_
          rotate_left
          · intro w hS0; (try dsimp only at hS0); have kP := HP.out.call hS0; obtain ⟨c0, c1, c2, c3, c4, c5, c6, c7, c8, c9, c10⟩ := kP.c11; have g0 := cell_later hS0 HC.out.1; have g1 := cell_later hS0 HC.out.2; have y0 := kP.lt; have y1 := World.block_lt_of_cell? _ _ g0;go_simp; (try with_reducible rfl)
          (try simp only [cq])
          refine tkY 4 (some 18) ?_ ?_ ?_
          rotate_left
          · intro w hS0; (try dsimp only at hS0); have kP := HP.out.call hS0; obtain ⟨c0, c1, c2, c3, c4, c5, c6, c7, c8, c9, c10⟩ := kP.c11; have g0 := cell_later hS0 HC.out.1; have g1 := cell_later hS0 HC.out.2; have y0 := kP.lt; have y1 := World.block_lt_of_cell? _ _ g0;go_simp; (try with_reducible rfl)
          (try simp only [cq])
          refine tkY 5 (some 19) ?_ ?_ ?_
          rotate_left
          · intro w hS0; (try dsimp only at hS0); have kP := HP.out.call hS0; obtain ⟨c0, c1, c2, c3, c4, c5, c6, c7, c8, c9, c10⟩ := kP.c11; have g0 := cell_later hS0 HC.out.1; have g1 := cell_later hS0 HC.out.2; have y0 := kP.lt; have y1 := World.block_lt_of_cell? _ _ g0;go_simp; (try with_reducible rfl)
          (try simp only [cq])
          refine tkY 7 (some 21) ?_ ?_ ?_
          rotate_left
          · intro w hS0; (try dsimp only at hS0); have kP := HP.out.call hS0; obtain ⟨c0, c1, c2, c3, c4, c5, c6, c7, c8, c9, c10⟩ := kP.c11; have g0 := cell_later hS0 HC.out.1; have g1 := cell_later hS0 HC.out.2; have y0 := kP.lt; have y1 := World.block_lt_of_cell? _ _ g0;go_simp; (try with_reducible rfl)
          (try simp only [cq])
          refine tkY 8 (some 22) ?_ ?_ ?_
          rotate_left
          · intro w hS0; (try dsimp only at hS0); have kP := HP.out.call hS0; obtain ⟨c0, c1, c2, c3, c4, c5, c6, c7, c8, c9, c10⟩ := kP.c11; have g0 := cell_later hS0 HC.out.1; have g1 := cell_later hS0 HC.out.2; have y0 := kP.lt; have y1 := World.block_lt_of_cell? _ _ g0;go_simp; (try with_reducible rfl)
          (try simp only [cq])
          refine wpAnyH_ready (rs := [6]) (by kernel_rfl) (by simp) ?_
          refine arc1 (some 20) fun K hK => ?_
          go_simp
          (refine (HF0.out _).mono ?_; rintro e w' ⟨rfl, hb⟩)
          refine hK.out _ _ ?_ ?_
          · (exact bwS hH (Nat.le_refl _) hb)
          (try clear hH); (try clear hb)
          intro hH
          clear hK K
          (try simp only [cq])
          refine tkY 9 (some 23) ?_ ?_ ?_
          rotate_left
          · intro w _; go_simp; (try with_reducible rfl)
          (try simp only [cq])
          refine tkY 10 (some 24) ?_ ?_ ?_
          rotate_left
          · intro w _; go_simp; (try with_reducible rfl)
          (try simp only [cq])
          refine tkY 11 (some 25) ?_ ?_ ?_
          rotate_left
          · intro w _; go_simp; (try with_reducible rfl)
          (try simp only [cq])
          refine tkY 12 (some 26) ?_ ?_ ?_
          rotate_left
          · intro w _; go_simp; (try with_reducible rfl)
          (try simp only [cq])
          refine tkY 13 (some 27) ?_ ?_ ?_
          rotate_left
          · intro w _; go_simp; (try with_reducible rfl)
          (try simp only [cq])
          refine tkY 14 (some 28) ?_ ?_ ?_
          rotate_left
          · intro w hS0; (try dsimp only at hS0); have kP := HP.out.call hS0; obtain ⟨c0, c1, c2, c3, c4, c5, c6, c7, c8, c9, c10⟩ := kP.c11; have g0 := cell_later hS0 HC.out.1; have g1 := cell_later hS0 HC.out.2; have y0 := kP.lt; have y1 := World.block_lt_of_cell? _ _ g0;go_simp; (try with_reducible rfl)
          (try simp only [cq])
          refine tkY 15 (some 29) ?_ ?_ ?_
          rotate_left
          · intro w hS0; (try dsimp only at hS0); have kP := HP.out.call hS0; obtain ⟨c0, c1, c2, c3, c4, c5, c6, c7, c8, c9, c10⟩ := kP.c11; have g0 := cell_later hS0 HC.out.1; have g1 := cell_later hS0 HC.out.2; have y0 := kP.lt; have y1 := World.block_lt_of_cell? _ _ g0;go_simp; (try with_reducible rfl)
          (try simp only [cq])
          refine tkY 16 (some 30) ?_ ?_ ?_
          rotate_left
          · intro w hS0; (try dsimp only at hS0); have kP := HP.out.call hS0; obtain ⟨c0, c1, c2, c3, c4, c5, c6, c7, c8, c9, c10⟩ := kP.c11; have g0 := cell_later hS0 HC.out.1; have g1 := cell_later hS0 HC.out.2; have y0 := kP.lt; have y1 := World.block_lt_of_cell? _ _ g0;go_simp; (try with_reducible rfl)
          (try simp only [cq])
          refine tkY 18 (some 32) ?_ ?_ ?_
          rotate_left
          · intro w hS0; (try dsimp only at hS0); have kP := HP.out.call hS0; obtain ⟨c0, c1, c2, c3, c4, c5, c6, c7, c8, c9, c10⟩ := kP.c11; have g0 := cell_later hS0 HC.out.1; have g1 := cell_later hS0 HC.out.2; have y0 := kP.lt; have y1 := World.block_lt_of_cell? _ _ g0;go_simp; (try with_reducible rfl)
          (try simp only [cq])
          refine tkY 19 (some 33) ?_ ?_ ?_
          rotate_left
          · intro w hS0; (try dsimp only at hS0); have kP := HP.out.call hS0; obtain ⟨c0, c1, c2, c3, c4, c5, c6, c7, c8, c9, c10⟩ := kP.c11; have g0 := cell_later hS0 HC.out.1; have g1 := cell_later hS0 HC.out.2; have y0 := kP.lt; have y1 := World.block_lt_of_cell? _ _ g0;go_simp; (try with_reducible rfl)
          (try simp only [cq])
          refine wpAnyH_ready (rs := [17]) (by kernel_rfl) (by simp) ?_
          refine arc1 (some 31) fun K hK => ?_
          go_simp
          (refine (HF1.out _).mono ?_; rintro e w' ⟨rfl, hb⟩)
          refine hK.out _ _ ?_ ?_
          · (exact bwS hH (Nat.le_refl _) hb)
          (try clear hH); (try clear hb)
          intro hH
          clear hK K
          (try simp only [cq])
          refine tkY 20 (some 34) ?_ ?_ ?_
          rotate_left
          · intro w _; go_simp; (try with_reducible rfl)
          (try simp only [cq])
          refine tkY 21 (some 35) ?_ ?_ ?_
          rotate_left
          · intro w _; go_simp; (try with_reducible rfl)
          (try simp only [cq])
          refine wpAnyH_done (by kernel_rfl) ?_ _
          (try dsimp only [Act.put])
          (try simp only [cq])
          clear hB
          have hB := hH
          clear hH
          go_wp2
          go_ret
          exact ⟨rfl, bwS HB.out (by have := HB.out.size; omega) hB⟩
        · have hz : f k = false := by rw [HFk.out]; simp; omega
          go_upto_region 4 with fail
          refine wp_region_held_drew (S := (fun v => Below V.heap.size V v)) (by kernel_rfl) ?_ (fun hH => ?_)
          · (try dsimp only); (exact hB.drew)
          refine tkY 0 (some 14) ?_ ?_ ?_
          rotate_left
          · intro w _; go_simp; (try with_reducible rfl)
          (try simp only [cq])
          refine tkY 1 (some 15) ?_ ?_ ?_
          rotate_left
          · intro w _; go_simp; (try with_reducible rfl)
          (try simp only [cq])
          refine tkY 2 (some 16) ?_ ?_ ?_
          rotate_left
          · intro w _; go_simp; (try with_reducible rfl)
          (try simp only [cq])
          refine tkY 3 (some 17) ?_ ?_ ?_
          rotate_left
          · intro w hS0; (try dsimp only at hS0); have kP := HP.out.call hS0; obtain ⟨c0, c1, c2, c3, c4, c5, c6, c7, c8, c9, c10⟩ := kP.c11; have g0 := cell_later hS0 HC.out.1; have g1 := cell_later hS0 HC.out.2; have y0 := kP.lt; have y1 := World.block_lt_of_cell? _ _ g0;go_simp; (try with_reducible rfl)
          (try simp only [cq])
          refine tkY 4 (some 18) ?_ ?_ ?_
          rotate_left
          · intro w hS0; (try dsimp only at hS0); have kP := HP.out.call hS0; obtain ⟨c0, c1, c2, c3, c4, c5, c6, c7, c8, c9, c10⟩ := kP.c11; have g0 := cell_later hS0 HC.out.1; have g1 := cell_later hS0 HC.out.2; have y0 := kP.lt; have y1 := World.block_lt_of_cell? _ _ g0;go_simp; (try with_reducible rfl)
          (try simp only [cq])
          refine tkY 5 (some 19) ?_ ?_ ?_
          rotate_left
          · intro w hS0; (try dsimp only at hS0); have kP := HP.out.call hS0; obtain ⟨c0, c1, c2, c3, c4, c5, c6, c7, c8, c9, c10⟩ := kP.c11; have g0 := cell_later hS0 HC.out.1; have g1 := cell_later hS0 HC.out.2; have y0 := kP.lt; have y1 := World.block_lt_of_cell? _ _ g0;go_simp; (try with_reducible rfl)
          (try simp only [cq])
          refine tkY 7 (some 21) ?_ ?_ ?_
          rotate_left
          · intro w hS0; (try dsimp only at hS0); have kP := HP.out.call hS0; obtain ⟨c0, c1, c2, c3, c4, c5, c6, c7, c8, c9, c10⟩ := kP.c11; have g0 := cell_later hS0 HC.out.1; have g1 := cell_later hS0 HC.out.2; have y0 := kP.lt; have y1 := World.block_lt_of_cell? _ _ g0;go_simp; (try with_reducible rfl)
          (try simp only [cq])
          refine tkY 8 (some 22) ?_ ?_ ?_
          rotate_left
          · intro w hS0; (try dsimp only at hS0); have kP := HP.out.call hS0; obtain ⟨c0, c1, c2, c3, c4, c5, c6, c7, c8, c9, c10⟩ := kP.c11; have g0 := cell_later hS0 HC.out.1; have g1 := cell_later hS0 HC.out.2; have y0 := kP.lt; have y1 := World.block_lt_of_cell? _ _ g0;go_simp; (try with_reducible rfl)
          (try simp only [cq])
          refine wpAnyH_ready (rs := [6]) (by kernel_rfl) (by simp) ?_
          refine arc1 (some 20) fun K hK => ?_
          go_simp
          (refine (HF0.out _).mono ?_; rintro e w' ⟨rfl, hb⟩)
          refine hK.out _ _ ?_ ?_
          · (exact bwS hH (Nat.le_refl _) hb)
          (try clear hH); (try clear hb)
          intro hH
          clear hK K
          (try simp only [cq])
          refine tkY 9 (some 23) ?_ ?_ ?_
          rotate_left
          · intro w _; go_simp; (try with_reducible rfl)
          (try simp only [cq])
          refine tkY 10 (some 24) ?_ ?_ ?_
          rotate_left
          · intro w _; go_simp; (try with_reducible rfl)
          (try simp only [cq])
          refine tkY 11 (some 25) ?_ ?_ ?_
          rotate_left
          · intro w _; go_simp; (try with_reducible rfl)
          (try simp only [cq])
          refine tkY 12 (some 26) ?_ ?_ ?_
          rotate_left
          · intro w _; go_simp; (try with_reducible rfl)
          (try simp only [cq])
          refine tkY 13 (some 27) ?_ ?_ ?_
          rotate_left
          · intro w _; go_simp; (try with_reducible rfl)
          (try simp only [cq])
          refine tkY 14 (some 28) ?_ ?_ ?_
          rotate_left
          · intro w hS0; (try dsimp only at hS0); have kP := HP.out.call hS0; obtain ⟨c0, c1, c2, c3, c4, c5, c6, c7, c8, c9, c10⟩ := kP.c11; have g0 := cell_later hS0 HC.out.1; have g1 := cell_later hS0 HC.out.2; have y0 := kP.lt; have y1 := World.block_lt_of_cell? _ _ g0;go_simp; (try with_reducible rfl)
          (try simp only [cq])
          refine tkY 15 (some 29) ?_ ?_ ?_
          rotate_left
          · intro w hS0; (try dsimp only at hS0); have kP := HP.out.call hS0; obtain ⟨c0, c1, c2, c3, c4, c5, c6, c7, c8, c9, c10⟩ := kP.c11; have g0 := cell_later hS0 HC.out.1; have g1 := cell_later hS0 HC.out.2; have y0 := kP.lt; have y1 := World.block_lt_of_cell? _ _ g0;go_simp; (try with_reducible rfl)
          (try simp only [cq])
          refine tkY 16 (some 30) ?_ ?_ ?_
          rotate_left
          · intro w hS0; (try dsimp only at hS0); have kP := HP.out.call hS0; obtain ⟨c0, c1, c2, c3, c4, c5, c6, c7, c8, c9, c10⟩ := kP.c11; have g0 := cell_later hS0 HC.out.1; have g1 := cell_later hS0 HC.out.2; have y0 := kP.lt; have y1 := World.block_lt_of_cell? _ _ g0;go_simp; (try with_reducible rfl)
          (try simp only [cq])
          refine tkY 18 (some 32) ?_ ?_ ?_
          rotate_left
          · intro w hS0; (try dsimp only at hS0); have kP := HP.out.call hS0; obtain ⟨c0, c1, c2, c3, c4, c5, c6, c7, c8, c9, c10⟩ := kP.c11; have g0 := cell_later hS0 HC.out.1; have g1 := cell_later hS0 HC.out.2; have y0 := kP.lt; have y1 := World.block_lt_of_cell? _ _ g0;go_simp; (try with_reducible rfl)
          (try simp only [cq])
          refine tkY 19 (some 33) ?_ ?_ ?_
          rotate_left
          · intro w hS0; (try dsimp only at hS0); have kP := HP.out.call hS0; obtain ⟨c0, c1, c2, c3, c4, c5, c6, c7, c8, c9, c10⟩ := kP.c11; have g0 := cell_later hS0 HC.out.1; have g1 := cell_later hS0 HC.out.2; have y0 := kP.lt; have y1 := World.block_lt_of_cell? _ _ g0;go_simp; (try with_reducible rfl)
          (try simp only [cq])
          refine wpAnyH_ready (rs := [17]) (by kernel_rfl) (by simp) ?_
          refine arc1 (some 31) fun K hK => ?_
          go_simp
          (refine (HF1.out _).mono ?_; rintro e w' ⟨rfl, hb⟩)
          refine hK.out _ _ ?_ ?_
          · (exact bwS hH (Nat.le_refl _) hb)
          (try clear hH); (try clear hb)
          intro hH
          clear hK K
          (try simp only [cq])
          refine tkY 20 (some 34) ?_ ?_ ?_
          rotate_left
          · intro w _; go_simp; (try with_reducible rfl)
          (try simp only [cq])
          refine tkY 21 (some 35) ?_ ?_ ?_
          rotate_left
          · intro w _; go_simp; (try with_reducible rfl)
          (try simp only [cq])
          refine wpAnyH_done (by kernel_rfl) ?_ _
          (try dsimp only [Act.put])
          (try simp only [cq])
          clear hB
          have hB := hH
          clear hH
          go_wp2
          go_roundw
          case rel => exact ⟨k + 1, by omega, by go_num, fun j hj => by
              by_cases e : j = k
              · subst e; exact hz
              · exact HJ.out j (by omega), hB⟩
          case measure => simp [intOf]; omega
      · have hz : f k = false := by rw [HFk.out]; simp [e1]
        go_upto_region 4 with fail
        refine wp_region_held_drew (S := (fun v => Below V.heap.size V v)) (by kernel_rfl) ?_ (fun hH => ?_)
        · (try dsimp only); (exact hB.drew)
        refine tkY 0 (some 14) ?_ ?_ ?_
        rotate_left
        · intro w _; go_simp; (try with_reducible rfl)
        (try simp only [cq])
        refine tkY 1 (some 15) ?_ ?_ ?_
        rotate_left
        · intro w _; go_simp; (try with_reducible rfl)
        (try simp only [cq])
        refine tkY 2 (some 16) ?_ ?_ ?_
        rotate_left
        · intro w _; go_simp; (try with_reducible rfl)
        (try simp only [cq])
        refine tkY 3 (some 17) ?_ ?_ ?_
        rotate_left
        · intro w hS0; (try dsimp only at hS0); have kP := HP.out.call hS0; obtain ⟨c0, c1, c2, c3, c4, c5, c6, c7, c8, c9, c10⟩ := kP.c11; have g0 := cell_later hS0 HC.out.1; have g1 := cell_later hS0 HC.out.2; have y0 := kP.lt; have y1 := World.block_lt_of_cell? _ _ g0;go_simp; (try with_reducible rfl)
        (try simp only [cq])
        refine tkY 4 (some 18) ?_ ?_ ?_
        rotate_left
        · intro w hS0; (try dsimp only at hS0); have kP := HP.out.call hS0; obtain ⟨c0, c1, c2, c3, c4, c5, c6, c7, c8, c9, c10⟩ := kP.c11; have g0 := cell_later hS0 HC.out.1; have g1 := cell_later hS0 HC.out.2; have y0 := kP.lt; have y1 := World.block_lt_of_cell? _ _ g0;go_simp; (try with_reducible rfl)
        (try simp only [cq])
        refine tkY 5 (some 19) ?_ ?_ ?_
        rotate_left
        · intro w hS0; (try dsimp only at hS0); have kP := HP.out.call hS0; obtain ⟨c0, c1, c2, c3, c4, c5, c6, c7, c8, c9, c10⟩ := kP.c11; have g0 := cell_later hS0 HC.out.1; have g1 := cell_later hS0 HC.out.2; have y0 := kP.lt; have y1 := World.block_lt_of_cell? _ _ g0;go_simp; (try with_reducible rfl)
        (try simp only [cq])
        refine tkY 7 (some 21) ?_ ?_ ?_
        rotate_left
        · intro w hS0; (try dsimp only at hS0); have kP := HP.out.call hS0; obtain ⟨c0, c1, c2, c3, c4, c5, c6, c7, c8, c9, c10⟩ := kP.c11; have g0 := cell_later hS0 HC.out.1; have g1 := cell_later hS0 HC.out.2; have y0 := kP.lt; have y1 := World.block_lt_of_cell? _ _ g0;go_simp; (try with_reducible rfl)
        (try simp only [cq])
        refine tkY 8 (some 22) ?_ ?_ ?_
        rotate_left
        · intro w hS0; (try dsimp only at hS0); have kP := HP.out.call hS0; obtain ⟨c0, c1, c2, c3, c4, c5, c6, c7, c8, c9, c10⟩ := kP.c11; have g0 := cell_later hS0 HC.out.1; have g1 := cell_later hS0 HC.out.2; have y0 := kP.lt; have y1 := World.block_lt_of_cell? _ _ g0;go_simp; (try with_reducible rfl)
        (try simp only [cq])
        refine wpAnyH_ready (rs := [6]) (by kernel_rfl) (by simp) ?_
        refine arc1 (some 20) fun K hK => ?_
        go_simp
        (refine (HF0.out _).mono ?_; rintro e w' ⟨rfl, hb⟩)
        refine hK.out _ _ ?_ ?_
        · (exact bwS hH (Nat.le_refl _) hb)
        (try clear hH); (try clear hb)
        intro hH
        clear hK K
        (try simp only [cq])
        refine tkY 9 (some 23) ?_ ?_ ?_
        rotate_left
        · intro w _; go_simp; (try with_reducible rfl)
        (try simp only [cq])
        refine tkY 10 (some 24) ?_ ?_ ?_
        rotate_left
        · intro w _; go_simp; (try with_reducible rfl)
        (try simp only [cq])
        refine tkN 11 (some 25) ?_
        (try simp only [cq])
        refine tkN 12 (some 26) ?_
        (try simp only [cq])
        refine tkN 13 (some 27) ?_
        (try simp only [cq])
        refine tkN 14 (some 28) ?_
        (try simp only [cq])
        refine tkN 15 (some 29) ?_
        (try simp only [cq])
        refine tkN 16 (some 30) ?_
        (try simp only [cq])
        refine tkN 17 (some 31) ?_
        (try simp only [cq])
        refine tkN 18 (some 32) ?_
        (try simp only [cq])
        refine tkN 19 (some 33) ?_
        (try simp only [cq])
        refine tkN 20 (some 34) ?_
        (try simp only [cq])
        refine tkY 21 (some 35) ?_ ?_ ?_
        rotate_left
        · intro w _; go_simp; (try with_reducible rfl)
        (try simp only [cq])
        refine wpAnyH_done (by kernel_rfl) ?_ _
        (try dsimp only [Act.put])
        (try simp only [cq])
        clear hB
        have hB := hH
        clear hH
        go_wp2
        go_roundw
        case rel => exact ⟨k + 1, by omega, by go_num, fun j hj => by
            by_cases e : j = k
            · subst e; exact hz
            · exact HJ.out j (by omega), hB⟩
        case measure => simp [intOf]; omega
    · have hr := HZ.out (fun j hj => HJ.out j (by omega))
      subst hr
      go_wp2
      go_ret
      exact ⟨rfl, bwS HB.out (by have := HB.out.size; omega) hB⟩

set_option maxRecDepth 100000 in
set_option maxHeartbeats 2000000 in
theorem rthick_any (p : Pl) (vS vC : Value) (h : Int) (near : Bool) (hh : 0 ≤ h ∧ h ≤ 5000) (hed : 0 ≤ p.ed ∧ p.ed ≤ 1000000) (w : World) (hS : TabAt w vS p.S) (hC : TabAt w vC p.C) :
    Calls Try.prog 131 #[.agg #[.int .i64 p.s0, .int .i64 p.s1, vS, vC, .int .i64 p.ne, .int .i64 p.ed, .int .i64 p.gr, .int .i64 p.lo, .int .i64 p.hi, .int .i64 p.sh, .int .i64 p.wi], .int .i64 h, .bool near] w fun e w' => e = .returned (.int .i64 (thinV p near h)) ∧ Below w.heap.size w w' := by
  obtain ⟨aS, cS, rfl, _, _, _⟩ := id hS
  obtain ⟨aC, cC, rfl, _, _, _⟩ := id hC
  clear hS hC
  have jP := Blk.new w #[.int .i64 p.s0, .int .i64 p.s1, (.slice aS p.S.n cS), (.slice aC p.C.n cC), .int .i64 p.ne, .int .i64 p.ed, .int .i64 p.gr, .int .i64 p.lo, .int .i64 p.hi, .int .i64 p.sh, .int .i64 p.wi] 26
  have jB : Below w.heap.size w (w.alloc (.cells #[.int .i64 p.s0, .int .i64 p.s1, (.slice aS p.S.n cS), (.slice aC p.C.n cC), .int .i64 p.ne, .int .i64 p.ed, .int .i64 p.gr, .int .i64 p.lo, .int .i64 p.hi, .int .i64 p.sh, .int .i64 p.wi] 26)) := by (repeat (first | exact Below.refl _ _ | assumption | refine Below.drew ?_ | refine Below.drewN ?_ _ | refine blT ?_ | refine blU ?_))
  cases near with
  | false =>
    rw [show thinV p false h = h from rfl]
    clear jP
    go_enter Try.func131, Try.ntmps131
    go_wp2
    go_ret
    exact ⟨rfl, jB⟩
  | true =>
    have m0 : 0 ≤ h * p.ed := Int.mul_nonneg hh.1 hed.1
    have m1 : h * p.ed ≤ 5000000000 := by have := Int.mul_le_mul hh.2 hed.2 hed.1 (by decide : (0 : Int) ≤ 5000); omega
    obtain ⟨t, ht⟩ : ∃ t, thinV p true h = t := ⟨_, rfl⟩
    rw [ht]
    have ht2 : h * p.ed / 1000000 = t := by rw [← ht]; rfl
    have ew1 : IntKind.i64.wrap (h * p.ed) = h * p.ed := IntWalk.i64_in _ (by omega)
    have ew2 : IntKind.i64.wrap ((h * p.ed).tdiv 1000000) = t := by rw [Int.tdiv_eq_ediv_of_nonneg m0, ht2]; exact IntWalk.i64_in _ (by omega)
    obtain ⟨c0, c1, c2, c3, c4, c5, c6, c7, c8, c9, c10⟩ := jP.c11
    have zP := jP.lt
    clear ht ht2 jP
    go_enter Try.func131, Try.ntmps131
    go_wp2
    go_ret
    exact ⟨rfl, jB⟩

set_option maxRecDepth 100000 in
set_option maxHeartbeats 2000000 in
theorem rborne_any (bu s h c : Int) (hb : 0 ≤ bu ∧ bu ≤ 6000000000000) (hs : 0 ≤ s ∧ s ≤ 100000) (hh : 0 ≤ h ∧ h ≤ 5000) (hc : 0 ≤ c ∧ c ≤ 1000000) (w : World) :
    Calls Try.prog 130 #[.int .i64 bu, .int .i64 s, .int .i64 h, .int .i64 c] w fun e w' => e = .returned (.bool (decide (bu * 1000000 ≤ s * h * h * c))) ∧ Below w.heap.size w w' := by
  have a0 : 0 ≤ s * h := Int.mul_nonneg hs.1 hh.1
  have a1 : s * h ≤ 500000000 := by have := Int.mul_le_mul hs.2 hh.2 hh.1 (by decide : (0 : Int) ≤ 100000); omega
  have b0 : 0 ≤ s * h * h := Int.mul_nonneg a0 hh.1
  have b1 : s * h * h ≤ 2500000000000 := by have := Int.mul_le_mul a1 hh.2 hh.1 (by decide : (0 : Int) ≤ 500000000); omega
  have d0 : 0 ≤ s * h * h * c := Int.mul_nonneg b0 hc.1
  have d1 : s * h * h * c ≤ 2500000000000000000 := by have := Int.mul_le_mul b1 hc.2 hc.1 (by decide : (0 : Int) ≤ 2500000000000); omega
  have e1 : IntKind.i64.wrap (bu * 1000000) = bu * 1000000 := IntWalk.i64_in _ (by omega)
  have e2 : IntKind.i64.wrap (s * h) = s * h := IntWalk.i64_in _ (by omega)
  have e3 : IntKind.i64.wrap (s * h * h) = s * h * h := IntWalk.i64_in _ (by omega)
  have e4 : IntKind.i64.wrap (s * h * h * c) = s * h * h * c := IntWalk.i64_in _ (by omega)
  clear a0 a1 b0 b1 d0 d1 hb hs hh hc
  go_enter Try.func130, Try.ntmps130
  go_wp2
  go_ret
  exact ⟨rfl, Below.refl _ _⟩
end Go.Proofs.Ytfakmggabicdjaa
