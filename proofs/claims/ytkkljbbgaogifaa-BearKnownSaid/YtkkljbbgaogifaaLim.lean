/-
  What ice bears, burdens, cracks (package bear).
-/
import Derived.Test.YtkkljbbgaogifaaTail
import Derived.Test.YtkkljbbgaogifaaRoadC
set_option linter.unusedVariables false
set_option linter.unusedSimpArgs false
namespace Go.Proofs.Ytkkljbbgaogifaa
open Go.RowKit

set_option maxHeartbeats 2000000 in
theorem limit_any (p : Pl) (hp : p.Ok) (b : Bool) (vS vC : Value) (thick st : Int) (ht : 0 ≤ thick ∧ thick ≤ 5000) (hs : 0 ≤ st) (w : World) (hC : TabAt w vC p.C) :
    Calls Try.prog 111 #[.agg #[.bool b, .int .i64 p.s0, .int .i64 p.s1, vS, vC, .int .i64 p.ne, .int .i64 p.ed, .int .i64 p.gr, .int .i64 p.lo, .int .i64 p.hi, .int .i64 p.sh, .int .i64 p.wi], .int .i64 thick, .int .i64 st] w fun e w' => e = .returned (.int .i64 (limV p b thick st)) ∧ Below w.heap.size w w' := by
  have HC : Hid (∀ W, Below w.heap.size w W → Calls Try.prog 140 #[vC, .int .i64 st] W fun e w' => e = .returned (.int .i64 (p.C.val st)) ∧ Below W.heap.size W w') := fun W hW => part_any vC p.C hp.C st hs W (hC.later hW)
  have hE : 0 ≤ endV b p.s0 p.s1 ∧ endV b p.s0 p.s1 ≤ 100000 := by have := hp.s0; have := hp.s01; have := hp.s1; cases b <;> simp [endV] <;> omega
  have hB := lim_in hE ht (hp.C.val_in st)
  have HV : Hid (limV p b thick st = endV b p.s0 p.s1 * thick * thick * p.C.val st) := rfl
  have HM := Lib.hid (more_any b p.s0 p.s1)
  generalize limV p b thick st = r at HV ⊢
  generalize p.C.val st = cv at HC HV hB ⊢
  generalize endV b p.s0 p.s1 = ev at HV HM hB hE ⊢
  have e1 : IntKind.i64.wrap (ev * thick) = ev * thick := IntWalk.i64_in _ (by omega)
  have e2 : IntKind.i64.wrap (ev * thick * thick) = ev * thick * thick := IntWalk.i64_in _ (by omega)
  have e3 : IntKind.i64.wrap (ev * thick * thick * cv) = ev * thick * thick * cv := IntWalk.i64_in _ (by omega)
  clear hC hB hE hp
  have jP := Blk.new w #[.bool b, .int .i64 p.s0, .int .i64 p.s1, vS, vC, .int .i64 p.ne, .int .i64 p.ed, .int .i64 p.gr, .int .i64 p.lo, .int .i64 p.hi, .int .i64 p.sh, .int .i64 p.wi] 127
  have jB : Below w.heap.size w (w.alloc (.cells #[.bool b, .int .i64 p.s0, .int .i64 p.s1, vS, vC, .int .i64 p.ne, .int .i64 p.ed, .int .i64 p.gr, .int .i64 p.lo, .int .i64 p.hi, .int .i64 p.sh, .int .i64 p.wi] 127)) := by (repeat (first | exact Below.refl _ _ | assumption | refine Below.drew ?_ | refine Below.drewN ?_ _ | refine blT ?_ | refine blU ?_))
  go_enter Try.func111, Try.ntmps111
  go_wp2_with fail
  refine wp_region_held_drew (S := (fun w' => Blk w' w.heap.size #[.bool b, .int .i64 p.s0, .int .i64 p.s1, vS, vC, .int .i64 p.ne, .int .i64 p.ed, .int .i64 p.gr, .int .i64 p.lo, .int .i64 p.hi, .int .i64 p.sh, .int .i64 p.wi] 127 ∧ Below w.heap.size w w')) (by kernel_rfl) ?_ (fun hH => ?_)
  · (try dsimp only); (exact ⟨jP.drew, jB.drew⟩)
  refine tkY 0 (some 7) ?_ ?_ ?_
  rotate_left
  · intro w hS0; (try dsimp only at hS0); obtain ⟨kP, _⟩ := hS0; obtain ⟨c0, c1, c2, c3, c4, c5, c6, c7, c8, c9, c10, c11⟩ := kP.c12; have y1 := kP.lt;go_simp; (try with_reducible rfl)
  (try simp only [cq])
  refine tkY 1 (some 8) ?_ ?_ ?_
  rotate_left
  · intro w hS0; (try dsimp only at hS0); obtain ⟨kP, _⟩ := hS0; obtain ⟨c0, c1, c2, c3, c4, c5, c6, c7, c8, c9, c10, c11⟩ := kP.c12; have y1 := kP.lt;go_simp; (try with_reducible rfl)
  (try simp only [cq])
  refine tkY 2 (some 9) ?_ ?_ ?_
  rotate_left
  · intro w hS0; (try dsimp only at hS0); obtain ⟨kP, _⟩ := hS0; obtain ⟨c0, c1, c2, c3, c4, c5, c6, c7, c8, c9, c10, c11⟩ := kP.c12; have y1 := kP.lt;go_simp; (try with_reducible rfl)
  (try simp only [cq])
  refine tkY 3 (some 10) ?_ ?_ ?_
  rotate_left
  · intro w hS0; (try dsimp only at hS0); obtain ⟨kP, _⟩ := hS0; obtain ⟨c0, c1, c2, c3, c4, c5, c6, c7, c8, c9, c10, c11⟩ := kP.c12; have y1 := kP.lt;go_simp; (try with_reducible rfl)
  (try simp only [cq])
  refine tkY 4 (some 11) ?_ ?_ ?_
  rotate_left
  · intro w hS0; (try dsimp only at hS0); obtain ⟨kP, _⟩ := hS0; obtain ⟨c0, c1, c2, c3, c4, c5, c6, c7, c8, c9, c10, c11⟩ := kP.c12; have y1 := kP.lt;go_simp; (try with_reducible rfl)
  (try simp only [cq])
  refine tkY 6 (some 13) ?_ ?_ ?_
  rotate_left
  · intro w _; go_simp; (try with_reducible rfl)
  (try simp only [cq])
  refine tkY 8 (some 15) ?_ ?_ ?_
  rotate_left
  · intro w _; go_simp; (try with_reducible rfl)
  (try simp only [cq])
  refine tkY 10 (some 17) ?_ ?_ ?_
  rotate_left
  · intro w hS0; (try dsimp only at hS0); obtain ⟨kP, _⟩ := hS0; obtain ⟨c0, c1, c2, c3, c4, c5, c6, c7, c8, c9, c10, c11⟩ := kP.c12; have y1 := kP.lt;go_simp; (try with_reducible rfl)
  (try simp only [cq])
  refine tkY 11 (some 18) ?_ ?_ ?_
  rotate_left
  · intro w hS0; (try dsimp only at hS0); obtain ⟨kP, _⟩ := hS0; obtain ⟨c0, c1, c2, c3, c4, c5, c6, c7, c8, c9, c10, c11⟩ := kP.c12; have y1 := kP.lt;go_simp; (try with_reducible rfl)
  (try simp only [cq])
  refine tkY 12 (some 19) ?_ ?_ ?_
  rotate_left
  · intro w hS0; (try dsimp only at hS0); obtain ⟨kP, _⟩ := hS0; obtain ⟨c0, c1, c2, c3, c4, c5, c6, c7, c8, c9, c10, c11⟩ := kP.c12; have y1 := kP.lt;go_simp; (try with_reducible rfl)
  (try simp only [cq])
  refine tkY 13 (some 20) ?_ ?_ ?_
  rotate_left
  · intro w _; go_simp; (try with_reducible rfl)
  (try simp only [cq])
  refine wpAnyH_ready (rs := [5]) (by kernel_rfl) (by simp) ?_
  refine arc1 (some 12) fun K hK => ?_
  go_simp
  (refine (HM.out _).mono ?_; rintro e w' ⟨rfl, hb⟩)
  refine hK.out _ _ ?_ ?_
  · (exact ⟨hH.1.call hb, bwS hH.2 (Nat.le_refl _) hb⟩)
  (try clear hH); (try clear hb)
  intro hH
  clear hK K
  (try simp only [cq])
  refine tkY 7 (some 14) ?_ ?_ ?_
  rotate_left
  · intro w _; go_simp; (try with_reducible rfl)
  (try simp only [cq])
  refine tkY 9 (some 16) ?_ ?_ ?_
  rotate_left
  · intro w _; go_simp; (try with_reducible rfl)
  (try simp only [cq])
  refine wpAnyH_ready (rs := [14]) (by kernel_rfl) (by simp) ?_
  refine arc1 (some 21) fun K hK => ?_
  go_simp
  (refine (HC.out _ hH.2).mono ?_; rintro e w' ⟨rfl, hb⟩)
  refine hK.out _ _ ?_ ?_
  · (exact ⟨hH.1.call hb, bwS hH.2 (Nat.le_refl _) hb⟩)
  (try clear hH); (try clear hb)
  intro hH
  clear hK K
  (try simp only [cq])
  refine tkY 15 (some 22) ?_ ?_ ?_
  rotate_left
  · intro w _; go_simp; (try with_reducible rfl)
  (try simp only [cq])
  refine tkY 16 (some 6) ?_ ?_ ?_
  rotate_left
  · intro w _; go_simp; (try with_reducible rfl)
  (try simp only [cq])
  refine wpAnyH_done (by kernel_rfl) ?_ _
  (try dsimp only [Act.put])
  (try simp only [cq])
  have hBB := hH.2
  clear hH
  go_wp2
  go_ret
  have hr := HV.out
  subst hr
  exact ⟨rfl, hBB⟩

theorem awayL_spec (c0 c1 m : Int) : 0 ≤ awayL c0 c1 m ∧ c0 - m ≤ awayL c0 c1 m ∧ m - c1 ≤ awayL c0 c1 m ∧ (awayL c0 c1 m = 0 ∨ awayL c0 c1 m = c0 - m ∨ awayL c0 c1 m = m - c1) := by
  unfold awayL
  have h1 := Int.le_max_left (max 0 (c0 - m)) (m - c1)
  have h2 := Int.le_max_right (max 0 (c0 - m)) (m - c1)
  have h3 := Int.le_max_left 0 (c0 - m)
  have h4 := Int.le_max_right 0 (c0 - m)
  refine ⟨by omega, by omega, h2, ?_⟩
  by_cases a : max 0 (c0 - m) ≤ m - c1
  · rw [Int.max_eq_right a]; omega
  · rw [Int.max_eq_left (by omega)]
    by_cases b : 0 ≤ c0 - m
    · rw [Int.max_eq_right b]; omega
    · rw [Int.max_eq_left (by omega)]; omega
theorem awayH_spec (c0 c1 m : Int) : c1 - m ≤ awayH c0 c1 m ∧ m - c0 ≤ awayH c0 c1 m ∧ (awayH c0 c1 m = c1 - m ∨ awayH c0 c1 m = m - c0) := by
  unfold awayH
  refine ⟨Int.le_max_left _ _, Int.le_max_right _ _, ?_⟩
  by_cases a : c1 - m ≤ m - c0
  · rw [Int.max_eq_right a]; omega
  · rw [Int.max_eq_left (by omega)]; omega
theorem away_any (c0 c1 m : Int) (h0 : -1000000000 ≤ c0 ∧ c0 ≤ 1000000000) (h1 : -1000000000 ≤ c1 ∧ c1 ≤ 1000000000) (hm : -1000000000 ≤ m ∧ m ≤ 1000000000) (w : World) :
    Calls Try.prog 152 #[.agg #[.int .i64 c0, .int .i64 c1], .int .i64 m] w fun e w' => e = .returned (.agg #[.int .i64 (awayL c0 c1 m), .int .i64 (awayH c0 c1 m)]) ∧ Below w.heap.size w w' := by
  have e1 : IntKind.i64.wrap (c0 - m) = c0 - m := IntWalk.i64_in _ (by omega)
  have e2 : IntKind.i64.wrap (m - c1) = m - c1 := IntWalk.i64_in _ (by omega)
  have e3 : IntKind.i64.wrap (c1 - m) = c1 - m := IntWalk.i64_in _ (by omega)
  have e4 : IntKind.i64.wrap (m - c0) = m - c0 := IntWalk.i64_in _ (by omega)
  clear h0 h1 hm
  have HL := Lib.hid (awayL_spec c0 c1 m)
  have HH : Hid (awayH c0 c1 m = max (c1 - m) (m - c0)) := rfl
  generalize awayL c0 c1 m = x at HL ⊢
  generalize awayH c0 c1 m = y at HH ⊢
  go_enter Try.func152, Try.ntmps152
  go_wp2
  all_goals
    have hx := HL.out
    have hy := HH.out
    clear HL HH
    subst hy
    exact bodyPost_ret (v := .agg #[.int .i64 x, .int .i64 (max (c1 - m) (m - c0))]) (by simp [results, Try.results152, go_sem]; (try omega)) rfl ⟨rfl, by (go_split_ands; first | assumption | (repeat (first | exact Below.refl _ _ | assumption | refine Below.drew ?_ | refine Below.drewN ?_ _ | refine blT ?_ | refine blU ?_)))⟩

theorem anyV_hit {f : Nat → Bool} {k : Nat} (h : f k = true) : ∀ n, k < n → anyV f n = true
  | 0, hk => by omega
  | n + 1, hk => by
    rw [anyV]
    by_cases e : k = n
    · subst e; rw [h]; simp
    · rw [anyV_hit h n (by omega)]; simp

def nearB (p : Pl) (b : Bool) (C0 C1 : Nat → Int) (m : Int) (j : Nat) : Bool := decide (endV b (awayL (C0 j) (C1 j) m) (awayH (C0 j) (C1 j) m) ≤ p.ne)
set_option maxHeartbeats 2000000 in
theorem near_any (p : Pl) (b : Bool) (vS vC vK : Value) (nc : Nat) (C0 C1 : Nat → Int) (m : Int) (w : World) (hK : PairsAt w vK nc C0 C1) (h0 : ∀ j, j < nc → -1000000000 ≤ C0 j ∧ C0 j ≤ 1000000000 ∧ -1000000000 ≤ C1 j ∧ C1 j ≤ 1000000000) (hm : -1000000000 ≤ m ∧ m ≤ 1000000000) :
    Calls Try.prog 144 #[.agg #[.bool b, .int .i64 p.s0, .int .i64 p.s1, vS, vC, .int .i64 p.ne, .int .i64 p.ed, .int .i64 p.gr, .int .i64 p.lo, .int .i64 p.hi, .int .i64 p.sh, .int .i64 p.wi], vK, .int .i64 m] w fun e w' => e = .returned (.bool (nearV p b nc C0 C1 m)) ∧ Below w.heap.size w w' := by
  obtain ⟨a, cap, rfl, hcap, hl, h3⟩ := hK
  have HN : Hid (∀ k, nearB p b C0 C1 m k = true → k < nc → nearV p b nc C0 C1 m = true) := fun k h hk => anyV_hit (f := nearB p b C0 C1 m) h nc hk
  have HS : Hid (nearV p b nc C0 C1 m = anyV (nearB p b C0 C1 m) nc) := rfl
  have H3 := Lib.hid h3
  have HA : Hid (∀ j, j < nc → ∀ W, Calls Try.prog 152 #[.agg #[.int .i64 (C0 j), .int .i64 (C1 j)], .int .i64 m] W fun e w' => e = .returned (.agg #[.int .i64 (awayL (C0 j) (C1 j) m), .int .i64 (awayH (C0 j) (C1 j) m)]) ∧ Below W.heap.size W w') := fun j hj W => away_any _ _ _ ⟨(h0 j hj).1, (h0 j hj).2.1⟩ (h0 j hj).2.2 hm W
  have HB : Hid (∀ j, nearB p b C0 C1 m j = decide (endV b (awayL (C0 j) (C1 j) m) (awayH (C0 j) (C1 j) m) ≤ p.ne)) := fun j => rfl
  generalize nearV p b nc C0 C1 m = r at HN HS ⊢
  clear h3 h0 hm
  have jP := Blk.new w #[.bool b, .int .i64 p.s0, .int .i64 p.s1, vS, vC, .int .i64 p.ne, .int .i64 p.ed, .int .i64 p.gr, .int .i64 p.lo, .int .i64 p.hi, .int .i64 p.sh, .int .i64 p.wi] 127
  have jB : Below w.heap.size w (w.alloc (.cells #[.bool b, .int .i64 p.s0, .int .i64 p.s1, vS, vC, .int .i64 p.ne, .int .i64 p.ed, .int .i64 p.gr, .int .i64 p.lo, .int .i64 p.hi, .int .i64 p.sh, .int .i64 p.wi] 127)) := by (repeat (first | exact Below.refl _ _ | assumption | refine Below.drew ?_ | refine Below.drewN ?_ _ | refine blT ?_ | refine blU ?_))
  go_enter Try.func144, Try.ntmps144
  go_wp2_with fail
  go_loopw [11] (fun i wr => ∃ k : Nat, k ≤ nc ∧ i = .int .i64 k ∧ anyV (nearB p b C0 C1 m) k = false ∧ Blk wr w.heap.size #[.bool b, .int .i64 p.s0, .int .i64 p.s1, vS, vC, .int .i64 p.ne, .int .i64 p.ed, .int .i64 p.gr, .int .i64 p.lo, .int .i64 p.hi, .int .i64 p.sh, .int .i64 p.wi] 127 ∧ Below w.heap.size w wr) (fun i _ => nc - (intOf i).toNat)
  case atStart => exact ⟨0, Nat.zero_le _, rfl, rfl, jP, jB⟩
  case round =>
    clear jP jB
    obtain ⟨k, hk, rfl, hd, jP, hB⟩ := hrel
    have HD := Lib.hid hd
    clear hd
    by_cases hlt2 : k < nc
    · obtain ⟨bk, o, ha, hc⟩ := H3.out (by omega)
      subst ha
      obtain ⟨a0, a1⟩ := hc k hlt2
      clear hc
      replace a0 := cell_later hB a0
      replace a1 := cell_later hB a1
      have hbs := World.block_lt_of_cell? _ _ a0
      have hws : w.heap.size ≤ wr.heap.size := hB.size
      have zP := jP.lt
      have HAk := Lib.hid (HA.out k hlt2)
      have HBk := Lib.hid (HB.out k)
      have HNk := Lib.hid (fun h => HN.out k h hlt2)
      generalize awayL (C0 k) (C1 k) m = x at HAk HBk
      generalize awayH (C0 k) (C1 k) m = y at HAk HBk
      generalize hq : nearB p b C0 C1 m k = q at HBk HNk
      have HQ := Lib.hid hq
      clear hq HA HB
      go_upto_region 4 with fail
      have kP := jP.alloc (.cells #[.int .i64 (C0 k), .int .i64 (C1 k)] 23)
      have kX := Blk.new wr #[.int .i64 (C0 k), .int .i64 (C1 k)] 23
      have kB : Below w.heap.size w (wr.alloc (.cells #[.int .i64 (C0 k), .int .i64 (C1 k)] 23)) := bwA hB (Nat.le_refl _) _
      clear jP hB a0 a1
      refine wp_region_held_drew (S := (fun w' => Blk w' w.heap.size #[.bool b, .int .i64 p.s0, .int .i64 p.s1, vS, vC, .int .i64 p.ne, .int .i64 p.ed, .int .i64 p.gr, .int .i64 p.lo, .int .i64 p.hi, .int .i64 p.sh, .int .i64 p.wi] 127 ∧ Blk w' wr.heap.size #[.int .i64 (C0 k), .int .i64 (C1 k)] 23 ∧ Below w.heap.size w w')) (by kernel_rfl) ?_ (fun hH => ?_)
      · (try dsimp only); (exact ⟨kP.drew, kX.drew, kB.drew⟩)
      refine tkY 0 (some 15) ?_ ?_ ?_
      rotate_left
      · intro w hS0; (try dsimp only at hS0); obtain ⟨kP, kX, _⟩ := hS0; obtain ⟨c0, c1, c2, c3, c4, c5, c6, c7, c8, c9, c10, c11⟩ := kP.c12; obtain ⟨x0, x1⟩ := kX.c2; have y1 := kP.lt; have y2 := kX.lt;go_simp; (try with_reducible rfl)
      (try simp only [cq])
      refine tkY 1 (some 16) ?_ ?_ ?_
      rotate_left
      · intro w hS0; (try dsimp only at hS0); obtain ⟨kP, kX, _⟩ := hS0; obtain ⟨c0, c1, c2, c3, c4, c5, c6, c7, c8, c9, c10, c11⟩ := kP.c12; obtain ⟨x0, x1⟩ := kX.c2; have y1 := kP.lt; have y2 := kX.lt;go_simp; (try with_reducible rfl)
      (try simp only [cq])
      refine tkY 2 (some 17) ?_ ?_ ?_
      rotate_left
      · intro w hS0; (try dsimp only at hS0); obtain ⟨kP, kX, _⟩ := hS0; obtain ⟨c0, c1, c2, c3, c4, c5, c6, c7, c8, c9, c10, c11⟩ := kP.c12; obtain ⟨x0, x1⟩ := kX.c2; have y1 := kP.lt; have y2 := kX.lt;go_simp; (try with_reducible rfl)
      (try simp only [cq])
      refine tkY 3 (some 18) ?_ ?_ ?_
      rotate_left
      · intro w _; go_simp; (try with_reducible rfl)
      (try simp only [cq])
      refine tkY 6 (some 21) ?_ ?_ ?_
      rotate_left
      · intro w hS0; (try dsimp only at hS0); obtain ⟨kP, kX, _⟩ := hS0; obtain ⟨c0, c1, c2, c3, c4, c5, c6, c7, c8, c9, c10, c11⟩ := kP.c12; obtain ⟨x0, x1⟩ := kX.c2; have y1 := kP.lt; have y2 := kX.lt;go_simp; (try with_reducible rfl)
      (try simp only [cq])
      refine tkY 7 (some 22) ?_ ?_ ?_
      rotate_left
      · intro w hS0; (try dsimp only at hS0); obtain ⟨kP, kX, _⟩ := hS0; obtain ⟨c0, c1, c2, c3, c4, c5, c6, c7, c8, c9, c10, c11⟩ := kP.c12; obtain ⟨x0, x1⟩ := kX.c2; have y1 := kP.lt; have y2 := kX.lt;go_simp; (try with_reducible rfl)
      (try simp only [cq])
      refine tkY 8 (some 23) ?_ ?_ ?_
      rotate_left
      · intro w hS0; (try dsimp only at hS0); obtain ⟨kP, kX, _⟩ := hS0; obtain ⟨c0, c1, c2, c3, c4, c5, c6, c7, c8, c9, c10, c11⟩ := kP.c12; obtain ⟨x0, x1⟩ := kX.c2; have y1 := kP.lt; have y2 := kX.lt;go_simp; (try with_reducible rfl)
      (try simp only [cq])
      refine wpAnyH_ready (rs := [4]) (by kernel_rfl) (by simp) ?_
      refine arc1 (some 19) fun K hK => ?_
      go_simp
      (refine (HAk.out _).mono ?_; rintro e w' ⟨rfl, hb⟩)
      refine hK.out _ _ ?_ ?_
      · (exact ⟨hH.1.call hb, hH.2.1.call hb, bwS hH.2.2 (Nat.le_refl _) hb⟩)
      (try clear hH); (try clear hb)
      intro hH
      clear hK K
      (try simp only [cq])
      refine wpAnyH_ready (rs := [5]) (by kernel_rfl) (by simp) ?_
      refine arc1 (some 20) fun K hK => ?_
      go_simp
      (refine (more_any _ _ _ _).mono ?_; rintro e w' ⟨rfl, hb⟩)
      refine hK.out _ _ ?_ ?_
      · (exact ⟨hH.1.call hb, hH.2.1.call hb, bwS hH.2.2 (Nat.le_refl _) hb⟩)
      (try clear hH); (try clear hb)
      intro hH
      clear hK K
      (try simp only [cq])
      refine tkY 9 (some 24) ?_ ?_ ?_
      rotate_left
      · intro w _; go_simp; (try with_reducible rfl)
      (try simp only [cq])
      refine wpAnyH_done (by kernel_rfl) ?_ _
      (try dsimp only [Act.put])
      (try simp only [cq])
      have hb2 := HBk.out
      obtain ⟨jP, _, hB⟩ := hH
      clear kP kX kB HBk
      generalize endV b x y = ev at hb2 ⊢
      cases q with
      | true =>
        have hr := HNk.out rfl
        subst hr
        clear HNk
        have hcond : ev ≤ p.ne := by simpa using hb2.symm
        clear hb2
        go_wp2
        go_ret
        exact ⟨rfl, hB⟩
      | false =>
        have hcond : ¬ ev ≤ p.ne := by simpa using hb2.symm
        clear hb2 HNk
        go_wp2
        go_roundw
        case rel => exact ⟨k + 1, by omega, by go_num, by rw [anyV, HD.out, HQ.out]; rfl, jP, hB⟩
        case measure => simp [intOf]; omega
    · obtain rfl : k = nc := by omega
      have hr : r = false := by rw [HS.out]; exact HD.out
      subst hr
      go_wp2
      go_ret
      exact ⟨rfl, hB⟩
end Go.Proofs.Ytkkljbbgaogifaa
