/-
  checkBurn and Lasts (package fuel).
-/
import Derived.Test.YtegdflikeoiaaaaTail
import Derived.Test.YtegdflikeoiaaaaDay
import Derived.Test.YtegdflikeoiaaaaEl
set_option linter.unusedVariables false
set_option linter.unusedSimpArgs false
namespace Go.Proofs.Ytegdflikeoiaaaa
open Go.RowKit

def eBur (n : Nat) (U : Nat → Bu) : Int := orE (eSm n) (eL 12 n (eBu U))
def eCol (n : Nat) (C D : Nat → Int) : Int := eL 400 n (fun i => eTen (C i) (D i))
theorem first_bur (b cap n : Nat) (U : Nat → Bu) (w : World) (h0 : w.cell? ⟨b, 0, none⟩ = some (.int .i64 (eSm n))) (h1 : w.cell? ⟨b, 1, none⟩ = some (.int .i64 (eL 12 n (eBu U)))) :
    Calls Try.prog 77 #[.slice (some ⟨b, 0, none⟩) 2 cap] w fun e w' => e = .returned (.int .i64 (eBur n U)) ∧ w = w' := first_two b cap _ _ w h0 h1
set_option maxRecDepth 100000 in
set_option maxHeartbeats 2000000 in
theorem bchk_any (n : Nat) (U : Nat → Bu) (v : Value) (w : World) (hU : BusAt w v n U) :
    Calls Try.prog 98 #[v] w fun e w' => e = .returned (.int .i64 (eBur n U)) ∧ Below w.heap.size w w' := by
  have HU := Lib.hid (fun (W : World) (h : Below w.heap.size w W) => hU.later h)
  obtain ⟨a, c, rfl, h1, h2, h3⟩ := hU
  have H3 := Lib.hid h3
  clear h3
  have HF := Lib.hid (fun (W : World) (h : Below w.heap.size w W) (hv : W.cell? ⟨w.heap.size, 0, none⟩ = some (.slice a n c)) => lburn_any (.pointer (some ⟨w.heap.size, 0, none⟩)) (eBu U) (.slice a n c) n U W (HU.out W h) (fun i hi W2 hW2 => by
    obtain ⟨b, o, ha, hc⟩ := H3.out (by omega)
    subst ha
    have hc2 : AtC w b o n 3 (buC U) := hc
    exact burn_one U w.heap.size b o n c i hi (by omega) W2 (cell_later hW2 hv) ((hc2.later h).later hW2)))
  clear HU H3
  have jX := Blk.new w #[.slice a n c] 73
  have jB : Below w.heap.size w (w.alloc (.cells #[.slice a n c] 73)) := by (repeat (first | exact Below.refl _ _ | assumption | refine Below.drew ?_ | refine Below.drewN ?_ _ | refine blT ?_ | refine blU ?_))
  go_enter Try.func98, Try.ntmps98
  go_wp2_with fail
  refine wp_region_held_drew (S := (fun w' => Blk w' w.heap.size #[.slice a n c] 73 ∧ Below w.heap.size w w')) (by kernel_rfl) ?_ (fun hH => ?_)
  · (try dsimp only); (exact ⟨jX.drew, jB.drew⟩)
  refine tkY 0 (some 3) ?_ ?_ ?_
  rotate_left
  · intro w hS0; (try dsimp only at hS0); obtain ⟨k1, k2⟩ := hS0; have c0 := k1.cell 0 rfl;go_simp; (try with_reducible rfl)
  (try simp only [cq])
  refine tkY 1 (some 4) ?_ ?_ ?_
  rotate_left
  · intro w hS0; (try dsimp only at hS0); obtain ⟨k1, k2⟩ := hS0; have c0 := k1.cell 0 rfl;go_simp; (try with_reducible rfl)
  (try simp only [cq])
  refine tkY 3 (some 6) ?_ ?_ ?_
  rotate_left
  · intro w hS0; (try dsimp only at hS0); obtain ⟨k1, k2⟩ := hS0; have c0 := k1.cell 0 rfl;go_simp; (try with_reducible rfl)
  (try simp only [cq])
  refine tkY 4 (some 7) ?_ ?_ ?_
  rotate_left
  · intro w hS0; (try dsimp only at hS0); obtain ⟨k1, k2⟩ := hS0; have c0 := k1.cell 0 rfl;go_simp; (try with_reducible rfl)
  (try simp only [cq])
  refine wpAnyH_ready (rs := [2]) (by kernel_rfl) (by simp) ?_
  refine arc1 (some 5) fun K hK => ?_
  go_simp
  (refine (some_any _ _).mono ?_; rintro e w' ⟨rfl, rfl⟩)
  refine hK.out _ _ ?_ (fun hH => ?_)
  · (first | exact hH | exact ⟨hH.1.call hb, bwS hH.2 (Nat.le_refl _) hb⟩)
  clear hK K
  (try simp only [cq])
  refine wpAnyH_ready (rs := [5]) (by kernel_rfl) (by simp) ?_
  refine arc1 (some 8) fun K hK => ?_
  go_simp
  (refine (HF.out _ hH.2 (hH.1.cell 0 rfl)).mono ?_; rintro e w' ⟨rfl, hb⟩)
  refine hK.out _ _ ?_ (fun hH => ?_)
  · (first | exact hH | exact ⟨hH.1.call hb, bwS hH.2 (Nat.le_refl _) hb⟩)
  clear hK K
  (try simp only [cq])
  refine wpAnyH_ready (rs := [6]) (by kernel_rfl) (by simp) ?_
  refine arc1 (some 9) fun K hK => ?_
  go_simp
  refine hK.out _ _ ?_ (fun hH => ?_)
  · exact ⟨hH.1.alloc _, bwA hH.2 (Nat.le_refl _) _⟩
  clear hK K
  (try simp only [cq])
  refine wpAnyH_ready (rs := [7]) (by kernel_rfl) (by simp) ?_
  refine arc1 (some 10) fun K hK => ?_
  go_simp
  (refine (first_bur _ _ n U _ (by first | (simp; done) | (go_simp; done) | (go_keep; done)) (by first | (simp; done) | (go_simp; done) | (go_keep; done))).mono ?_; rintro e w' ⟨rfl, rfl⟩)
  refine hK.out _ _ ?_ (fun hH => ?_)
  · (first | exact hH | exact ⟨hH.1.call hb, bwS hH.2 (Nat.le_refl _) hb⟩)
  clear hK K
  (try simp only [cq])
  refine tkY 8 (some 2) ?_ ?_ ?_
  rotate_left
  · intro w _; go_simp; (try with_reducible rfl)
  (try simp only [cq])
  refine wpAnyH_done (by kernel_rfl) ?_ _
  (try dsimp only [Act.put])
  (try simp only [cq])
  have hBB : Below w.heap.size w _ := hH.2
  clear hH
  go_wp2
  go_ret
  exact ⟨rfl, hBB⟩

theorem orE_zero {a b : Int} (h : orE a b = 0) : a = 0 ∧ b = 0 := by
  unfold orE at h
  by_cases e : a = 0
  · rw [if_pos e] at h; exact ⟨e, h⟩
  · rw [if_neg e] at h; exact absurd h e
theorem firstNZ_zero (x : Nat → Int) : ∀ m i, firstNZ x i m = 0 → ∀ j, i ≤ j → j < i + m → x j = 0
  | 0, i, _, j, h1, h2 => by omega
  | m + 1, i, h, j, h1, h2 => by
    obtain ⟨a, b⟩ := orE_zero h
    by_cases e : j = i
    · rw [e]; exact a
    · exact firstNZ_zero x m (i + 1) b j (by omega) (by omega)
theorem eL_zero {m : Int} {n : Nat} {X : Nat → Int} (h : eL m n X = 0) : n ≤ m ∧ ∀ i, i < n → X i = 0 := by
  unfold eL at h
  by_cases e : m < n
  · rw [if_pos e] at h; omega
  · rw [if_neg e] at h
    exact ⟨by omega, fun i hi => firstNZ_zero X n 0 h i (by omega) (by omega)⟩
theorem eN_zero {n lo hi : Int} (h : eN n lo hi = 0) : lo ≤ n ∧ n ≤ hi := by
  unfold eN at h
  by_cases e : n < lo ∨ hi < n
  · rw [if_pos e] at h; omega
  · omega
theorem eO_zero {b : Bool} (h : eO b = 0) : b = true := by
  cases b
  · exact absurd h (by decide)
  · rfl
theorem eS_zero {lo hi a b : Int} (h : eS lo hi a b = 0) : a ≤ lo ∧ lo ≤ hi ∧ hi ≤ b := by
  obtain ⟨h1, h2⟩ := orE_zero h
  obtain ⟨h3, h4⟩ := orE_zero h1
  have h5 := eN_zero h3
  have h6 := eN_zero h4
  have h7 := eO_zero h2
  have h8 : lo ≤ hi := of_decide_eq_true h7
  omega
theorem eBur_zero {n : Nat} {U : Nat → Bu} (h : eBur n U = 0) : 0 < n ∧ n ≤ 12 ∧ BuOk n U ∧ (∀ i, i + 1 < n → (U i).co < (U (i + 1)).co) ∧ ∀ i, i < n → (U i).lo ≤ (U i).hi := by
  obtain ⟨h1, h2⟩ := orE_zero h
  obtain ⟨h3, h4⟩ := eL_zero h2
  have h5 : 0 < n := by
    unfold eSm at h1
    by_cases e : (n : Int) < 1
    · rw [if_pos e] at h1; omega
    · omega
  refine ⟨h5, by omega, fun i hi => ?_, fun i hi => ?_, fun i hi => ?_⟩
  · obtain ⟨g1, g2⟩ := orE_zero (h4 i hi)
    obtain ⟨g3, g4⟩ := orE_zero g2
    have := eN_zero g1
    have := eS_zero g4
    omega
  · obtain ⟨g1, g2⟩ := orE_zero (h4 (i + 1) hi)
    obtain ⟨g3, g4⟩ := orE_zero g2
    have := eO_zero g3
    simpa using this
  · obtain ⟨g1, g2⟩ := orE_zero (h4 i hi)
    obtain ⟨g3, g4⟩ := orE_zero g2
    have := eS_zero g4
    omega
theorem bnA_bd {n : Nat} {U : Nat → Bu} (hU : BuOk n U) (c0 c1 : Int) : ∀ k, k ≤ n → 0 ≤ bnA U n c0 c1 k ∧ bnA U n c0 c1 k ≤ 1000000000
  | 0, _ => by show (0 : Int) ≤ 1000000000 ∧ _; exact ⟨by omega, Int.le_refl _⟩
  | k + 1, hk => by
    have h := bnA_bd hU c0 c1 k (by omega)
    have q := hU k (by omega)
    unfold bnA
    by_cases e : bnOn U n c0 c1 k = true
    · rw [if_pos e]; omega
    · rw [if_neg e]; exact h
theorem bnB_bd {n : Nat} {U : Nat → Bu} (hU : BuOk n U) (c0 c1 : Int) : ∀ k, k ≤ n → 0 ≤ bnB U n c0 c1 k ∧ bnB U n c0 c1 k ≤ 1000000000
  | 0, _ => by show (0 : Int) ≤ 0 ∧ (0 : Int) ≤ _; exact ⟨by omega, by omega⟩
  | k + 1, hk => by
    have h := bnB_bd hU c0 c1 k (by omega)
    have q := hU k (by omega)
    unfold bnB
    by_cases e : bnOn U n c0 c1 k = true
    · rw [if_pos e]; omega
    · rw [if_neg e]; exact h

def eLas (l0 l1 : Int) (n : Nat) (U : Nat → Bu) (m : Nat) (C D : Nat → Int) : Int := orE (eLit l0 l1) (orE (eBur n U) (eCol m C D))
theorem first_las (b cap : Nat) (l0 l1 : Int) (n : Nat) (U : Nat → Bu) (m : Nat) (C D : Nat → Int) (w : World) (h0 : w.cell? ⟨b, 0, none⟩ = some (.int .i64 (eLit l0 l1))) (h1 : w.cell? ⟨b, 1, none⟩ = some (.int .i64 (eBur n U))) (h2 : w.cell? ⟨b, 2, none⟩ = some (.int .i64 (eCol m C D))) :
    Calls Try.prog 77 #[.slice (some ⟨b, 0, none⟩) 3 cap] w fun e w' => e = .returned (.int .i64 (eLas l0 l1 n U m C D)) ∧ w = w' := first_three b cap _ _ _ w h0 h1 h2
def LasOut (l0 l1 : Int) (n : Nat) (U : Nat → Bu) (m : Nat) (C D : Nat → Int) (v : Value) : Prop :=
  (¬ eLas l0 l1 n U m C D = 0 ∧ v = .tuple #[.agg #[.int .i64 0, .int .i64 0], .int .i64 (eLas l0 l1 n U m C D)]) ∨
  (eLas l0 l1 n U m C D = 0 ∧ ∃ d0 d1 : Nat, DayN m l0 (fun i => bnB U n (C i) (D i) n) d0 ∧ DayN m l1 (fun i => bnA U n (C i) (D i) n) d1 ∧ v = .tuple #[.agg #[.int .i64 d0, .int .i64 d1], .int .i64 0])
set_option maxRecDepth 100000 in
set_option maxHeartbeats 4000000 in
theorem lasts_any (l0 l1 : Int) (n : Nat) (U : Nat → Bu) (vU : Value) (m : Nat) (C D : Nat → Int) (vC : Value) (w : World) (hU : BusAt w vU n U) (hC : SpansAt w vC m C D) :
    Calls Try.prog 47 #[.agg #[.int .i64 l0, .int .i64 l1], vU, vC] w fun e w' => ∃ v, e = .returned v ∧ LasOut l0 l1 n U m C D v ∧ Below w.heap.size w w' := by
  have HB := Lib.hid (fun (W : World) (h : Below w.heap.size w W) => bchk_any n U vU W (hU.later h))
  have HC := Lib.hid (fun (W : World) (h : Below w.heap.size w W) => (show Calls Try.prog 99 #[vC, .int .i64 400, .func (.func 100) #[] #[]] W fun e w' => e = .returned (.int .i64 (eCol m C D)) ∧ Below W.heap.size W w' from lcold_any (fun i => eTen (C i) (D i)) vC m C D W (hC.later h) (fun i hi W2 hW2 => cold_one i (C i) (D i) W2)))
  have HS := Lib.hid (fun (W : World) (h : Below w.heap.size w W) => hC.later h)
  obtain ⟨a, c, rfl, p1, p2, p3⟩ := hU
  obtain ⟨a2, c2, rfl, q1, q2, q3⟩ := hC
  have HU := Lib.hid p3
  clear p3 q3
  have jT := ((Blk.new w #[.int .i64 l0, .int .i64 l1] 26).alloc (.cells #[.slice a n c] 73)).alloc (.cells #[.int .i64 0, .int .i64 0] 26)
  have jV := (Blk.new1 w (.cells #[.int .i64 l0, .int .i64 l1] 26) #[.slice a n c] 73).alloc (.cells #[.int .i64 0, .int .i64 0] 26)
  have jR := Blk.new2 w (.cells #[.int .i64 l0, .int .i64 l1] 26) (.cells #[.slice a n c] 73) #[.int .i64 0, .int .i64 0] 26
  have jB : Below w.heap.size w (((w.alloc (.cells #[.int .i64 l0, .int .i64 l1] 26)).alloc (.cells #[.slice a n c] 73)).alloc (.cells #[.int .i64 0, .int .i64 0] 26)) := by (repeat (first | exact Below.refl _ _ | assumption | refine Below.drew ?_ | refine Below.drewN ?_ _ | refine blT ?_ | refine blU ?_))
  go_enter Try.func47, Try.ntmps47
  go_wp2_with fail
  refine wp_region_held_drew (S := (fun wx => Blk wx w.heap.size #[.int .i64 l0, .int .i64 l1] 26 ∧ Blk wx (w.heap.size + 1) #[.slice a n c] 73 ∧ Two wx (w.heap.size + 1 + 1) 26 ∧ Below w.heap.size w wx)) (by kernel_rfl) ?_ (fun hH => ?_)
  · (try dsimp only); (exact ⟨jT.drew, jV.drew, ⟨_, _, jR.drew⟩, jB.drew⟩)
  refine tkY 0 (some 9) ?_ ?_ ?_
  rotate_left
  · intro w hS0; (try dsimp only at hS0); obtain ⟨kT, kV, _, _⟩ := hS0; obtain ⟨c0, c1⟩ := kT.c2; have c2 := kV.cell 0 rfl; have y1 := kT.lt; have y2 := kV.lt;go_simp; (try with_reducible rfl)
  (try simp only [cq])
  refine tkY 2 (some 11) ?_ ?_ ?_
  rotate_left
  · intro w hS0; (try dsimp only at hS0); obtain ⟨kT, kV, _, _⟩ := hS0; obtain ⟨c0, c1⟩ := kT.c2; have c2 := kV.cell 0 rfl; have y1 := kT.lt; have y2 := kV.lt;go_simp; (try with_reducible rfl)
  (try simp only [cq])
  refine tkY 4 (some 13) ?_ ?_ ?_
  rotate_left
  · intro w _; go_simp; (try with_reducible rfl)
  (try simp only [cq])
  refine wpAnyH_ready (rs := [1]) (by kernel_rfl) (by simp) ?_
  refine arc1 (some 10) fun K hK => ?_
  go_simp
  (refine (litres_any _ _ _).mono ?_; rintro e w' ⟨rfl, hb⟩)
  refine hK.out _ _ ?_ (fun hH => ?_)
  · (first | exact hH | exact ⟨hH.1.call hb, hH.2.1.call hb, hH.2.2.1.call hb, bwS hH.2.2.2 (Nat.le_refl _) hb⟩)
  clear hK K
  (try simp only [cq])
  refine wpAnyH_ready (rs := [3]) (by kernel_rfl) (by simp) ?_
  refine arc1 (some 12) fun K hK => ?_
  go_simp
  (refine (HB.out _ hH.2.2.2).mono ?_; rintro e w' ⟨rfl, hb⟩)
  refine hK.out _ _ ?_ (fun hH => ?_)
  · (first | exact hH | exact ⟨hH.1.call hb, hH.2.1.call hb, hH.2.2.1.call hb, bwS hH.2.2.2 (Nat.le_refl _) hb⟩)
  clear hK K
  (try simp only [cq])
  refine wpAnyH_ready (rs := [5]) (by kernel_rfl) (by simp) ?_
  refine arc1 (some 14) fun K hK => ?_
  go_simp
  (refine (HC.out _ hH.2.2.2).mono ?_; rintro e w' ⟨rfl, hb⟩)
  refine hK.out _ _ ?_ (fun hH => ?_)
  · (first | exact hH | exact ⟨hH.1.call hb, hH.2.1.call hb, hH.2.2.1.call hb, bwS hH.2.2.2 (Nat.le_refl _) hb⟩)
  clear hK K
  (try simp only [cq])
  refine wpAnyH_ready (rs := [6]) (by kernel_rfl) (by simp) ?_
  refine arc1 (some 15) fun K hK => ?_
  go_simp
  refine hK.out _ _ ?_ (fun hH => ?_)
  · exact ⟨hH.1.alloc _, hH.2.1.alloc _, hH.2.2.1.alloc _, bwA hH.2.2.2 (Nat.le_refl _) _⟩
  clear hK K
  (try simp only [cq])
  refine wpAnyH_ready (rs := [7]) (by kernel_rfl) (by simp) ?_
  refine arc1 (some 16) fun K hK => ?_
  go_simp
  (refine (first_las _ _ l0 l1 n U m C D _ (by first | (simp; done) | (go_simp; done) | (go_keep; done)) (by first | (simp; done) | (go_simp; done) | (go_keep; done)) (by first | (simp; done) | (go_simp; done) | (go_keep; done))).mono ?_; rintro e w' ⟨rfl, rfl⟩)
  refine hK.out _ _ ?_ (fun hH => ?_)
  · (first | exact hH | exact ⟨hH.1.call hb, hH.2.1.call hb, hH.2.2.1.call hb, bwS hH.2.2.2 (Nat.le_refl _) hb⟩)
  clear hK K
  (try simp only [cq])
  refine tkY 8 (some 8) ?_ ?_ ?_
  rotate_left
  · intro w _; go_simp; (try with_reducible rfl)
  (try simp only [cq])
  refine wpAnyH_done (by kernel_rfl) ?_ _
  (try dsimp only [Act.put])
  (try simp only [cq])
  clear jT jV jR jB HB HC
  obtain ⟨jT, jV, ⟨x0, x1, jR⟩, jB⟩ := hH
  obtain ⟨U0, hU0⟩ : ∃ V, Blk.wld jT = V := ⟨_, rfl⟩
  simp only [Blk.wld] at hU0
  rw [hU0] at jT jV jR jB ⊢
  clear hU0
  by_cases hz : eLas l0 l1 n U m C D = 0
  · obtain ⟨g1, g2⟩ := orE_zero hz
    obtain ⟨g3, g4⟩ := orE_zero g2
    have g5 := eS_zero g1
    obtain ⟨u1, u2, u3, u4, u5⟩ := eBur_zero g3
    have HZ := Lib.hid hz
    rw [hz]
    obtain ⟨b, o, ha, hc⟩ := HU.out u1
    subst ha
    have hcU : AtC w b o n 3 (buC U) := hc
    have K0 := Lib.hid (fun (W : World) (h : Below w.heap.size w W) (hv : W.cell? ⟨w.heap.size + 1, 0, none⟩ = some (.slice (some ⟨b, o, none⟩) n c)) => days_hi m C D (fun i => bnB U n (C i) (D i) n) l0 (.pointer (some ⟨w.heap.size + 1, 0, none⟩)) _ (by omega) (fun i hi => bnB_bd u3 _ _ n (Nat.le_refl _)) W (HS.out W h) (fun i hi W2 hW2 => clo_hi n U (C i) (D i) (w.heap.size + 1) b o c (by omega) u3 W2 (cell_later hW2 hv) (fun _ => (hcU.later h).later hW2)))
    have K1 := Lib.hid (fun (W : World) (h : Below w.heap.size w W) (hv : W.cell? ⟨w.heap.size + 1, 0, none⟩ = some (.slice (some ⟨b, o, none⟩) n c)) => days_lo m C D (fun i => bnA U n (C i) (D i) n) l1 (.pointer (some ⟨w.heap.size + 1, 0, none⟩)) _ (by omega) (fun i hi => bnA_bd u3 _ _ n (Nat.le_refl _)) W (HS.out W h) (fun i hi W2 hW2 => clo_lo n U (C i) (D i) (w.heap.size + 1) b o c (by omega) u3 W2 (cell_later hW2 hv) (fun _ => (hcU.later h).later hW2)))
    clear hcU hc HU HS g1 g2 g3 g4 g5 u1 u2 u3 u4 u5 hz
    go_upto_region 4 with fail
    (
 refine wp_region_held_drew (S := (fun wx => Blk wx w.heap.size #[.int .i64 l0, .int .i64 l1] 26 ∧ Blk wx (w.heap.size + 1) #[.slice (some ⟨b, o, none⟩) n c] 73 ∧ Two wx (w.heap.size + 1 + 1) 26 ∧ Below w.heap.size w wx)) (by kernel_rfl) ?_ (fun hH => ?_)
 · (try dsimp only); (exact ⟨jT.drew, jV.drew, ⟨_, _, jR.drew⟩, jB.drew⟩)
 refine tkY 0 (some 21) ?_ ?_ ?_
 rotate_left
 · intro w hS0; (try dsimp only at hS0); obtain ⟨kT, kV, _, _⟩ := hS0; obtain ⟨c0, c1⟩ := kT.c2; have c2 := kV.cell 0 rfl; have y1 := kT.lt; have y2 := kV.lt;go_simp; (try with_reducible rfl)
 (try simp only [cq])
 refine tkY 1 (some 22) ?_ ?_ ?_
 rotate_left
 · intro w hS0; (try dsimp only at hS0); obtain ⟨kT, kV, _, _⟩ := hS0; obtain ⟨c0, c1⟩ := kT.c2; have c2 := kV.cell 0 rfl; have y1 := kT.lt; have y2 := kV.lt;go_simp; (try with_reducible rfl)
 (try simp only [cq])
 refine tkY 2 (some 23) ?_ ?_ ?_
 rotate_left
 · intro w _; go_simp; (try with_reducible rfl)
 (try simp only [cq])
 refine tkY 3 (some 24) ?_ ?_ ?_
 rotate_left
 · intro w hS0; (try dsimp only at hS0); obtain ⟨kT, kV, _, _⟩ := hS0; obtain ⟨c0, c1⟩ := kT.c2; have c2 := kV.cell 0 rfl; have y1 := kT.lt; have y2 := kV.lt;go_simp; (try with_reducible rfl)
 (try simp only [cq])
 refine tkY 5 (some 26) ?_ ?_ ?_
 rotate_left
 · intro w hS0; (try dsimp only at hS0); obtain ⟨kT, kV, _, _⟩ := hS0; obtain ⟨c0, c1⟩ := kT.c2; have c2 := kV.cell 0 rfl; have y1 := kT.lt; have y2 := kV.lt;go_simp; (try with_reducible rfl)
 (try simp only [cq])
 refine tkY 6 (some 27) ?_ ?_ ?_
 rotate_left
 · intro w hS0; (try dsimp only at hS0); obtain ⟨kT, kV, _, _⟩ := hS0; obtain ⟨c0, c1⟩ := kT.c2; have c2 := kV.cell 0 rfl; have y1 := kT.lt; have y2 := kV.lt;go_simp; (try with_reducible rfl)
 (try simp only [cq])
 refine tkY 7 (some 28) ?_ ?_ ?_
 rotate_left
 · intro w _; go_simp; (try with_reducible rfl)
 (try simp only [cq])
 refine tkY 8 (some 29) ?_ ?_ ?_
 rotate_left
 · intro w hS0; (try dsimp only at hS0); obtain ⟨kT, kV, _, _⟩ := hS0; obtain ⟨c0, c1⟩ := kT.c2; have c2 := kV.cell 0 rfl; have y1 := kT.lt; have y2 := kV.lt;go_simp; (try with_reducible rfl)
 (try simp only [cq])
 refine wpAnyH_ready (rs := [4]) (by kernel_rfl) (by simp) ?_
 refine arc1 (some 25) fun K hK => ?_
 go_simp
 (refine (K0.out _ hH.2.2.2 (hH.2.1.cell 0 rfl)).mono ?_; rintro e w' ⟨d0, rfl, hd0, hb⟩)
 refine hK.out _ _ ?_ ?_
 · (first | exact hH | exact ⟨hH.1.call hb, hH.2.1.call hb, hH.2.2.1.call hb, bwS hH.2.2.2 (Nat.le_refl _) hb⟩)
 (try clear hH); (try clear hb)
 intro hH
 clear hK K
 (try simp only [cq])
 refine wpAnyH_ready (rs := [9]) (by kernel_rfl) (by simp) ?_
 refine arc1 (some 30) fun K hK => ?_
 go_simp
 (refine (K1.out _ hH.2.2.2 (hH.2.1.cell 0 rfl)).mono ?_; rintro e w' ⟨d1, rfl, hd1, hb⟩)
 refine hK.out _ _ ?_ ?_
 · (first | exact hH | exact ⟨hH.1.call hb, hH.2.1.call hb, hH.2.2.1.call hb, bwS hH.2.2.2 (Nat.le_refl _) hb⟩)
 (try clear hH); (try clear hb)
 intro hH
 clear hK K
 (try simp only [cq])
 refine tkY 10 (some 31) ?_ ?_ ?_
 rotate_left
 · intro w _; go_simp; (try with_reducible rfl)
 (try simp only [cq])
 refine wpAnyH_ready (rs := [11]) (by kernel_rfl) (by simp) ?_
 refine arc1 none fun K hK => ?_
 obtain ⟨kT, kV, ⟨y0, y1, kR⟩, kB⟩ := hH
 obtain ⟨r0, r1⟩ := kR.c2
 have f0 := kR.free 0
 have f1 := kR.free 1
 have zR := kR.lt
 have KT := Lib.hid ((kT.other ⟨w.heap.size + 1 + 1, 0, none⟩ (.int .i64 d0) (by show _ ≠ w.heap.size + 1 + 1; omega)).other ⟨w.heap.size + 1 + 1, 1, none⟩ (.int .i64 d1) (by show _ ≠ w.heap.size + 1 + 1; omega))
 have KV := Lib.hid ((kV.other ⟨w.heap.size + 1 + 1, 0, none⟩ (.int .i64 d0) (by show _ ≠ w.heap.size + 1 + 1; omega)).other ⟨w.heap.size + 1 + 1, 1, none⟩ (.int .i64 d1) (by show _ ≠ w.heap.size + 1 + 1; omega))
 have KR := Lib.hid ((kR.set 0 (.int .i64 d0)).set 1 (.int .i64 d1))
 have KB := Lib.hid (below_set2 (c := w.heap.size + 1 + 1) (j := 0) (k := 1) kB (by omega) (.int .i64 d0) (.int .i64 d1))
 go_simp
 refine hK.out _ _ ?_ ?_
 · exact ⟨KT.out, KV.out, ⟨_, _, KR.out⟩, KB.out⟩
 (try clear hH); (try clear hb)
 intro hH
 clear hK K
 (try simp only [cq])
 refine tkY 12 (some 7) ?_ ?_ ?_
 rotate_left
 · intro w _; go_simp; (try with_reducible rfl)
 (try simp only [cq])
 refine wpAnyH_done (by kernel_rfl) ?_ _
 (try dsimp only [Act.put])
 (try simp only [cq])
 obtain ⟨z0, z1⟩ := KR.out.c2
 go_wp2
 exact bodyPost_ret (v := .tuple #[.agg #[.int .i64 d0, .int .i64 d1], .int .i64 0]) (by simp [results, Try.results47, go_sem, z0, z1]) rfl ⟨_, rfl, Or.inr ⟨HZ.out, d0, d1, hd0, hd1, rfl⟩, KB.out⟩ )
  · have hz2 : (eLas l0 l1 n U m C D != 0) = true := by simpa using hz
    have HZ := Lib.hid hz
    clear hz
    obtain ⟨E, hE⟩ : ∃ z, eLas l0 l1 n U m C D = z := ⟨_, rfl⟩
    rw [hE] at hz2 ⊢
    have HE := Lib.hid hE
    clear hE HS HU
    obtain ⟨r0, r1⟩ := jR.c2
    have f0 := jR.free 0
    have f1 := jR.free 1
    have zR := jR.lt
    have KR := Lib.hid ((jR.set 0 (.int .i64 0)).set 1 (.int .i64 0))
    have KB := Lib.hid (below_set2 (c := w.heap.size + 1 + 1) (j := 0) (k := 1) jB (by omega) (.int .i64 0) (.int .i64 0))
    clear jT jV jR jB
    go_wp2_with fail
    obtain ⟨z0, z1⟩ := KR.out.c2
    exact bodyPost_ret (v := .tuple #[.agg #[.int .i64 0, .int .i64 0], .int .i64 E]) (by simp [results, Try.results47, go_sem, z0, z1]) rfl ⟨_, rfl, Or.inl ⟨HZ.out, by rw [HE.out]⟩, KB.out⟩
end Go.Proofs.Ytegdflikeoiaaaa
