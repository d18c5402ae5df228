/-
  The checks of ice, cracks and loads (package bear), exact for any lists.
-/
import Derived.Test.YtkkljbbgaogifaaTail
import Derived.Test.YtkkljbbgaogifaaPlC
set_option linter.unusedVariables false
set_option linter.unusedSimpArgs false
namespace Go.Proofs.Ytkkljbbgaogifaa
open Go.RowKit

def eSps (hi : Int) (n : Nat) (m : Int) (A B : Nat → Int) : Int := if m < n then 8 else firstNZ (fun i => eS (A i) (B i) 0 hi) 0 n
def eLd (pm : Int) (x : Ld) : Int := orE (eI x.me pm) (orE (eS x.w0 x.w1 0 200000) (eN x.st 0 10000))
def eLds (pm : Int) (n : Nat) (L : Nat → Ld) : Int := if 30 < n then 8 else firstNZ (fun i => eLd pm (L i)) 0 n

theorem road1_one (i : Int) (a c : Int) (w : World) :
    Calls Try.prog 120 #[.int .i64 i, .agg #[.int .i64 a, .int .i64 c]] w fun e w' => e = .returned (.int .i64 (eS a c 0 5000)) ∧ Below w.heap.size w w' := by
  go_enter Try.func120, Try.ntmps120
  go_wp2_with fail
  refine (span_any _ _ _ _ _).mono ?_
  rintro e w' ⟨rfl, hb⟩
  have hBB : Below w.heap.size w w' := bwS (by (repeat (first | exact Below.refl _ _ | assumption | refine Below.drew ?_ | refine Below.drewN ?_ _ | refine blT ?_ | refine blU ?_))) (by first | exact Nat.le_refl _ | (simp; done) | (simp; omega)) hb
  clear hb
  go_wp2
  go_ret
  exact ⟨rfl, hBB⟩

theorem road2_one (i : Int) (a c : Int) (w : World) :
    Calls Try.prog 121 #[.int .i64 i, .agg #[.int .i64 a, .int .i64 c]] w fun e w' => e = .returned (.int .i64 (eS a c 0 100000)) ∧ Below w.heap.size w w' := by
  go_enter Try.func121, Try.ntmps121
  go_wp2_with fail
  refine (span_any _ _ _ _ _).mono ?_
  rintro e w' ⟨rfl, hb⟩
  have hBB : Below w.heap.size w w' := bwS (by (repeat (first | exact Below.refl _ _ | assumption | refine Below.drew ?_ | refine Below.drewN ?_ _ | refine blT ?_ | refine blU ?_))) (by first | exact Nat.le_refl _ | (simp; done) | (simp; omega)) hb
  clear hb
  go_wp2
  go_ret
  exact ⟨rfl, hBB⟩

theorem weight_any (a c : Int) (w : World) :
    Calls Try.prog 92 #[.agg #[.int .i64 a, .int .i64 c]] w fun e w' => e = .returned (.int .i64 (eS a c 0 200000)) ∧ Below w.heap.size w w' := by
  go_enter Try.func92, Try.ntmps92
  go_wp2_with fail
  refine (span_any _ _ _ _ _).mono ?_
  rintro e w' ⟨rfl, hb⟩
  have hBB : Below w.heap.size w w' := bwS (by (repeat (first | exact Below.refl _ _ | assumption | refine Below.drew ?_ | refine Below.drewN ?_ _ | refine blT ?_ | refine blU ?_))) (by first | exact Nat.le_refl _ | (simp; done) | (simp; omega)) hb
  clear hb
  go_wp2
  go_ret
  exact ⟨rfl, hBB⟩
theorem stand_any (n : Int) (w : World) :
    Calls Try.prog 76 #[.int .i64 n] w fun e w' => e = .returned (.int .i64 (eN n 0 10000)) ∧ w = w' := by
  go_enter Try.func76, Try.ntmps76
  go_wp2_with (go_at_call 78; refine (number_any _ _ _ _).mono ?_; rintro e w' ⟨rfl, rfl⟩)
  go_ret
  exact ⟨rfl, rfl⟩
theorem first_ld (b cap : Nat) (pm : Int) (x : Ld) (w : World) (h0 : w.cell? ⟨b, 0, none⟩ = some (.int .i64 (eI x.me pm))) (h1 : w.cell? ⟨b, 1, none⟩ = some (.int .i64 (eS x.w0 x.w1 0 200000))) (h2 : w.cell? ⟨b, 2, none⟩ = some (.int .i64 (eN x.st 0 10000))) :
    Calls Try.prog 74 #[.slice (some ⟨b, 0, none⟩) 3 cap] w fun e w' => e = .returned (.int .i64 (eLd pm x)) ∧ w = w' := first_three b cap _ _ _ w h0 h1 h2
set_option maxHeartbeats 2000000 in
theorem load_one (i : Int) (bt places : Nat) (pm : Int) (hp : IntKind.i64.wrap (100 * (places : Int)) = pm) (x : Ld) (w : World) (hv : w.cell? ⟨bt, 0, none⟩ = some (.int .i64 places)) :
    Calls Try.prog 123 #[.int .i64 i, .agg #[.int .i64 x.me, .int .i64 x.w0, .int .i64 x.w1, .int .i64 x.st], .pointer (some ⟨bt, 0, none⟩)] w fun e w' => e = .returned (.int .i64 (eLd pm x)) ∧ Below w.heap.size w w' := by
  have zt := World.block_lt_of_cell? _ _ hv
  go_enter Try.func123, Try.ntmps123
  go_wp2_with fail
  refine wp_region_held_drew (S := (fun w' => w'.cell? ⟨w.heap.size, 0, none⟩ = some (.int .i64 x.me) ∧ w'.cell? ⟨w.heap.size, 1, none⟩ = some (.int .i64 x.w0) ∧ w'.cell? ⟨w.heap.size, 2, none⟩ = some (.int .i64 x.w1) ∧ w'.cell? ⟨w.heap.size, 3, none⟩ = some (.int .i64 x.st) ∧ w'.cell? ⟨bt, 0, none⟩ = some (.int .i64 places) ∧ Below w.heap.size w w')) (by kernel_rfl) ?_ (fun hH => ?_)
  · (try dsimp only); (go_split_ands; refine ⟨?_, ?_, ?_, ?_, ?_, ?_⟩ <;> (first | assumption | (go_simp; done) | (go_keep; done) | (refine cell_later hb ?_; first | assumption | (go_keep; done)) | (refine bwS ?_ ?_ hb; (first | assumption | ((repeat (first | exact Below.refl _ _ | assumption | refine Below.drew ?_ | refine Below.drewN ?_ _ | refine blT ?_ | refine blU ?_)); done)); (first | exact Nat.le_refl _ | (simp; done) | (simp; omega))) | ((repeat (first | exact Below.refl _ _ | assumption | refine Below.drew ?_ | refine Below.drewN ?_ _ | refine blT ?_ | refine blU ?_)); done)))
  refine tkY 0 (some 6) ?_ ?_ ?_
  rotate_left
  · intro w hS0; go_simp; (try with_reducible rfl)
  (try simp only [cq])
  refine tkY 1 (some 7) ?_ ?_ ?_
  rotate_left
  · intro w hS0; go_simp; (try with_reducible rfl)
  (try simp only [cq])
  refine tkY 2 (some 8) ?_ ?_ ?_
  rotate_left
  · intro w hS0; go_simp; (try with_reducible rfl)
  (try simp only [cq])
  refine tkY 3 (some 9) ?_ ?_ ?_
  rotate_left
  · intro w _; go_simp; (try with_reducible rfl)
  (try simp only [cq])
  refine tkY 5 (some 11) ?_ ?_ ?_
  rotate_left
  · intro w hS0; go_simp; (try with_reducible rfl)
  (try simp only [cq])
  refine tkY 6 (some 12) ?_ ?_ ?_
  rotate_left
  · intro w hS0; go_simp; (try with_reducible rfl)
  (try simp only [cq])
  refine tkY 8 (some 14) ?_ ?_ ?_
  rotate_left
  · intro w hS0; go_simp; (try with_reducible rfl)
  (try simp only [cq])
  refine tkY 9 (some 15) ?_ ?_ ?_
  rotate_left
  · intro w hS0; go_simp; (try with_reducible rfl)
  (try simp only [cq])
  refine wpAnyH_ready (rs := [4]) (by kernel_rfl) (by simp) ?_
  refine arc1 (some 10) fun K hK => ?_
  go_simp
  (refine (index_any _ _ _).mono ?_; (try simp only [hp]); rintro e w' ⟨rfl, rfl⟩)
  refine hK.out _ _ ?_ (fun hH => ?_)
  · (go_split_ands; refine ⟨?_, ?_, ?_, ?_, ?_, ?_⟩ <;> (first | assumption | (go_simp; done) | (go_keep; done) | (refine cell_later hb ?_; first | assumption | (go_keep; done)) | (refine bwS ?_ ?_ hb; (first | assumption | ((repeat (first | exact Below.refl _ _ | assumption | refine Below.drew ?_ | refine Below.drewN ?_ _ | refine blT ?_ | refine blU ?_)); done)); (first | exact Nat.le_refl _ | (simp; done) | (simp; omega))) | ((repeat (first | exact Below.refl _ _ | assumption | refine Below.drew ?_ | refine Below.drewN ?_ _ | refine blT ?_ | refine blU ?_)); done)))
  clear hK K
  (try simp only [cq])
  refine wpAnyH_ready (rs := [7]) (by kernel_rfl) (by simp) ?_
  refine arc1 (some 13) fun K hK => ?_
  go_simp
  (refine (weight_any _ _ _).mono ?_; rintro e w' ⟨rfl, hb⟩)
  refine hK.out _ _ ?_ (fun hH => ?_)
  · (go_split_ands; refine ⟨?_, ?_, ?_, ?_, ?_, ?_⟩ <;> (first | assumption | (go_simp; done) | (go_keep; done) | (refine cell_later hb ?_; first | assumption | (go_keep; done)) | (refine bwS ?_ ?_ hb; (first | assumption | ((repeat (first | exact Below.refl _ _ | assumption | refine Below.drew ?_ | refine Below.drewN ?_ _ | refine blT ?_ | refine blU ?_)); done)); (first | exact Nat.le_refl _ | (simp; done) | (simp; omega))) | ((repeat (first | exact Below.refl _ _ | assumption | refine Below.drew ?_ | refine Below.drewN ?_ _ | refine blT ?_ | refine blU ?_)); done)))
  clear hK K
  (try simp only [cq])
  refine wpAnyH_ready (rs := [10]) (by kernel_rfl) (by simp) ?_
  refine arc1 (some 16) fun K hK => ?_
  go_simp
  (refine (stand_any _ _).mono ?_; rintro e w' ⟨rfl, rfl⟩)
  refine hK.out _ _ ?_ (fun hH => ?_)
  · (go_split_ands; refine ⟨?_, ?_, ?_, ?_, ?_, ?_⟩ <;> (first | assumption | (go_simp; done) | (go_keep; done) | (refine cell_later hb ?_; first | assumption | (go_keep; done)) | (refine bwS ?_ ?_ hb; (first | assumption | ((repeat (first | exact Below.refl _ _ | assumption | refine Below.drew ?_ | refine Below.drewN ?_ _ | refine blT ?_ | refine blU ?_)); done)); (first | exact Nat.le_refl _ | (simp; done) | (simp; omega))) | ((repeat (first | exact Below.refl _ _ | assumption | refine Below.drew ?_ | refine Below.drewN ?_ _ | refine blT ?_ | refine blU ?_)); done)))
  clear hK K
  (try simp only [cq])
  refine wpAnyH_ready (rs := [11]) (by kernel_rfl) (by simp) ?_
  refine arc1 (some 17) fun K hK => ?_
  go_simp
  refine hK.out _ _ ?_ (fun hH => ?_)
  · (go_split_ands; refine ⟨?_, ?_, ?_, ?_, ?_, ?_⟩ <;> (first | assumption | (go_simp; done) | (go_keep; done) | (refine cell_later hb ?_; first | assumption | (go_keep; done)) | (refine bwS ?_ ?_ hb; (first | assumption | ((repeat (first | exact Below.refl _ _ | assumption | refine Below.drew ?_ | refine Below.drewN ?_ _ | refine blT ?_ | refine blU ?_)); done)); (first | exact Nat.le_refl _ | (simp; done) | (simp; omega))) | ((repeat (first | exact Below.refl _ _ | assumption | refine Below.drew ?_ | refine Below.drewN ?_ _ | refine blT ?_ | refine blU ?_)); done)))
  clear hK K
  (try simp only [cq])
  refine wpAnyH_ready (rs := [12]) (by kernel_rfl) (by simp) ?_
  refine arc1 (some 18) fun K hK => ?_
  go_simp
  (refine (first_ld _ _ pm x _ (by first | (simp; done) | (go_simp; done) | (go_keep; done)) (by first | (simp; done) | (go_simp; done) | (go_keep; done)) (by first | (simp; done) | (go_simp; done) | (go_keep; done))).mono ?_; rintro e w' ⟨rfl, rfl⟩)
  refine hK.out _ _ ?_ (fun hH => ?_)
  · (go_split_ands; refine ⟨?_, ?_, ?_, ?_, ?_, ?_⟩ <;> (first | assumption | (go_simp; done) | (go_keep; done) | (refine cell_later hb ?_; first | assumption | (go_keep; done)) | (refine bwS ?_ ?_ hb; (first | assumption | ((repeat (first | exact Below.refl _ _ | assumption | refine Below.drew ?_ | refine Below.drewN ?_ _ | refine blT ?_ | refine blU ?_)); done)); (first | exact Nat.le_refl _ | (simp; done) | (simp; omega))) | ((repeat (first | exact Below.refl _ _ | assumption | refine Below.drew ?_ | refine Below.drewN ?_ _ | refine blT ?_ | refine blU ?_)); done)))
  clear hK K
  (try simp only [cq])
  refine tkY 13 (some 5) ?_ ?_ ?_
  rotate_left
  · intro w _; go_simp; (try with_reducible rfl)
  (try simp only [cq])
  refine wpAnyH_done (by kernel_rfl) ?_ _
  (try dsimp only [Act.put])
  (try simp only [cq])
  have hBB : Below w.heap.size w _ := hH.2.2.2.2.2
  clear hH
  go_wp2
  go_ret
  exact ⟨rfl, hBB⟩

theorem spl_many (f : Value) (m : Int) (a : Option Addr) (n cap : Nat) (w : World) (hn : m < n) (hl : n ≤ 9223372036854775807) :
    Calls Try.prog 95 #[.slice a n cap, .int .i64 m, f] w fun e w' => e = .returned (.int .i64 8) ∧ w = w' := by
  have hE : eM n m = 8 := by unfold eM; rw [if_pos (by omega)]
  go_enter Try.func95, Try.ntmps95
  go_wp2_with (go_at_call 134; refine (most_any _ _ _).mono ?_; rintro e w' ⟨rfl, rfl⟩)
  go_ret
  exact ⟨rfl, rfl⟩
theorem spl_none (f : Value) (m : Int) (h0 : 0 ≤ m) (a : Option Addr) (cap : Nat) (w : World) :
    Calls Try.prog 95 #[.slice a 0 cap, .int .i64 m, f] w fun e w' => e = .returned (.int .i64 0) ∧ w = w' := by
  have hE : eM 0 m = 0 := by unfold eM; rw [if_neg (by omega)]
  go_enter Try.func95, Try.ntmps95
  go_wp2_with (go_at_call 134; refine (most_any _ _ _).mono ?_; rintro e w' ⟨rfl, rfl⟩)
  refine wp_loop_rounds 1 ?_
  rw [rounds_succ]
  go_wp2
  go_ret
  exact ⟨rfl, rfl⟩

theorem ldl_many (f : Value) (m : Int) (a : Option Addr) (n cap : Nat) (w : World) (hn : m < n) (hl : n ≤ 9223372036854775807) :
    Calls Try.prog 122 #[.slice a n cap, .int .i64 m, f] w fun e w' => e = .returned (.int .i64 8) ∧ w = w' := by
  have hE : eM n m = 8 := by unfold eM; rw [if_pos (by omega)]
  go_enter Try.func122, Try.ntmps122
  go_wp2_with (go_at_call 134; refine (most_any _ _ _).mono ?_; rintro e w' ⟨rfl, rfl⟩)
  go_ret
  exact ⟨rfl, rfl⟩
theorem ldl_none (f : Value) (m : Int) (h0 : 0 ≤ m) (a : Option Addr) (cap : Nat) (w : World) :
    Calls Try.prog 122 #[.slice a 0 cap, .int .i64 m, f] w fun e w' => e = .returned (.int .i64 0) ∧ w = w' := by
  have hE : eM 0 m = 0 := by unfold eM; rw [if_neg (by omega)]
  go_enter Try.func122, Try.ntmps122
  go_wp2_with (go_at_call 134; refine (most_any _ _ _).mono ?_; rintro e w' ⟨rfl, rfl⟩)
  refine wp_loop_rounds 1 ?_
  rw [rounds_succ]
  go_wp2
  go_ret
  exact ⟨rfl, rfl⟩

set_option maxHeartbeats 1000000 in
theorem spl1_some  (b o n cap : Nat) (A B : Nat → Int) (w : World) (hm : n ≤ 1000) (hcap : n ≤ cap) (hl : cap ≤ 9223372036854775807)
    (hc : ∀ i, i < n → w.cell? ⟨b, o + i * 2, none⟩ = some (.int .i64 (A i)) ∧ w.cell? ⟨b, o + i * 2 + 1, none⟩ = some (.int .i64 (B i))) :
    Calls Try.prog 95 #[.slice (some ⟨b, o, none⟩) n cap, .int .i64 1000, .func (.func 120) #[] #[]] w fun e w' => e = .returned (.int .i64 (firstNZ (fun i => eS (A i) (B i) 0 5000) 0 n)) ∧ Below w.heap.size w w' := by
  have hE : eM n 1000 = 0 := by unfold eM; rw [if_neg (by omega)]
  have HC : Hid _ := hc
  have HK : Hid (∀ (i : Nat) (_ : i < n) (W : World), Below w.heap.size w W → Calls Try.prog 120 #[.int .i64 i, .agg #[.int .i64 (A i), .int .i64 (B i)]] W fun e w' => e = .returned (.int .i64 (eS (A i) (B i) 0 5000)) ∧ Below W.heap.size W w') := fun i hi W hW => road1_one i (A i) (B i) W
  have HF : ∃ X : Nat → Int, X = fun i => eS (A i) (B i) 0 5000 := ⟨_, rfl⟩
  obtain ⟨X, HF⟩ := HF
  rw [← HF]
  have HX : Hid (∀ i : Nat, eS (A i) (B i) 0 5000 = X i) := fun i => by rw [HF]
  clear hc HF
  go_enter Try.func95, Try.ntmps95
  go_wp2_with (go_at_call 134; refine (most_any _ _ _).mono ?_; rintro e w' ⟨rfl, rfl⟩)
  go_loopw [20] (fun i wr => ∃ k : Nat, k ≤ n ∧ i = .int .i64 k ∧ firstNZ X 0 n = firstNZ X k (n - k) ∧ Below w.heap.size w wr) (fun i _ => n - (intOf i).toNat)
  case atStart => exact ⟨0, Nat.zero_le _, rfl, rfl, Below.refl _ _⟩
  case round =>
    obtain ⟨k, hk, rfl, hd, hB⟩ := hrel
    have HD : Hid _ := hd
    clear hd
    by_cases hlt2 : k < n
    · obtain ⟨a0, a1⟩ := HC.out k (by omega)
      replace a0 := cell_later hB a0
      replace a1 := cell_later hB a1
      have hbs := World.block_lt_of_cell? _ _ a0
      have hws : w.heap.size ≤ wr.heap.size := hB.size
      have HH0 : Hid (∀ _ : X k = 0, Hid _) := fun h => firstNZ_step0 X n k (by omega) h
      have HH1 : Hid (∀ _ : ¬ X k = 0, Hid _) := fun h => firstNZ_stepN X n k (by omega) h
      have HXk := Lib.hid (HX.out k)
      go_wp2_with fail
      refine (HK.out k hlt2 _ ?_).mono ?_
      · (repeat (first | exact Below.refl _ _ | assumption | refine Below.drew ?_ | refine Below.drewN ?_ _ | refine blT ?_ | refine blU ?_))
      rw [HXk.out]
      rintro e w2 ⟨rfl, hb2⟩
      have hBB : Below w.heap.size w w2 := bwS (by (repeat (first | exact Below.refl _ _ | assumption | refine Below.drew ?_ | refine Below.drewN ?_ _ | refine blT ?_ | refine blU ?_))) (by first | exact Nat.le_refl _ | (simp; done) | (simp; omega)) hb2
      clear hb2
      by_cases hz2 : X k = 0
      · have H0 := HH0.out hz2
        have hz3 : (X k != 0) = false := by simpa using hz2
        clear hz2
        go_wp2
        go_roundw
        case rel => exact ⟨k + 1, by omega, by go_num, by rw [HD.out, H0.out], hBB⟩
        case measure => simp [intOf]; omega
      · have H0 := HH1.out hz2
        have hz3 : (X k != 0) = true := by simpa using hz2
        clear hz2
        go_wp2
        go_ret
        exact ⟨by rw [HD.out, H0.out]; rfl, hBB⟩
    · go_wp2
      go_ret
      have : n - k = 0 := by omega
      exact ⟨by rw [HD.out, this]; rfl, hB⟩

theorem spl1_any (v : Value) (n : Nat) (A B : Nat → Int) (w : World) (h : PairsAt w v n A B) :
    Calls Try.prog 95 #[v, .int .i64 1000, .func (.func 120) #[] #[]] w fun e w' => e = .returned (.int .i64 (eSps 5000 n 1000 A B)) ∧ Below w.heap.size w w' := by
  obtain ⟨a, cap, rfl, h1, h2, h3⟩ := h
  unfold eSps
  by_cases h0 : n = 0
  · subst h0
    rw [if_neg (by omega)]
    exact (spl_none _ 1000 (by decide) a cap w).mono fun e w' ⟨he, hw⟩ => ⟨he, hw ▸ Below.refl _ _⟩
  by_cases h12 : (1000 : Int) < n
  · rw [if_pos h12]
    exact (spl_many _ 1000 a n cap w h12 (by omega)).mono fun e w' ⟨he, hw⟩ => ⟨he, hw ▸ Below.refl _ _⟩
  rw [if_neg h12]
  obtain ⟨b, o, rfl, hc⟩ := h3 (by omega)
  exact spl1_some b o n cap A B w (by omega) h1 h2 hc

set_option maxHeartbeats 1000000 in
theorem spl2_some  (b o n cap : Nat) (A B : Nat → Int) (w : World) (hm : n ≤ 50) (hcap : n ≤ cap) (hl : cap ≤ 9223372036854775807)
    (hc : ∀ i, i < n → w.cell? ⟨b, o + i * 2, none⟩ = some (.int .i64 (A i)) ∧ w.cell? ⟨b, o + i * 2 + 1, none⟩ = some (.int .i64 (B i))) :
    Calls Try.prog 95 #[.slice (some ⟨b, o, none⟩) n cap, .int .i64 50, .func (.func 121) #[] #[]] w fun e w' => e = .returned (.int .i64 (firstNZ (fun i => eS (A i) (B i) 0 100000) 0 n)) ∧ Below w.heap.size w w' := by
  have hE : eM n 50 = 0 := by unfold eM; rw [if_neg (by omega)]
  have HC : Hid _ := hc
  have HK : Hid (∀ (i : Nat) (_ : i < n) (W : World), Below w.heap.size w W → Calls Try.prog 121 #[.int .i64 i, .agg #[.int .i64 (A i), .int .i64 (B i)]] W fun e w' => e = .returned (.int .i64 (eS (A i) (B i) 0 100000)) ∧ Below W.heap.size W w') := fun i hi W hW => road2_one i (A i) (B i) W
  have HF : ∃ X : Nat → Int, X = fun i => eS (A i) (B i) 0 100000 := ⟨_, rfl⟩
  obtain ⟨X, HF⟩ := HF
  rw [← HF]
  have HX : Hid (∀ i : Nat, eS (A i) (B i) 0 100000 = X i) := fun i => by rw [HF]
  clear hc HF
  go_enter Try.func95, Try.ntmps95
  go_wp2_with (go_at_call 134; refine (most_any _ _ _).mono ?_; rintro e w' ⟨rfl, rfl⟩)
  go_loopw [20] (fun i wr => ∃ k : Nat, k ≤ n ∧ i = .int .i64 k ∧ firstNZ X 0 n = firstNZ X k (n - k) ∧ Below w.heap.size w wr) (fun i _ => n - (intOf i).toNat)
  case atStart => exact ⟨0, Nat.zero_le _, rfl, rfl, Below.refl _ _⟩
  case round =>
    obtain ⟨k, hk, rfl, hd, hB⟩ := hrel
    have HD : Hid _ := hd
    clear hd
    by_cases hlt2 : k < n
    · obtain ⟨a0, a1⟩ := HC.out k (by omega)
      replace a0 := cell_later hB a0
      replace a1 := cell_later hB a1
      have hbs := World.block_lt_of_cell? _ _ a0
      have hws : w.heap.size ≤ wr.heap.size := hB.size
      have HH0 : Hid (∀ _ : X k = 0, Hid _) := fun h => firstNZ_step0 X n k (by omega) h
      have HH1 : Hid (∀ _ : ¬ X k = 0, Hid _) := fun h => firstNZ_stepN X n k (by omega) h
      have HXk := Lib.hid (HX.out k)
      go_wp2_with fail
      refine (HK.out k hlt2 _ ?_).mono ?_
      · (repeat (first | exact Below.refl _ _ | assumption | refine Below.drew ?_ | refine Below.drewN ?_ _ | refine blT ?_ | refine blU ?_))
      rw [HXk.out]
      rintro e w2 ⟨rfl, hb2⟩
      have hBB : Below w.heap.size w w2 := bwS (by (repeat (first | exact Below.refl _ _ | assumption | refine Below.drew ?_ | refine Below.drewN ?_ _ | refine blT ?_ | refine blU ?_))) (by first | exact Nat.le_refl _ | (simp; done) | (simp; omega)) hb2
      clear hb2
      by_cases hz2 : X k = 0
      · have H0 := HH0.out hz2
        have hz3 : (X k != 0) = false := by simpa using hz2
        clear hz2
        go_wp2
        go_roundw
        case rel => exact ⟨k + 1, by omega, by go_num, by rw [HD.out, H0.out], hBB⟩
        case measure => simp [intOf]; omega
      · have H0 := HH1.out hz2
        have hz3 : (X k != 0) = true := by simpa using hz2
        clear hz2
        go_wp2
        go_ret
        exact ⟨by rw [HD.out, H0.out]; rfl, hBB⟩
    · go_wp2
      go_ret
      have : n - k = 0 := by omega
      exact ⟨by rw [HD.out, this]; rfl, hB⟩

theorem spl2_any (v : Value) (n : Nat) (A B : Nat → Int) (w : World) (h : PairsAt w v n A B) :
    Calls Try.prog 95 #[v, .int .i64 50, .func (.func 121) #[] #[]] w fun e w' => e = .returned (.int .i64 (eSps 100000 n 50 A B)) ∧ Below w.heap.size w w' := by
  obtain ⟨a, cap, rfl, h1, h2, h3⟩ := h
  unfold eSps
  by_cases h0 : n = 0
  · subst h0
    rw [if_neg (by omega)]
    exact (spl_none _ 50 (by decide) a cap w).mono fun e w' ⟨he, hw⟩ => ⟨he, hw ▸ Below.refl _ _⟩
  by_cases h12 : (50 : Int) < n
  · rw [if_pos h12]
    exact (spl_many _ 50 a n cap w h12 (by omega)).mono fun e w' ⟨he, hw⟩ => ⟨he, hw ▸ Below.refl _ _⟩
  rw [if_neg h12]
  obtain ⟨b, o, rfl, hc⟩ := h3 (by omega)
  exact spl2_some b o n cap A B w (by omega) h1 h2 hc

set_option maxHeartbeats 1000000 in
theorem ldl1_some (bt places : Nat) (pm : Int) (hp : IntKind.i64.wrap (100 * (places : Int)) = pm) (b o n cap : Nat) (L : Nat → Ld) (w : World) (hm : n ≤ 30) (hcap : n ≤ cap) (hl : cap ≤ 9223372036854775807) (hv : w.cell? ⟨bt, 0, none⟩ = some (.int .i64 places))
    (hc : ∀ i, i < n → w.cell? ⟨b, o + i * 4, none⟩ = some (.int .i64 (L i).me) ∧ w.cell? ⟨b, o + i * 4 + 1, none⟩ = some (.int .i64 (L i).w0) ∧ w.cell? ⟨b, o + i * 4 + 2, none⟩ = some (.int .i64 (L i).w1) ∧ w.cell? ⟨b, o + i * 4 + 3, none⟩ = some (.int .i64 (L i).st)) :
    Calls Try.prog 122 #[.slice (some ⟨b, o, none⟩) n cap, .int .i64 30, .func (.func 123) #[] #[.pointer (some ⟨bt, 0, none⟩)]] w fun e w' => e = .returned (.int .i64 (firstNZ (fun i => eLd pm (L i)) 0 n)) ∧ Below w.heap.size w w' := by
  have hE : eM n 30 = 0 := by unfold eM; rw [if_neg (by omega)]
  have HC : Hid _ := hc
  have HK : Hid (∀ (i : Nat) (_ : i < n) (W : World), Below w.heap.size w W → Calls Try.prog 123 #[.int .i64 i, .agg #[.int .i64 (L i).me, .int .i64 (L i).w0, .int .i64 (L i).w1, .int .i64 (L i).st], .pointer (some ⟨bt, 0, none⟩)] W fun e w' => e = .returned (.int .i64 (eLd pm (L i))) ∧ Below W.heap.size W w') := fun i hi W hW => load_one i bt places pm hp (L i) W (cell_later hW hv)
  have HF : ∃ X : Nat → Int, X = fun i => eLd pm (L i) := ⟨_, rfl⟩
  obtain ⟨X, HF⟩ := HF
  rw [← HF]
  have HX : Hid (∀ i : Nat, eLd pm (L i) = X i) := fun i => by rw [HF]
  clear hc HF
  go_enter Try.func122, Try.ntmps122
  go_wp2_with (go_at_call 134; refine (most_any _ _ _).mono ?_; rintro e w' ⟨rfl, rfl⟩)
  go_loopw [20] (fun i wr => ∃ k : Nat, k ≤ n ∧ i = .int .i64 k ∧ firstNZ X 0 n = firstNZ X k (n - k) ∧ Below w.heap.size w wr) (fun i _ => n - (intOf i).toNat)
  case atStart => exact ⟨0, Nat.zero_le _, rfl, rfl, Below.refl _ _⟩
  case round =>
    obtain ⟨k, hk, rfl, hd, hB⟩ := hrel
    have HD : Hid _ := hd
    clear hd
    by_cases hlt2 : k < n
    · obtain ⟨a0, a1, a2, a3⟩ := HC.out k (by omega)
      replace a0 := cell_later hB a0
      replace a1 := cell_later hB a1
      replace a2 := cell_later hB a2
      replace a3 := cell_later hB a3
      have hbs := World.block_lt_of_cell? _ _ a0
      have hws : w.heap.size ≤ wr.heap.size := hB.size
      have HH0 : Hid (∀ _ : X k = 0, Hid _) := fun h => firstNZ_step0 X n k (by omega) h
      have HH1 : Hid (∀ _ : ¬ X k = 0, Hid _) := fun h => firstNZ_stepN X n k (by omega) h
      have HXk := Lib.hid (HX.out k)
      go_wp2_with fail
      refine (HK.out k hlt2 _ ?_).mono ?_
      · (repeat (first | exact Below.refl _ _ | assumption | refine Below.drew ?_ | refine Below.drewN ?_ _ | refine blT ?_ | refine blU ?_))
      rw [HXk.out]
      rintro e w2 ⟨rfl, hb2⟩
      have hBB : Below w.heap.size w w2 := bwS (by (repeat (first | exact Below.refl _ _ | assumption | refine Below.drew ?_ | refine Below.drewN ?_ _ | refine blT ?_ | refine blU ?_))) (by first | exact Nat.le_refl _ | (simp; done) | (simp; omega)) hb2
      clear hb2
      by_cases hz2 : X k = 0
      · have H0 := HH0.out hz2
        have hz3 : (X k != 0) = false := by simpa using hz2
        clear hz2
        go_wp2
        go_roundw
        case rel => exact ⟨k + 1, by omega, by go_num, by rw [HD.out, H0.out], hBB⟩
        case measure => simp [intOf]; omega
      · have H0 := HH1.out hz2
        have hz3 : (X k != 0) = true := by simpa using hz2
        clear hz2
        go_wp2
        go_ret
        exact ⟨by rw [HD.out, H0.out]; rfl, hBB⟩
    · go_wp2
      go_ret
      have : n - k = 0 := by omega
      exact ⟨by rw [HD.out, this]; rfl, hB⟩

theorem ldl1_any (bt places : Nat) (pm : Int) (hp : IntKind.i64.wrap (100 * (places : Int)) = pm) (v : Value) (n : Nat) (L : Nat → Ld) (w : World) (h : LoadsAt w v n L) (hv : w.cell? ⟨bt, 0, none⟩ = some (.int .i64 places)) :
    Calls Try.prog 122 #[v, .int .i64 30, .func (.func 123) #[] #[.pointer (some ⟨bt, 0, none⟩)]] w fun e w' => e = .returned (.int .i64 (eLds pm n L)) ∧ Below w.heap.size w w' := by
  obtain ⟨a, cap, rfl, h1, h2, h3⟩ := h
  unfold eLds
  by_cases h0 : n = 0
  · subst h0
    rw [if_neg (by omega)]
    exact (ldl_none _ 30 (by decide) a cap w).mono fun e w' ⟨he, hw⟩ => ⟨he, hw ▸ Below.refl _ _⟩
  by_cases h12 : 30 < n
  · rw [if_pos h12]
    exact (ldl_many _ 30 a n cap w (by omega) (by omega)).mono fun e w' ⟨he, hw⟩ => ⟨he, hw ▸ Below.refl _ _⟩
  rw [if_neg h12]
  obtain ⟨b, o, rfl, hc⟩ := h3 (by omega)
  exact ldl1_some bt places pm hp b o n cap L w (by omega) h1 h2 hv hc
theorem loads_any (places : Nat) (pm : Int) (hp : IntKind.i64.wrap (100 * (places : Int)) = pm) (v : Value) (n : Nat) (L : Nat → Ld) (w : World) (h : LoadsAt w v n L) :
    Calls Try.prog 87 #[v, .int .i64 places] w fun e w' => e = .returned (.int .i64 (eLds pm n L)) ∧ Below w.heap.size w w' := by
  have jB : Below w.heap.size w (w.alloc (.cells #[.int .i64 places] 3)) := by (repeat (first | exact Below.refl _ _ | assumption | refine Below.drew ?_ | refine Below.drewN ?_ _ | refine blT ?_ | refine blU ?_))
  have HL := Lib.hid (ldl1_any w.heap.size places pm hp v n L _ (h.later jB) ((Blk.new w #[.int .i64 places] 3).cell 0 rfl))
  go_enter Try.func87, Try.ntmps87
  go_wp2_with fail
  refine HL.out.mono ?_
  rintro e w' ⟨rfl, hb⟩
  have hBB : Below w.heap.size w w' := bwS jB (Nat.le_refl _) hb
  clear hb jB
  go_wp2
  go_ret
  exact ⟨rfl, hBB⟩

def eRoad (p : Pl) (ni : Nat) (I0 I1 : Nat → Int) (nc : Nat) (C0 C1 : Nat → Int) : Int := orE (ePl p) (orE (eSps 5000 ni 1000 I0 I1) (eSps 100000 nc 50 C0 C1))
set_option maxHeartbeats 2000000 in
theorem road_any (p : Pl) (vS vC vI vK : Value) (ni : Nat) (I0 I1 : Nat → Int) (nc : Nat) (C0 C1 : Nat → Int) (w : World) (hS : TabAt w vS p.S) (hC : TabAt w vC p.C) (hI : PairsAt w vI ni I0 I1) (hK : PairsAt w vK nc C0 C1) :
    Calls Try.prog 86 #[.agg #[.int .i64 p.s0, .int .i64 p.s1, vS, vC, .int .i64 p.ne, .int .i64 p.ed, .int .i64 p.gr, .int .i64 p.lo, .int .i64 p.hi, .int .i64 p.sh, .int .i64 p.wi], vI, vK] w fun e w' => e = .returned (.int .i64 (eRoad p ni I0 I1 nc C0 C1)) ∧ Below w.heap.size w w' := by
  have jB : Below w.heap.size w (w.alloc (.cells #[.int .i64 p.s0, .int .i64 p.s1, vS, vC, .int .i64 p.ne, .int .i64 p.ed, .int .i64 p.gr, .int .i64 p.lo, .int .i64 p.hi, .int .i64 p.sh, .int .i64 p.wi] 26)) := by (repeat (first | exact Below.refl _ _ | assumption | refine Below.drew ?_ | refine Below.drewN ?_ _ | refine blT ?_ | refine blU ?_))
  have H1 := Lib.hid (check_any p vS vC _ (hS.later jB) (hC.later jB))
  have H2 : Hid (∀ W, Below w.heap.size w W → Calls Try.prog 95 #[vI, .int .i64 1000, .func (.func 120) #[] #[]] W fun e w' => e = .returned (.int .i64 (eSps 5000 ni 1000 I0 I1)) ∧ Below W.heap.size W w') := fun W hW => spl1_any vI ni I0 I1 W (hI.later hW)
  have H3 : Hid (∀ W, Below w.heap.size w W → Calls Try.prog 95 #[vK, .int .i64 50, .func (.func 121) #[] #[]] W fun e w' => e = .returned (.int .i64 (eSps 100000 nc 50 C0 C1)) ∧ Below W.heap.size W w') := fun W hW => spl2_any vK nc C0 C1 W (hK.later hW)
  clear hS hC hI hK
  go_enter Try.func86, Try.ntmps86
  go_wp2_with fail
  refine H1.out.mono ?_
  rintro e w1 ⟨rfl, hb⟩
  replace jB := bwS jB (Nat.le_refl _) hb
  clear hb
  go_wp2_with fail
  refine (H2.out _ jB).mono ?_
  rintro e w2 ⟨rfl, hb⟩
  replace jB := bwS jB (Nat.le_refl _) hb
  clear hb
  go_wp2_with fail
  refine (H3.out _ jB).mono ?_
  rintro e w3 ⟨rfl, hb⟩
  replace jB := bwS jB (Nat.le_refl _) hb
  clear hb
  go_wp2_with fail
  refine (first_three _ _ (ePl p) (eSps 5000 ni 1000 I0 I1) (eSps 100000 nc 50 C0 C1) _ (by simp) (by simp) (by simp)).mono ?_
  rintro e w4 ⟨rfl, rfl⟩
  have hBB : Below w.heap.size w (w3.alloc (.cells #[.int .i64 (ePl p), .int .i64 (eSps 5000 ni 1000 I0 I1), .int .i64 (eSps 100000 nc 50 C0 C1)] 36)) := bwA jB (Nat.le_refl _) _
  clear jB
  go_wp2
  go_ret
  exact ⟨rfl, hBB⟩
end Go.Proofs.Ytkkljbbgaogifaa
