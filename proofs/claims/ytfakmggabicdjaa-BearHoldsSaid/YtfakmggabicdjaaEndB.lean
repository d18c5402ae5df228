/-
  sastrugilaw03.end, moved; what is worst and what is best is truly so.
-/
import Derived.Test.YtfakmggabicdjaaTail
import Derived.Test.YtfakmggabicdjaaIns
set_option linter.unusedVariables false
set_option linter.unusedSimpArgs false
namespace Go.Proofs.Ytfakmggabicdjaa
open Go.RowKit

theorem rowX (F : Nat → Int) : ∃ X : Nat → List Value, (∀ k, X k = catC (intC F) k) ∧ X 0 = [] ∧ ∀ k, X (k + 1) = X k ++ [.int .i64 (F k)] := ⟨fun k => catC (intC F) k, fun _ => rfl, rfl, fun _ => rfl⟩

set_option maxRecDepth 100000 in
set_option maxHeartbeats 4000000 in
theorem kend_any (n : Nat) (v : Value) (A B : Nat → Int) (up : Bool) (hn : n ≤ 1000) (w : World) (hP : PairsAt w v n A B) :
    Calls Try.prog 59 #[v, .bool up] w fun e w' => ∃ u, e = .returned u ∧ w'.ownsRow w.heap.size 3 1 u n (catC (intC (fun i => endV up (A i) (B i))) n) ∧ Below w.heap.size w w' := by
  obtain ⟨aV, cV, rfl, hc1, hc2, h3⟩ := hP
  have H3 := Lib.hid h3
  obtain ⟨i0, hi0, hz0, hz1, hz2⟩ := info_parts Try.infoInt
  have jR := World.ownsRow_nil w w.heap.size 3 1
  clear h3
  obtain ⟨X, hX, hX0, hX1⟩ := rowX (fun i => endV up (A i) (B i))
  rw [← hX n]
  have HX1 := Lib.hid hX1
  clear hX hX1
  go_enter Try.func59, Try.ntmps59
  go_wp2_with fail
  go_loopw [5, 6] (fun l i wr => ∃ (k : Nat), k ≤ n ∧ i = .int .i64 k ∧ wr.ownsRow w.heap.size 3 1 l k (X k) ∧ Below w.heap.size w wr) (fun _ i _ => n - (intOf i).toNat)
  case atStart => exact ⟨0, Nat.zero_le _, rfl, by rw [hX0]; exact jR, Below.refl _ _⟩
  case round =>
    clear jR hX0
    obtain ⟨k, hk, rfl, jR, hB⟩ := hrel
    by_cases hlt2 : k < n
    · obtain ⟨b, o, ha, hc⟩ := H3.out (by omega)
      subst ha
      obtain ⟨a0, a1⟩ := hc k hlt2
      clear hc
      replace a0 := cell_later hB a0
      replace a1 := cell_later hB a1
      have z0 := World.block_lt_of_cell? _ _ a0
      have zB := hB.size
      have HCk := Lib.hid (HX1.out k)
      have hr : ∀ z, u5.ownBlock = some z → w.heap.size ≤ z := fun z e => (jR.lt z e).1
      cases up with
      | true =>
        simp only [endV, if_true] at HCk
        go_wp2_with (at_builtin; refine wpList_append_own_at _ rfl _ _ 27 rfl w.heap.size 3 i0 (.int .i64 0) 1 8 Try.underlying27 hi0 hz0 hz1 hz2 rfl (by decide) _ _ _ rfl (jR.alloc _) ⟨wr.heap.size, 0, none⟩ 1 1 [.int .i64 (B k)] rfl rfl (news1 _ _ _) (one1 _) (by unfold maxLen; omega) (by omega) (by simp; omega) ?_; intro v' w9 hown' hgrow _ _; rw [← HCk.out] at hown'; have kB := below_grown (bwA hB (Nat.le_refl _) (.cells #[.int .i64 (B k)] 3)) hgrow (fun q e => by have := hr q e; omega) (by simp; omega))
        clear hgrow jR hB hr
        go_roundw
        case rel => exact ⟨k + 1, by omega, by go_num, hown', kB⟩
        case measure => simp [intOf]; omega
      | false =>
        simp only [endV, Bool.false_eq_true, if_false] at HCk
        go_wp2_with (at_builtin; refine wpList_append_own_at _ rfl _ _ 27 rfl w.heap.size 3 i0 (.int .i64 0) 1 8 Try.underlying27 hi0 hz0 hz1 hz2 rfl (by decide) _ _ _ rfl (jR.alloc _) ⟨wr.heap.size, 0, none⟩ 1 1 [.int .i64 (A k)] rfl rfl (news1 _ _ _) (one1 _) (by unfold maxLen; omega) (by omega) (by simp; omega) ?_; intro v' w9 hown' hgrow _ _; rw [← HCk.out] at hown'; have kB := below_grown (bwA hB (Nat.le_refl _) (.cells #[.int .i64 (A k)] 3)) hgrow (fun q e => by have := hr q e; omega) (by simp; omega))
        clear hgrow jR hB hr
        go_roundw
        case rel => exact ⟨k + 1, by omega, by go_num, hown', kB⟩
        case measure => simp [intOf]; omega
    · have hkn : n = k := by omega
      subst hkn
      go_wp2
      go_ret
      exact ⟨u5, rfl, jR, hB⟩

def mvV (near : Bool) (a c0 c1 : Int) : Int := if near then min (max a c0) c1 else if farV a c1 < farV a c0 then c0 else c1

set_option maxRecDepth 100000 in
set_option maxHeartbeats 8000000 in
theorem kmoved_any (n : Nat) (v : Value) (A B : Nat → Int) (m : Int) (near : Bool) (hn : n ≤ 1000) (hm : -1000000000 ≤ m ∧ m ≤ 1000000000) (hAB : ∀ i, i < n → -1000000000 ≤ A i ∧ A i ≤ 1000000000 ∧ -1000000000 ≤ B i ∧ B i ≤ 1000000000) (w : World) (hP : PairsAt w v n A B) :
    Calls Try.prog 60 #[v, .int .i64 m, .bool near] w fun e w' => ∃ u, e = .returned u ∧ w'.ownsRow w.heap.size 3 1 u n (catC (intC (fun i => mvV near m (A i) (B i))) n) ∧ Below w.heap.size w w' := by
  obtain ⟨aV, cV, rfl, hc1, hc2, h3⟩ := hP
  have H3 := Lib.hid h3
  obtain ⟨i0, hi0, hz0, hz1, hz2⟩ := info_parts Try.infoInt
  have jR := World.ownsRow_nil w w.heap.size 3 1
  clear h3
  obtain ⟨X, hX, hX0, hX1⟩ := rowX (fun i => mvV near m (A i) (B i))
  rw [← hX n]
  have HX1 := Lib.hid hX1
  have HF : Hid (∀ i : Nat, i < n → (∀ W, Calls Try.prog 64 #[.int .i64 m, .int .i64 (A i)] W fun e w' => e = .returned (.int .i64 (farV m (A i))) ∧ Below W.heap.size W w') ∧ (∀ W, Calls Try.prog 64 #[.int .i64 m, .int .i64 (B i)] W fun e w' => e = .returned (.int .i64 (farV m (B i))) ∧ Below W.heap.size W w')) := fun i hi => ⟨fun W => kfar_any _ _ (by omega) (by have := hAB i hi; omega) W, fun W => kfar_any _ _ (by omega) (by have := hAB i hi; omega) W⟩
  clear hX hX1 hAB hm
  go_enter Try.func60, Try.ntmps60
  go_wp2_with fail
  go_loopw [7, 8] (fun l i wr => ∃ (k : Nat), k ≤ n ∧ i = .int .i64 k ∧ wr.ownsRow w.heap.size 3 1 l k (X k) ∧ Below w.heap.size w wr) (fun _ i _ => n - (intOf i).toNat)
  case atStart => exact ⟨0, Nat.zero_le _, rfl, by rw [hX0]; exact jR, Below.refl _ _⟩
  case round =>
    clear jR hX0
    obtain ⟨k, hk, rfl, jR, hB⟩ := hrel
    by_cases hlt2 : k < n
    · obtain ⟨b, o, ha, hc⟩ := H3.out (by omega)
      subst ha
      obtain ⟨a0, a1⟩ := hc k hlt2
      clear hc
      replace a0 := cell_later hB a0
      replace a1 := cell_later hB a1
      have z0 := World.block_lt_of_cell? _ _ a0
      have zB := hB.size
      have HCk := Lib.hid (HX1.out k)
      obtain ⟨hf1, hf2⟩ := HF.out k hlt2
      have HF1 := Lib.hid hf1
      have HF2 := Lib.hid hf2
      clear hf1 hf2 HF HX1
      generalize A k = c0 at a0 HCk HF1
      generalize B k = c1 at a1 HCk HF2
      go_upto_region 7 with fail
      have jC := Blk.new wr #[.int .i64 c0, .int .i64 c1] 23
      replace jR := jR.alloc (.cells #[.int .i64 c0, .int .i64 c1] 23)
      replace hB := bwA hB (Nat.le_refl _) (.cells #[.int .i64 c0, .int .i64 c1] 23)
      clear a0 a1 z0 zB
      obtain ⟨bC, hbC⟩ : ∃ b, wr.heap.size = b := ⟨_, rfl⟩
      rw [hbC] at jC
      (try rw [hbC])
      clear hbC
      generalize wr.alloc (.cells #[.int .i64 c0, .int .i64 c1] 23) = V at jC jR hB ⊢
      cases near with
      | true =>
        simp only [mvV, if_true] at HCk
        obtain ⟨x0, x1⟩ := jC.c2
        have zC := jC.lt
        have zB := hB.size
        have hr : ∀ z, u7.ownBlock = some z → w.heap.size ≤ z := fun z e => (jR.lt z e).1
        go_wp2_with (at_builtin; refine wpList_append_own_at _ rfl _ _ 27 rfl w.heap.size 3 i0 (.int .i64 0) 1 8 Try.underlying27 hi0 hz0 hz1 hz2 rfl (by decide) _ _ _ rfl (jR.alloc _) ⟨V.heap.size, 0, none⟩ 1 1 [.int .i64 (min (max m c0) c1)] rfl rfl (news1 _ _ _) (one1 _) (by unfold maxLen; omega) (by omega) (by simp; omega) ?_; intro v' w9 hown' hgrow _ _; rw [← HCk.out] at hown'; have kB := below_grown (bwA hB (Nat.le_refl _) (.cells #[.int .i64 (min (max m c0) c1)] 3)) hgrow (fun q e => by have := hr q e; omega) (by simp; omega))
        clear hgrow jR hB hr
        go_roundw
        case rel => exact ⟨k + 1, by omega, by go_num, hown', kB⟩
        case measure => simp [intOf]; omega
      | false =>
        simp only [mvV, Bool.false_eq_true, if_false] at HCk
        go_upto_region 9 with fail
        refine wp_region_held_drew (S := (fun w' => Blk w' bC #[.int .i64 c0, .int .i64 c1] 23 ∧ w'.ownsRow w.heap.size 3 1 u7 k (X k) ∧ Below w.heap.size w w')) (by kernel_rfl) ?_ (fun hH => ?_)
        · (try dsimp only); (exact ⟨jC.drew, jR, hB.drew⟩)
        refine tkY 0 (some 38) ?_ ?_ ?_
        rotate_left
        · intro w _; go_simp; (try with_reducible rfl)
        (try simp only [cq])
        refine tkY 1 (some 39) ?_ ?_ ?_
        rotate_left
        · intro w hS0; (try dsimp only at hS0); obtain ⟨kC, _⟩ := hS0; obtain ⟨x0, x1⟩ := kC.c2; have y1 := kC.lt;go_simp; (try with_reducible rfl)
        (try simp only [cq])
        refine tkY 2 (some 40) ?_ ?_ ?_
        rotate_left
        · intro w hS0; (try dsimp only at hS0); obtain ⟨kC, _⟩ := hS0; obtain ⟨x0, x1⟩ := kC.c2; have y1 := kC.lt;go_simp; (try with_reducible rfl)
        (try simp only [cq])
        refine tkY 4 (some 42) ?_ ?_ ?_
        rotate_left
        · intro w _; go_simp; (try with_reducible rfl)
        (try simp only [cq])
        refine tkY 5 (some 43) ?_ ?_ ?_
        rotate_left
        · intro w hS0; (try dsimp only at hS0); obtain ⟨kC, _⟩ := hS0; obtain ⟨x0, x1⟩ := kC.c2; have y1 := kC.lt;go_simp; (try with_reducible rfl)
        (try simp only [cq])
        refine tkY 6 (some 44) ?_ ?_ ?_
        rotate_left
        · intro w hS0; (try dsimp only at hS0); obtain ⟨kC, _⟩ := hS0; obtain ⟨x0, x1⟩ := kC.c2; have y1 := kC.lt;go_simp; (try with_reducible rfl)
        (try simp only [cq])
        refine wpAnyH_ready (rs := [3]) (by kernel_rfl) (by simp) ?_
        refine arc1 (some 41) fun K hK => ?_
        go_simp
        (refine (HF1.out _).mono ?_; rintro e w' ⟨rfl, hb⟩)
        refine hK.out _ _ ?_ ?_
        · (exact ⟨hH.1.call hb, row_call hH.2.1 hb, bwS hH.2.2 (Nat.le_refl _) hb⟩)
        (try clear hH); (try clear hb)
        intro hH
        clear hK K
        (try simp only [cq])
        refine wpAnyH_ready (rs := [7]) (by kernel_rfl) (by simp) ?_
        refine arc1 (some 45) fun K hK => ?_
        go_simp
        (refine (HF2.out _).mono ?_; rintro e w' ⟨rfl, hb⟩)
        refine hK.out _ _ ?_ ?_
        · (exact ⟨hH.1.call hb, row_call hH.2.1 hb, bwS hH.2.2 (Nat.le_refl _) hb⟩)
        (try clear hH); (try clear hb)
        intro hH
        clear hK K
        (try simp only [cq])
        refine tkY 8 (some 46) ?_ ?_ ?_
        rotate_left
        · intro w _; go_simp; (try with_reducible rfl)
        (try simp only [cq])
        refine tkY 9 (some 37) ?_ ?_ ?_
        rotate_left
        · intro w _; go_simp; (try with_reducible rfl)
        (try simp only [cq])
        refine wpAnyH_done (by kernel_rfl) ?_ _
        (try dsimp only [Act.put])
        (try simp only [cq])
        clear jC jR hB
        obtain ⟨jC, jR, hB⟩ := hH
        obtain ⟨x0, x1⟩ := jC.c2
        have zC := jC.lt
        have zB := hB.size
        have hr : ∀ z, u7.ownBlock = some z → w.heap.size ≤ z := fun z e => (jR.lt z e).1
        generalize farV m c0 = f0 at HCk ⊢
        generalize farV m c1 = f1 at HCk ⊢
        by_cases hf : f1 < f0
        · have HCk2 : Hid _ := HCk.out
          rw [if_pos hf] at HCk2
          replace HCk := HCk2
          clear HCk2
          go_wp2_with (at_builtin; refine wpList_append_own_at _ rfl _ _ 27 rfl w.heap.size 3 i0 (.int .i64 0) 1 8 Try.underlying27 hi0 hz0 hz1 hz2 rfl (by decide) _ _ _ rfl (jR.alloc _) ⟨_, 0, none⟩ 1 1 [.int .i64 c0] rfl rfl (news1 _ _ _) (one1 _) (by unfold maxLen; omega) (by omega) (by simp; omega) ?_; intro v' w9 hown' hgrow _ _; rw [← HCk.out] at hown'; have kB := below_grown (bwA hB (Nat.le_refl _) (.cells #[.int .i64 c0] 3)) hgrow (fun q e => by have := hr q e; omega) (by simp; omega))
          clear hgrow jR hB hr
          go_roundw
          case rel => exact ⟨k + 1, by omega, by go_num, hown', kB⟩
          case measure => simp [intOf]; omega
        · have HCk2 : Hid _ := HCk.out
          rw [if_neg hf] at HCk2
          replace HCk := HCk2
          clear HCk2
          go_wp2_with (at_builtin; refine wpList_append_own_at _ rfl _ _ 27 rfl w.heap.size 3 i0 (.int .i64 0) 1 8 Try.underlying27 hi0 hz0 hz1 hz2 rfl (by decide) _ _ _ rfl (jR.alloc _) ⟨_, 0, none⟩ 1 1 [.int .i64 c1] rfl rfl (news1 _ _ _) (one1 _) (by unfold maxLen; omega) (by omega) (by simp; omega) ?_; intro v' w9 hown' hgrow _ _; rw [← HCk.out] at hown'; have kB := below_grown (bwA hB (Nat.le_refl _) (.cells #[.int .i64 c1] 3)) hgrow (fun q e => by have := hr q e; omega) (by simp; omega))
          clear hgrow jR hB hr
          go_roundw
          case rel => exact ⟨k + 1, by omega, by go_num, hown', kB⟩
          case measure => simp [intOf]; omega
    · have hkn : n = k := by omega
      subst hkn
      go_wp2
      go_ret
      exact ⟨u7, rfl, jR, hB⟩

def wstT (p : Pl) (best : Bool) (I0 I1 C0 C1 : Nat → Int) (L : Nat → Ld) (a : Int) : Tr :=
  ⟨endV best p.s0 p.s1, fun i => endV best (I0 i) (I1 i), fun i => mvV (!best) a (C0 i) (C1 i), fun i => endV (!best) (L i).w0 (L i).w1⟩
theorem mv_near {a c0 c1 : Int} (h : c0 ≤ c1) : farV (mvV true a c0 c1) a = awayL c0 c1 a := by
  unfold mvV farV awayL
  simp only [if_true]
  by_cases h1 : a ≤ c0
  · rw [Int.max_eq_right h1, Int.min_eq_left h]
    rw [Int.max_eq_left (by omega : a - c0 ≤ c0 - a), Int.max_eq_right (by omega : (0:Int) ≤ c0 - a), Int.max_eq_left (by omega)]
  · rw [Int.max_eq_left (by omega : c0 ≤ a)]
    by_cases h2 : a ≤ c1
    · rw [Int.min_eq_left h2, Int.max_eq_left (by omega : a - a ≤ a - a), Int.max_eq_left (by omega : c0 - a ≤ 0), Int.max_eq_left (by omega)]
      omega
    · rw [Int.min_eq_right (by omega), Int.max_eq_right (by omega : c1 - a ≤ a - c1), Int.max_eq_left (by omega : c0 - a ≤ 0), Int.max_eq_right (by omega)]
theorem far_spec (a b : Int) : a - b ≤ farV a b ∧ b - a ≤ farV a b ∧ (farV a b = a - b ∨ farV a b = b - a) := by
  unfold farV
  refine ⟨Int.le_max_left _ _, Int.le_max_right _ _, ?_⟩
  by_cases h : a - b ≤ b - a
  · rw [Int.max_eq_right h]; omega
  · rw [Int.max_eq_left (by omega)]; omega
theorem mv_far {a c0 c1 : Int} (h : c0 ≤ c1) : farV (mvV false a c0 c1) a = awayH c0 c1 a := by
  have s0 := far_spec a c0
  have s1 := far_spec a c1
  have s2 := awayH_spec c0 c1 a
  have t0 := far_spec c0 a
  have t1 := far_spec c1 a
  unfold mvV
  simp only [Bool.false_eq_true, if_false]
  by_cases hf : farV a c1 < farV a c0
  · rw [if_pos hf]; omega
  · rw [if_neg hf]; omega
theorem anyV_congr {f g : Nat → Bool} : ∀ n, (∀ i, i < n → f i = g i) → anyV f n = anyV g n
  | 0, _ => rfl
  | n + 1, h => by rw [anyV, anyV, anyV_congr n (fun i hi => h i (by omega)), h n (by omega)]
theorem wst_borne {p : Pl} (best : Bool) {I0 I1 : Nat → Int} {nc : Nat} {C0 C1 : Nat → Int} (hC : ∀ j, j < nc → C0 j ≤ C1 j) {n : Nat} {L : Nat → Ld} {x : Ld} :
    borneT p (wstT p best I0 I1 C0 C1 L x.me) nc n L x = bearsV p best I0 I1 nc C0 C1 n L x := by
  have hn : nearT p (wstT p best I0 I1 C0 C1 L x.me) nc x.me = nearV p best nc C0 C1 x.me := anyV_congr nc fun j hj => by
    cases best with
    | true => simp only [wstT, Bool.not_true, endV, if_true]; rw [mv_far (hC j hj)]
    | false => simp only [wstT, Bool.not_false, endV, Bool.false_eq_true, if_false]; rw [mv_near (hC j hj)]
  unfold borneT bearsV thickT thickV limV
  rw [hn]
  rfl
end Go.Proofs.Ytfakmggabicdjaa
