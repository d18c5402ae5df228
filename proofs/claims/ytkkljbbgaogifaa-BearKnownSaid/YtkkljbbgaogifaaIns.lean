/-
  sastrugilaw03.inside, weights.
-/
import Derived.Test.YtkkljbbgaogifaaMade
import Derived.Test.YtkkljbbgaogifaaBorne
set_option linter.unusedVariables false
set_option linter.unusedSimpArgs false
namespace Go.Proofs.Ytkkljbbgaogifaa
open Go.RowKit

set_option maxRecDepth 100000 in
set_option maxHeartbeats 4000000 in
theorem kinside_in (base n : Nat) (v : Value) (A B : Nat → Int) (hn : n ≤ 1000) (hAB : ∀ i, i < n → -1000000000000 ≤ A i ∧ A i ≤ B i ∧ B i ≤ 1000000000000) (bs : Nat) (hbb : bs < base) (w : World) (hs : SeedAt bs w) (hR0 : w.ownsRow base 23 2 v n (catC (pairC A B) n)) :
    Calls Try.prog 56 #[.pointer (some ⟨bs, 0, none⟩), v] w fun e w' => ∃ (u : Value) (x : Nat → Int), e = .returned u ∧ (∀ i, i < n → A i ≤ x i ∧ x i ≤ B i) ∧ w'.ownsRow w.heap.size 3 1 u n (catC (intC x) n) ∧ Drawn bs w w' := by
  have hbs : bs < w.heap.size := hs.choose_spec.lt
  obtain ⟨aV, cV, rfl, hc1, hc2, hc3⟩ := pairs_of_row hR0
  obtain ⟨i0, hi0, hz0, hz1, hz2⟩ := info_parts Try.infoInt
  have hA := Drawn.refl hs
  have jR := World.ownsRow_nil w w.heap.size 3 1
  clear hc3
  go_enter Try.func56, Try.ntmps56
  go_wp2_with fail
  go_loopw [5, 6] (fun l i wr => ∃ (k : Nat) (x : Nat → Int), i = .int .i64 k ∧ k ≤ n ∧ (∀ i, i < k → A i ≤ x i ∧ x i ≤ B i) ∧ wr.ownsRow w.heap.size 3 1 l k (catC (intC x) k) ∧ Drawn bs w wr ∧ w.heap.size ≤ wr.heap.size) (fun _ i _ => n - (intOf i).toNat)
  case atStart => exact ⟨0, fun _ => 0, rfl, Nat.zero_le _, fun i hi => by omega, jR, hA, Nat.le_refl _⟩
  case round =>
    clear hA jR
    obtain ⟨k, x, rfl, hk, hT, jR, hA, zB⟩ := hrel
    have jV := hA.row hR0 hbb
    clear hR0
    by_cases hlt2 : k < n
    · obtain ⟨aV2, cV2, hv2, _, _, hc3⟩ := pairs_of_row jV
      simp only [Value.slice.injEq] at hv2
      obtain ⟨rfl, _, rfl⟩ := hv2
      obtain ⟨b, o, rfl, hc⟩ := hc3 (by omega)
      obtain ⟨a0, a1⟩ := hc k hlt2
      clear hc hc3
      have hq := hAB k hlt2
      have z0 := World.block_lt_of_cell? _ _ a0
      have HI := Lib.hid (inside_in (A k) (B k) bs _ hA.seed (by omega) (by omega) (by omega))
      go_wp2_with fail
      clear a0 a1 z0
      refine HI.out.mono ?_
      rintro e w2 ⟨y, rfl, y0, y1, hd⟩
      replace jR := hd.row jR hbs
      clear jV
      replace zB := Nat.le_trans zB hd.2.size
      replace hA := hA.trans hd
      clear hd HI
      have hr : ∀ z, u5.ownBlock = some z → w.heap.size ≤ z := fun z e => (jR.lt z e).1
      go_wp2_with (at_builtin; refine wpList_append_own_at _ rfl _ _ 27 rfl w.heap.size 3 i0 (.int .i64 0) 1 8 Try.underlying27 hi0 hz0 hz1 hz2 rfl (by decide) _ _ _ rfl (jR.alloc _) ⟨w2.heap.size, 0, none⟩ 1 1 [.int .i64 y] rfl rfl (news1 _ _ _) (one1 _) (by unfold maxLen; omega) (by omega) (by simp; omega) ?_; intro v' w9 hown' hgrow _ _; rw [← intC_up] at hown'; have kA := (hA.new (.cells #[.int .i64 y] 3)).grown hgrow (fun q e => by have := hr q e; omega) hbs; have kZ : w.heap.size ≤ w9.heap.size := (by have := hgrow.size; simp at this; omega))
      clear hgrow jR hA zB hr
      go_roundw
      case rel => exact ⟨k + 1, upI x k y, by go_num, by omega, fun i hi => by
          by_cases e : i = k
          · subst e; rw [upI_at]; exact ⟨y0, y1⟩
          · rw [upI_ne _ _ _ _ e]; exact hT i (by omega), hown', kA, kZ⟩
      case measure => simp [intOf]; omega
    · have hkn : n = k := by omega
      subst hkn
      go_wp2
      go_ret
      exact ⟨u5, x, rfl, hT, jR, hA⟩

set_option maxRecDepth 100000 in
set_option maxHeartbeats 4000000 in
theorem kweights_any (n : Nat) (v : Value) (L : Nat → Ld) (hn : n ≤ 1000) (w : World) (hL : LoadsAt w v n L) :
    Calls Try.prog 57 #[v] w fun e w' => ∃ u, e = .returned u ∧ w'.ownsRow w.heap.size 23 2 u n (catC (pairC (fun i => (L i).w0) (fun i => (L i).w1)) n) ∧ Below w.heap.size w w' := by
  obtain ⟨aV, cV, rfl, hc1, hc2, h3⟩ := hL
  have H3 := Lib.hid h3
  obtain ⟨i0, hi0, hz0, hz1, hz2⟩ := info_parts Try.infoSpan
  have jR := World.ownsRow_nil w w.heap.size 23 2
  clear h3
  have HC : Hid (∀ k, catC (pairC (fun i => (L i).w0) (fun i => (L i).w1)) (k + 1) = catC (pairC (fun i => (L i).w0) (fun i => (L i).w1)) k ++ [.int .i64 (L k).w0, .int .i64 (L k).w1]) := fun k => rfl
  have HC0 : Hid (catC (pairC (fun i => (L i).w0) (fun i => (L i).w1)) 0 = []) := rfl
  generalize hX : (fun k => catC (pairC (fun i => (L i).w0) (fun i => (L i).w1)) k) = X
  have HX : Hid (∀ k, X k = catC (pairC (fun i => (L i).w0) (fun i => (L i).w1)) k) := fun k => by rw [← hX]
  rw [← HX.out n]
  have HC1 : Hid (∀ k, X (k + 1) = X k ++ [.int .i64 (L k).w0, .int .i64 (L k).w1]) := fun k => by rw [HX.out, HX.out, HC.out]
  have HC2 : X 0 = [] := by rw [HX.out, HC0.out]
  clear hX HX HC HC0
  go_enter Try.func57, Try.ntmps57
  go_wp2_with fail
  go_loopw [3, 4] (fun l i wr => ∃ (k : Nat), i = .int .i64 k ∧ k ≤ n ∧ wr.ownsRow w.heap.size 23 2 l k (X k) ∧ Below w.heap.size w wr) (fun _ i _ => n - (intOf i).toNat)
  case atStart => exact ⟨0, rfl, Nat.zero_le _, by rw [HC2]; exact jR, Below.refl _ _⟩
  case round =>
    clear jR HC2
    obtain ⟨k, rfl, hk, jR, hB⟩ := hrel
    by_cases hlt2 : k < n
    · obtain ⟨b, o, ha, hc⟩ := H3.out (by omega)
      subst ha
      obtain ⟨a0, a1, a2, a3⟩ := hc k hlt2
      clear hc
      replace a0 := cell_later hB a0
      replace a1 := cell_later hB a1
      replace a2 := cell_later hB a2
      replace a3 := cell_later hB a3
      have z0 := World.block_lt_of_cell? _ _ a0
      have zB := hB.size
      have HCk := Lib.hid (HC1.out k)
      generalize (L k).w0 = p at a1 HCk
      generalize (L k).w1 = q at a2 HCk
      have hr : ∀ z, u3.ownBlock = some z → w.heap.size ≤ z := fun z e => (jR.lt z e).1
      go_wp2_with (at_builtin; refine wpList_append_own_at _ rfl _ _ 42 rfl w.heap.size 23 i0 (.agg #[.int .i64 0, .int .i64 0]) 2 16 Try.underlying42 hi0 hz0 hz1 hz2 rfl (by decide) _ _ _ rfl (jR.alloc _) ⟨wr.heap.size, 0, none⟩ 1 1 [.int .i64 p, .int .i64 q] rfl rfl (news2 _ _ _ _) (one2 _ _) (by unfold maxLen; omega) (by omega) (by simp; omega) ?_; intro v' w9 hown' hgrow _ _; rw [← HCk.out] at hown'; have kB := below_grown (bwA hB (Nat.le_refl _) (.cells #[.int .i64 p, .int .i64 q] 23)) hgrow (fun q e => by have := hr q e; omega) (by simp; omega))
      clear hgrow jR hB zB hr a0 a1 a2 a3 z0
      go_roundw
      case rel => exact ⟨k + 1, by go_num, by omega, hown', kB⟩
      case measure => simp [intOf]; omega
    · have hkn : n = k := by omega
      subst hkn
      go_wp2
      go_ret
      exact ⟨u3, rfl, jR, hB⟩
end Go.Proofs.Ytkkljbbgaogifaa
