/-
  The kit's Parts; a store into a list of loads of one's own.
-/
import Derived.Test.YtkkljbbgaogifaaIns
set_option linter.unusedVariables false
set_option linter.unusedSimpArgs false
namespace Go.Proofs.Ytkkljbbgaogifaa
open Go.RowKit

set_option maxRecDepth 100000 in
set_option maxHeartbeats 4000000 in
theorem kparts_in (base n : Nat) (v : Value) (A B : Nat → Int) (hn : n ≤ 1000) (hAB : ∀ i, i < n → -1000000000000 ≤ A i ∧ A i ≤ B i ∧ B i ≤ 1000000000000) (bs : Nat) (hbb : bs < base) (w : World) (hs : SeedAt bs w) (hR0 : w.ownsRow base 23 2 v n (catC (pairC A B) n)) :
    Calls Try.prog 62 #[.pointer (some ⟨bs, 0, none⟩), v] w fun e w' => ∃ (u : Value) (x y : Nat → Int), e = .returned u ∧ (∀ i, i < n → A i ≤ x i ∧ x i ≤ y i ∧ y i ≤ B i) ∧ w'.ownsRow w.heap.size 23 2 u n (catC (pairC x y) n) ∧ Drawn bs w w' := by
  have hbs : bs < w.heap.size := hs.choose_spec.lt
  obtain ⟨aV, cV, rfl, hc1, hc2, hc3⟩ := pairs_of_row hR0
  obtain ⟨i0, hi0, hz0, hz1, hz2⟩ := info_parts Try.infoSpan
  have hA := Drawn.refl hs
  have jR := World.ownsRow_nil w w.heap.size 23 2
  clear hc3
  go_enter Try.func62, Try.ntmps62
  go_wp2_with fail
  go_loopw [5, 6] (fun l i wr => ∃ (k : Nat) (x y : Nat → Int), i = .int .i64 k ∧ k ≤ n ∧ (∀ i, i < k → A i ≤ x i ∧ x i ≤ y i ∧ y i ≤ B i) ∧ wr.ownsRow w.heap.size 23 2 l k (catC (pairC x y) k) ∧ Drawn bs w wr ∧ w.heap.size ≤ wr.heap.size) (fun _ i _ => n - (intOf i).toNat)
  case atStart => exact ⟨0, fun _ => 0, fun _ => 0, rfl, Nat.zero_le _, fun i hi => by omega, jR, hA, Nat.le_refl _⟩
  case round =>
    clear hA jR
    obtain ⟨k, x, y, rfl, hk, hT, jR, hA, zB⟩ := hrel
    have jV := hA.row hR0 hbb
    clear hR0
    by_cases hlt2 : k < n
    · obtain ⟨aV2, cV2, hv2, _, _, hc3⟩ := pairs_of_row jV
      simp only [Value.slice.injEq] at hv2
      obtain ⟨rfl, _, rfl⟩ := hv2
      obtain ⟨b, o, rfl, hc⟩ := hc3 (by omega)
      obtain ⟨a0, a1⟩ := hc k hlt2
      clear hc hc3
      have hq := hAB k hlt2
      have z0 := World.block_lt_of_cell? _ _ a0
      have HI := Lib.hid (kpart_in (A k) (B k) bs _ hA.seed (by omega) (by omega) (by omega))
      go_wp2_with fail
      clear a0 a1 z0
      refine HI.out.mono ?_
      rintro e w2 ⟨p, q, rfl, y0, y1, y2, hd⟩
      replace jR := hd.row jR hbs
      clear jV
      replace zB := Nat.le_trans zB hd.2.size
      replace hA := hA.trans hd
      clear hd HI
      have hr : ∀ z, u5.ownBlock = some z → w.heap.size ≤ z := fun z e => (jR.lt z e).1
      go_wp2_with (at_builtin; refine wpList_append_own_at _ rfl _ _ 42 rfl w.heap.size 23 i0 (.agg #[.int .i64 0, .int .i64 0]) 2 16 Try.underlying42 hi0 hz0 hz1 hz2 rfl (by decide) _ _ _ rfl (jR.alloc _) ⟨w2.heap.size, 0, none⟩ 1 1 [.int .i64 p, .int .i64 q] rfl rfl (news2 _ _ _ _) (one2 _ _) (by unfold maxLen; omega) (by omega) (by simp; omega) ?_; intro v' w9 hown' hgrow _ _; rw [← pairC_up] at hown'; have kA := (hA.new (.cells #[.int .i64 p, .int .i64 q] 23)).grown hgrow (fun q e => by have := hr q e; omega) hbs; have kZ : w.heap.size ≤ w9.heap.size := (by have := hgrow.size; simp at this; omega))
      clear hgrow jR hA zB hr
      go_roundw
      case rel => exact ⟨k + 1, upI x k p, upI y k q, by go_num, by omega, fun i hi => by
          by_cases e : i = k
          · subst e; rw [upI_at, upI_at]; exact ⟨y0, y1, y2⟩
          · rw [upI_ne _ _ _ _ e, upI_ne _ _ _ _ e]; exact hT i (by omega), hown', kA, kZ⟩
      case measure => simp [intOf]; omega
    · have hkn : n = k := by omega
      subst hkn
      go_wp2
      go_ret
      exact ⟨u5, x, y, rfl, hT, jR, hA⟩

theorem catC_set (C D : Nat → List Value) (s : Nat) (hC : ∀ i, (C i).length = s) (hD : ∀ i, (D i).length = s) (hs : 0 < s) (k j : Nat) (hj : j < s) (u : Value) (hne : ∀ i, i ≠ k → D i = C i) (hk : D k = (C k).set j u) (n : Nat) (hkn : k < n) :
    (catC C n).set (k * s + j) u = catC D n := by
  have e1 := catC_len C s hC n
  have e2 := catC_len D s hD n
  have hlt : k * s + j < n * s := by
    have : (k + 1) * s ≤ n * s := Nat.mul_le_mul (by omega) (Nat.le_refl s)
    rw [Nat.add_mul] at this
    omega
  apply List.ext_getElem?
  intro i
  by_cases hi : i < n * s
  · have h1 : i / s < n := (Nat.div_lt_iff_lt_mul hs).2 hi
    have h2 : i % s < s := Nat.mod_lt _ hs
    have h3 : i = i / s * s + i % s := by rw [Nat.mul_comm]; exact (Nat.div_add_mod i s).symm
    have q2 := catC_at D s hD (i / s) (i % s) h2 n h1
    rw [← h3] at q2
    rw [q2]
    by_cases he : i = k * s + j
    · rw [he, List.getElem?_set_self (by omega)]
      have d1 : (k * s + j) / s = k := by rw [Nat.add_comm, Nat.add_mul_div_right _ _ hs, Nat.div_eq_of_lt hj, Nat.zero_add]
      have d2 : (k * s + j) % s = j := by rw [Nat.add_comm, Nat.add_mul_mod_self_right, Nat.mod_eq_of_lt hj]
      rw [d1, d2, hk, List.getElem?_set_self (by rw [hC]; exact hj)]
    · rw [List.getElem?_set_ne (fun e => he e.symm)]
      have q1 := catC_at C s hC (i / s) (i % s) h2 n h1
      rw [← h3] at q1
      rw [q1]
      by_cases hik : i / s = k
      · rw [hik, hk, List.getElem?_set_ne]
        intro e
        apply he
        rw [h3, hik, ← e]
      · rw [hne _ hik]
  · rw [List.getElem?_eq_none (by rw [List.length_set]; omega), List.getElem?_eq_none (by omega)]

theorem row_at_set {W : World} {base s : Nat} {t : TypeId} {b n cap : Nat} {xs : List Value} (h : W.ownsRow base t s (.slice (some ⟨b, 0, none⟩) n cap) n xs) (j : Nat) (hj : j < n * s) (u : Value) :
    (W.setCell ⟨b, j, none⟩ u).ownsRow base t s (.slice (some ⟨b, 0, none⟩) n cap) n (xs.set j u) := by
  obtain ⟨hl, h2⟩ := h
  refine ⟨by rw [List.length_set]; exact hl, ?_⟩
  rcases h2 with ⟨hv, _⟩ | ⟨g, cap', cur, hv, hg, hc, hn, hm, hz, ht⟩
  · simp at hv
  · simp only [Value.slice.injEq, Option.some.injEq, Addr.mk.injEq, and_true, true_and] at hv
    obtain ⟨rfl, rfl⟩ := hv
    have k : Blk W b cur t := hc
    refine .inr ⟨b, cap, cur.setIfInBounds j u, rfl, hg, k.set j u, hn, hm, by simpa using hz, ?_⟩
    rw [← ht]
    simp [List.take_set]
theorem row_setL {W : World} {base : Nat} {b n cap : Nat} {t : TypeId} {L : Nat → Ld} (h : W.ownsRow base t 4 (.slice (some ⟨b, 0, none⟩) n cap) n (catC (loadC L) n)) (k : Nat) (hk : k < n) (p q : Int) :
    ((W.setCell ⟨b, k * 4 + 1, none⟩ (.int .i64 p)).setCell ⟨b, k * 4 + 2, none⟩ (.int .i64 q)).ownsRow base t 4 (.slice (some ⟨b, 0, none⟩) n cap) n (catC (loadC (upL L k ⟨(L k).me, p, q, (L k).st⟩)) n) := by
  have h1 := row_at_set h (k * 4 + 1) (by omega) (.int .i64 p)
  rw [catC_set (loadC L) (loadC (upL L k ⟨(L k).me, p, (L k).w1, (L k).st⟩)) 4 (fun _ => rfl) (fun _ => rfl) (by decide) k 1 (by decide) _ (fun i hi => by simp only [loadC, upL_ne _ _ _ _ hi]) (by simp only [loadC, upL_at]; rfl) n hk] at h1
  have h2 := row_at_set h1 (k * 4 + 2) (by omega) (.int .i64 q)
  rw [catC_set (loadC (upL L k ⟨(L k).me, p, (L k).w1, (L k).st⟩)) (loadC (upL L k ⟨(L k).me, p, q, (L k).st⟩)) 4 (fun _ => rfl) (fun _ => rfl) (by decide) k 2 (by decide) _ (fun i hi => by simp only [loadC, upL_ne _ _ _ _ hi]) (by simp only [loadC, upL_at]; rfl) n hk] at h2
  exact h2
end Go.Proofs.Ytkkljbbgaogifaa
