/-
  The kit's TableOf: a valid table.
-/
import Derived.Test.YtkkljbbgaogifaaRow
set_option linter.unusedVariables false
set_option linter.unusedSimpArgs false
namespace Go.Proofs.Ytkkljbbgaogifaa
open Go.RowKit

theorem row_one2 (W : World) (base : Nat) (hb : base ≤ W.heap.size) (a b : Int) (t : TypeId) : (W.alloc (.cells #[.int .i64 a, .int .i64 b] t)).ownsRow base t 2 (.slice (some ⟨W.heap.size, 0, none⟩) 1 1) 1 [.int .i64 a, .int .i64 b] :=
  ⟨rfl, .inr ⟨W.heap.size, 1, #[.int .i64 a, .int .i64 b], rfl, hb, Blk.new W _ _, by omega, by unfold maxLen; omega, rfl, rfl⟩⟩

structure TabSo (k : Nat) (F P : Nat → Int) (at' part : Int) : Prop where
  k1 : 1 ≤ k
  f0 : F 0 = 0
  p0 : P 0 = 1000000
  each : ∀ i, i < k → 0 ≤ F i ∧ F i ≤ 500 * (i : Int) ∧ 0 ≤ P i ∧ P i ≤ 1000000
  next : ∀ i, i + 1 < k → F i < F (i + 1) ∧ P (i + 1) ≤ P i
  lastF : F (k - 1) = at'
  lastP : P (k - 1) = part
theorem TabSo.step {k : Nat} {F P : Nat → Int} {a q : Int} (h : TabSo k F P a q) (t q' : Int) (t1 : 1 ≤ t) (t2 : t ≤ 500) (q0 : 0 ≤ q') (q1 : q' ≤ q) : TabSo (k + 1) (upI F k (a + t)) (upI P k q') (a + t) q' := by
  obtain ⟨k1, f0, p0, each, next, lF, lP⟩ := h
  have el := each (k - 1) (by omega)
  rw [lF, lP] at el
  refine ⟨by omega, by rw [upI_ne _ _ _ _ (by omega)]; exact f0, by rw [upI_ne _ _ _ _ (by omega)]; exact p0, fun i hi => ?_, fun i hi => ?_, ?_, ?_⟩
  · by_cases e : i = k
    · subst e
      rw [upI_at, upI_at]
      omega
    · rw [upI_ne _ _ _ _ e, upI_ne _ _ _ _ e]
      exact each i (by omega)
  · rw [upI_ne _ _ _ _ (show i ≠ k by omega), upI_ne _ _ _ _ (show i ≠ k by omega)]
    by_cases e : i + 1 = k
    · rw [e, upI_at, upI_at]
      obtain rfl : i = k - 1 := by omega
      rw [lF, lP]
      omega
    · rw [upI_ne _ _ _ _ e, upI_ne _ _ _ _ e]
      exact next i (by omega)
  · rw [show k + 1 - 1 = k by omega, upI_at]
  · rw [show k + 1 - 1 = k by omega, upI_at]
theorem TabSo.ok {k : Nat} {F P : Nat → Int} {a q : Int} (h : TabSo k F P a q) (hk : k ≤ 5) : Tab.Ok ⟨k, F, P⟩ :=
  ⟨h.k1, by simp only; omega, h.f0, h.p0, fun i hi => by have := h.each i hi; simp only at hi ⊢; omega, h.next⟩

set_option maxRecDepth 100000 in
set_option maxHeartbeats 8000000 in
theorem tableof_in (far : Int) (hf : 4 ≤ far ∧ far ≤ 2000) (bs : Nat) (w : World) (hs : SeedAt bs w) :
    Calls Try.prog 71 #[.pointer (some ⟨bs, 0, none⟩), .int .i64 far] w fun e w' => ∃ (t : Tab) (v : Value), e = .returned v ∧ t.Ok ∧ w'.ownsRow w.heap.size 68 2 v t.n (catC (pairC t.F t.P) t.n) ∧ Drawn bs w w' := by
  have hbs : bs < w.heap.size := hs.choose_spec.lt
  have hq : 1 ≤ far / 4 ∧ far / 4 ≤ 500 := by omega
  have eq4 : IntKind.i64.wrap (far.tdiv 4) = far / 4 := by rw [Int.tdiv_eq_ediv_of_nonneg (by omega)]; exact IntWalk.i64_in _ (by omega)
  generalize far / 4 = fq at hq eq4
  obtain ⟨i0, hi0, hz0, hz1, hz2⟩ := info_parts Try.infoShare
  have hA := Drawn.alloc hs (.cells #[.int .i64 0, .int .i64 1000000] 68)
  have jR := row_one2 w w.heap.size (Nat.le_refl _) 0 1000000 68
  go_enter Try.func71, Try.ntmps71
  go_wp2_with fail
  refine (below_in 5 bs _ hA.seed (by omega)).mono ?_
  rintro e w1 ⟨c, rfl, c0, c1, hd⟩
  have c2 : c ≤ 4 := by omega
  replace jR := hd.row jR hbs
  replace hA := hA.trans hd
  clear hd c1
  have zB : w.heap.size ≤ w1.heap.size := hA.2.size
  obtain ⟨c, rfl⟩ := Int.eq_ofNat_of_zero_le c0
  have hT0 : TabSo 1 (fun _ => 0) (fun _ => 1000000) 0 1000000 := ⟨by omega, rfl, rfl, fun i hi => by omega, fun i hi => by omega, rfl, rfl⟩
  go_wp2_with fail
  go_loopw [5, 6, 7, 8] (fun l a q i wr => ∃ (k j : Nat) (av pv : Int) (F P : Nat → Int), a = .int .i64 av ∧ q = .int .i64 pv ∧ i = .int .i64 j ∧ k + j ≤ 5 ∧ TabSo k F P av pv ∧ wr.ownsRow w.heap.size 68 2 l k (catC (pairC F P) k) ∧ Drawn bs w wr ∧ w.heap.size ≤ wr.heap.size) (fun _ _ _ i _ => (intOf i).toNat)
  case atStart => exact ⟨1, c, 0, 1000000, _, _, rfl, rfl, rfl, by omega, hT0, jR, hA, zB⟩
  case round =>
    obtain ⟨k, j, av, pv, F, P, rfl, rfl, rfl, hkj, hT, jR, hA, zB⟩ := hrel
    by_cases hj : 0 < j
    · obtain ⟨j, rfl⟩ : ∃ i, j = i + 1 := ⟨j - 1, by omega⟩
      have hel := hT.each (k - 1) (by have := hT.k1; omega)
      rw [hT.lastF, hT.lastP] at hel
      have hk1 := hT.k1
      go_wp2_with fail
      refine (from_in 1 fq bs _ hA.seed (by omega) (by omega) (by omega) (by omega)).mono ?_
      rintro e w2 ⟨t, rfl, t1, t2, hd⟩
      replace t2 : t ≤ 500 := by omega
      replace jR := hd.row jR hbs
      replace hA := hA.trans hd
      replace zB := Nat.le_trans zB hd.2.size
      clear hd
      have ea : IntKind.i64.wrap (av + t) = av + t := IntWalk.i64_in _ (by omega)
      go_wp2_with fail
      refine (from_in 0 pv bs _ hA.seed (by omega) (by omega) (by omega) (by omega)).mono ?_
      rintro e w3 ⟨f1, rfl, f10, f11, hd⟩
      replace f11 : f1 ≤ pv := by omega
      replace jR := hd.row jR hbs
      replace hA := hA.trans hd
      replace zB := Nat.le_trans zB hd.2.size
      clear hd
      go_wp2_with fail
      refine (from_in 0 pv bs _ hA.seed (by omega) (by omega) (by omega) (by omega)).mono ?_
      rintro e w4 ⟨f2, rfl, f20, f21, hd⟩
      replace f21 : f2 ≤ pv := by omega
      replace jR := hd.row jR hbs
      replace hA := hA.trans hd
      replace zB := Nat.le_trans zB hd.2.size
      clear hd
      go_wp2_with fail
      refine (of4_in 0 pv f1 f2 0 pv bs _ hA.seed (by omega) (by omega) (by omega) (by omega) (by omega) (by omega) (by omega) (by omega)).mono ?_
      rintro e w5 ⟨q', rfl, q0, q1, hd⟩
      replace jR := hd.row (jR.alloc _) hbs
      replace zB : w.heap.size ≤ w5.heap.size := by have := hd.2.size; simp at this; omega
      replace hA := (hA.new _).trans hd
      clear hd
      have hr : ∀ z, u5.ownBlock = some z → w.heap.size ≤ z := fun z e => (jR.lt z e).1
      go_wp2_with (at_builtin; refine wpList_append_own_at _ rfl _ _ 24 rfl w.heap.size 68 i0 (.agg #[.int .i64 0, .int .i64 0]) 2 16 Try.underlying24 hi0 hz0 hz1 hz2 rfl (by decide) _ _ _ rfl (jR.alloc _) ⟨w5.heap.size, 0, none⟩ 1 1 [.int .i64 (av + t), .int .i64 q'] rfl rfl (news2 _ _ _ _) (one2 _ _) (by unfold maxLen; omega) (by omega) (by simp; omega) ?_; intro v' w6 hown' hgrow _ _; rw [← pairC_up] at hown'; have kA := (hA.new (.cells #[.int .i64 (av + t), .int .i64 q'] 68)).grown hgrow (fun q e => by have := hr q e; omega) hbs; have kZ : w.heap.size ≤ w6.heap.size := (by have := hgrow.size; simp at this; omega))
      clear hgrow jR hA zB hr
      go_roundw
      case rel => exact ⟨k + 1, j, _, _, _, _, rfl, rfl, by go_num, by omega, hT.step t q' t1 t2 q0 q1, hown', kA, kZ⟩
      case measure => simp [intOf]
    · obtain rfl : j = 0 := by omega
      go_wp2
      go_ret
      exact ⟨⟨k, F, P⟩, u5, rfl, hT.ok (by omega), jR, hA⟩
end Go.Proofs.Ytkkljbbgaogifaa
