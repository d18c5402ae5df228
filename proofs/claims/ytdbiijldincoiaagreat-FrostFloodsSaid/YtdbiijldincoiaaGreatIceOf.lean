/-
  The kit's IceOf.
-/
import Derived.Test.YtdbiijldincoiaaGreatSpan
set_option linter.unusedVariables false
set_option linter.unusedSimpArgs false
namespace Go.Proofs.YtdbiijldincoiaaGreat
open Go.RowKit

theorem of2_in (a b lo hi : Int) (bs : Nat) (w : World) (l : Nat) (hl : l = w.heap.size) (hs : SeedAt bs w) (a1 : lo ≤ a) (a2 : a ≤ hi) (b1 : lo ≤ b) (b2 : b ≤ hi) :
    Calls Tryz.prog 34 #[.pointer (some ⟨bs, 0, none⟩), .slice (some ⟨l, 0, none⟩) 2 2] (w.alloc (.cells #[.int .i64 a, .int .i64 b] 3)) fun e w' => ∃ v, e = .returned (.int .i64 v) ∧ lo ≤ v ∧ v ≤ hi ∧ Drawn bs (w.alloc (.cells #[.int .i64 a, .int .i64 b] 3)) w' := by
  subst hl
  have hlt : bs < w.heap.size := hs.choose_spec.lt
  have hk := Blk.new w #[.int .i64 a, .int .i64 b] 3
  refine (of_in w.heap.size 0 2 2 (fun i => match i with | 0 => a | _ => b) bs _ (Drawn.alloc hs _).seed (by omega) (by decide) (by decide) (fun i hi => ?_)).mono ?_
  · match i, hi with
    | 0, _ => exact hk.cell _ rfl
    | 1, _ => exact hk.cell _ rfl
  · rintro e w' ⟨i, hi, he, hd⟩
    match i, hi with
    | 0, _ => exact ⟨a, he, a1, a2, hd⟩
    | 1, _ => exact ⟨b, he, b1, b2, hd⟩

theorem of3_in (a b c lo hi : Int) (bs : Nat) (w : World) (l : Nat) (hl : l = w.heap.size) (hs : SeedAt bs w) (a1 : lo ≤ a) (a2 : a ≤ hi) (b1 : lo ≤ b) (b2 : b ≤ hi) (c1 : lo ≤ c) (c2 : c ≤ hi) :
    Calls Tryz.prog 34 #[.pointer (some ⟨bs, 0, none⟩), .slice (some ⟨l, 0, none⟩) 3 3] (w.alloc (.cells #[.int .i64 a, .int .i64 b, .int .i64 c] 3)) fun e w' => ∃ v, e = .returned (.int .i64 v) ∧ lo ≤ v ∧ v ≤ hi ∧ Drawn bs (w.alloc (.cells #[.int .i64 a, .int .i64 b, .int .i64 c] 3)) w' := by
  subst hl
  have hlt : bs < w.heap.size := hs.choose_spec.lt
  have hk := Blk.new w #[.int .i64 a, .int .i64 b, .int .i64 c] 3
  refine (of_in w.heap.size 0 3 3 (fun i => match i with | 0 => a | 1 => b | _ => c) bs _ (Drawn.alloc hs _).seed (by omega) (by decide) (by decide) (fun i hi => ?_)).mono ?_
  · match i, hi with
    | 0, _ => exact hk.cell _ rfl
    | 1, _ => exact hk.cell _ rfl
    | 2, _ => exact hk.cell _ rfl
  · rintro e w' ⟨i, hi, he, hd⟩
    match i, hi with
    | 0, _ => exact ⟨a, he, a1, a2, hd⟩
    | 1, _ => exact ⟨b, he, b1, b2, hd⟩
    | 2, _ => exact ⟨c, he, c1, c2, hd⟩

theorem Drawn.set8 {bs : Nat} {w v : World} (h : Drawn bs w v) {b : Nat} (hp : w.heap.size ≤ b) (hb : bs < w.heap.size) (u0 u1 u2 u3 u4 u5 u6 u7 : Value) :
    Drawn bs w ((((((((v.setCell ⟨b, 0, none⟩ u0).setCell ⟨b, 1, none⟩ u1).setCell ⟨b, 2, none⟩ u2).setCell ⟨b, 3, none⟩ u3).setCell ⟨b, 4, none⟩ u4).setCell ⟨b, 5, none⟩ u5).setCell ⟨b, 6, none⟩ u6).setCell ⟨b, 7, none⟩ u7) :=
  (((((((h.set (p := ⟨b, 0, none⟩) hp hb u0).set (p := ⟨b, 1, none⟩) hp hb u1).set (p := ⟨b, 2, none⟩) hp hb u2).set (p := ⟨b, 3, none⟩) hp hb u3).set (p := ⟨b, 4, none⟩) hp hb u4).set (p := ⟨b, 5, none⟩) hp hb u5).set (p := ⟨b, 6, none⟩) hp hb u6).set (p := ⟨b, 7, none⟩) hp hb u7

structure Ic.Kit (x : Ic) : Prop where
  b : 0 ≤ x.b0 ∧ x.b0 ≤ x.b1 ∧ x.b1 ≤ 1200
  w : 0 ≤ x.w0 ∧ x.w0 ≤ x.w1 ∧ x.w1 ≤ 200
  q : 0 ≤ x.q0 ∧ x.q0 ≤ x.q1 ∧ x.q1 ≤ 60
  s : 0 ≤ x.s0 ∧ x.s0 ≤ x.s1 ∧ x.s1 ≤ 400

set_option maxRecDepth 100000 in
set_option maxHeartbeats 4000000 in
theorem iceof_in (bs : Nat) (w : World) (hs : SeedAt bs w) :
    Calls Tryz.prog 10 #[.pointer (some ⟨bs, 0, none⟩)] w fun e w' => ∃ x : Ic, e = .returned (.agg #[.int .i64 x.b0, .int .i64 x.b1, .int .i64 x.w0, .int .i64 x.w1, .int .i64 x.q0, .int .i64 x.q1, .int .i64 x.s0, .int .i64 x.s1]) ∧ x.Kit ∧ Drawn bs w w' := by
  have hbs : bs < w.heap.size := hs.choose_spec.lt
  have hA := Drawn.alloc hs (.cells #[.int .i64 0, .int .i64 0, .int .i64 0, .int .i64 0, .int .i64 0, .int .i64 0, .int .i64 0, .int .i64 0] 28)
  have jR := Blk.new w #[.int .i64 0, .int .i64 0, .int .i64 0, .int .i64 0, .int .i64 0, .int .i64 0, .int .i64 0, .int .i64 0] 28
  go_enter Tryz.func10, Tryz.ntmps10
  go_wp2_with fail
  refine (of2_in 60 1200 0 1200 bs _ _ (by simp) hA.seed (by decide) (by decide) (by decide) (by decide)).mono ?_
  rintro e w1 ⟨m0, rfl, ml0, mh0, hd⟩
  replace hA := (hA.new (.cells #[.int .i64 60, .int .i64 1200] 3)).trans hd
  replace jR := hd.blk (jR.alloc (.cells #[.int .i64 60, .int .i64 1200] 3)) (by omega)
  clear hd
  go_wp2_with fail
  refine (kspan_in 0 m0 bs _ hA.seed (by omega) (by omega) (by omega)).mono ?_
  rintro e w2 ⟨x0, y0, rfl, xl0, xy0, yh0, hd⟩
  replace hA := hA.trans hd
  replace jR := hd.blk jR (by omega)
  clear hd
  go_wp2_with fail
  refine (of2_in 20 200 0 200 bs _ _ (by simp) hA.seed (by decide) (by decide) (by decide) (by decide)).mono ?_
  rintro e w3 ⟨m1, rfl, ml1, mh1, hd⟩
  replace hA := (hA.new (.cells #[.int .i64 20, .int .i64 200] 3)).trans hd
  replace jR := hd.blk (jR.alloc (.cells #[.int .i64 20, .int .i64 200] 3)) (by omega)
  clear hd
  go_wp2_with fail
  refine (kspan_in 0 m1 bs _ hA.seed (by omega) (by omega) (by omega)).mono ?_
  rintro e w4 ⟨x1, y1, rfl, xl1, xy1, yh1, hd⟩
  replace hA := hA.trans hd
  replace jR := hd.blk jR (by omega)
  clear hd
  go_wp2_with fail
  refine (of3_in 0 5 60 0 60 bs _ _ (by simp) hA.seed (by decide) (by decide) (by decide) (by decide) (by decide) (by decide)).mono ?_
  rintro e w5 ⟨m2, rfl, ml2, mh2, hd⟩
  replace hA := (hA.new (.cells #[.int .i64 0, .int .i64 5, .int .i64 60] 3)).trans hd
  replace jR := hd.blk (jR.alloc (.cells #[.int .i64 0, .int .i64 5, .int .i64 60] 3)) (by omega)
  clear hd
  go_wp2_with fail
  refine (kspan_in 0 m2 bs _ hA.seed (by omega) (by omega) (by omega)).mono ?_
  rintro e w6 ⟨x2, y2, rfl, xl2, xy2, yh2, hd⟩
  replace hA := hA.trans hd
  replace jR := hd.blk jR (by omega)
  clear hd
  go_wp2_with fail
  refine (of3_in 0 40 400 0 400 bs _ _ (by simp) hA.seed (by decide) (by decide) (by decide) (by decide) (by decide) (by decide)).mono ?_
  rintro e w7 ⟨m3, rfl, ml3, mh3, hd⟩
  replace hA := (hA.new (.cells #[.int .i64 0, .int .i64 40, .int .i64 400] 3)).trans hd
  replace jR := hd.blk (jR.alloc (.cells #[.int .i64 0, .int .i64 40, .int .i64 400] 3)) (by omega)
  clear hd
  go_wp2_with fail
  refine (kspan_in 0 m3 bs _ hA.seed (by omega) (by omega) (by omega)).mono ?_
  rintro e w8 ⟨x3, y3, rfl, xl3, xy3, yh3, hd⟩
  replace hA := hA.trans hd
  replace jR := hd.blk jR (by omega)
  clear hd
  obtain ⟨a0, a1, a2, a3, a4, a5, a6, a7⟩ := jR.c8
  have r0 := jR.free 0
  have r1 := jR.free 1
  have r2 := jR.free 2
  have r3 := jR.free 3
  have r4 := jR.free 4
  have r5 := jR.free 5
  have r6 := jR.free 6
  have r7 := jR.free 7
  have zR := jR.lt
  have HQ := Lib.hid (jR.set8 (.int .i64 x0) (.int .i64 y0) (.int .i64 x1) (.int .i64 y1) (.int .i64 x2) (.int .i64 y2) (.int .i64 x3) (.int .i64 y3)).c8
  have HD := Lib.hid (hA.set8 (Nat.le_refl _) hbs (.int .i64 x0) (.int .i64 y0) (.int .i64 x1) (.int .i64 y1) (.int .i64 x2) (.int .i64 y2) (.int .i64 x3) (.int .i64 y3))
  clear hA
  go_wp2
  obtain ⟨z0, z1, z2, z3, z4, z5, z6, z7⟩ := HQ.out
  exact bodyPost_ret (v := .agg #[.int .i64 x0, .int .i64 y0, .int .i64 x1, .int .i64 y1, .int .i64 x2, .int .i64 y2, .int .i64 x3, .int .i64 y3]) (by simp [results, Tryz.results10, go_sem, z0, z1, z2, z3, z4, z5, z6, z7]) rfl ⟨⟨x0, y0, x1, y1, x2, y2, x3, y3⟩, rfl, ⟨by simp only; omega, by simp only; omega, by simp only; omega, by simp only; omega⟩, HD.out⟩
end Go.Proofs.YtdbiijldincoiaaGreat
