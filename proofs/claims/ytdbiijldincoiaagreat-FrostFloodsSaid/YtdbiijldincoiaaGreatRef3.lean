/-
  The reference: what becomes of true ice in the cold; the cold that gets through; clearing, snow and water.
-/
import Derived.Test.YtdbiijldincoiaaGreatTail
import Derived.Test.YtdbiijldincoiaaGreatRef2
set_option linter.unusedVariables false
set_option linter.unusedSimpArgs false
namespace Go.Proofs.YtdbiijldincoiaaGreat
open Go.RowKit

theorem Two.other2 {w : World} {b : Nat} {t : TypeId} (h : Two w b t) {c j k : Nat} (hp : b ≠ c) (y0 y1 : Value) : Two ((w.setCell ⟨c, j, none⟩ y0).setCell ⟨c, k, none⟩ y1) b t := by
  obtain ⟨x, y, h⟩ := h
  exact ⟨x, y, (h.other _ _ hp).other _ _ hp⟩
theorem Four.other {w : World} {b : Nat} {t : TypeId} (h : Four w b t) (p : Addr) (u : Value) (hp : b ≠ p.block) : Four (w.setCell p u) b t := by
  obtain ⟨x0, x1, x2, x3, h⟩ := h
  exact ⟨x0, x1, x2, x3, h.other p u hp⟩

set_option maxRecDepth 100000 in
set_option maxHeartbeats 4000000 in
theorem rfrozen_false (l : Lw) (va : Option Addr) (vcap : Nat) (b w0 q s c : Int) (w : World) (hl : l.Ok) (b1 : 0 ≤ b) (b2 : b ≤ 1000000000) (w1 : 0 ≤ w0) (w2 : w0 ≤ 1000000000) (q1 : 0 ≤ q) (q2 : q ≤ 1000000000) (c1 : 0 ≤ c) (c2 : c ≤ 100000) :
    Calls Tryz.prog 106 #[.agg #[.int .i64 l.gr, .int .i64 l.la, (.slice va l.n vcap), .int .i64 l.m0, .int .i64 l.m1, .int .i64 l.so, .int .i64 l.h0, .int .i64 l.h1], .agg #[.int .i64 b, .int .i64 w0, .int .i64 q, .int .i64 s], .int .i64 c, .bool false] w fun e w' => e = .returned (.agg #[.int .i64 (grownP rtI l.gr l.la b w0 q c), .int .i64 (w0 + min q (c / l.la)), .int .i64 (q - min q (c / l.la)), .int .i64 s]) ∧ Below w.heap.size w w' := by
  obtain ⟨F0, F1, F2, F3, F4, F5, F6, F7⟩ := grow_facts l.gr l.la b w0 q c hl.g0 hl.g1 hl.a0 b1 b2 w1 w2 q1 c1 c2
  have hla := hl.a0
  have HG : Hid (grownP rtI l.gr l.la b w0 q c = if min q (c / l.la) < q then b else rtI ((b + (w0 + min q (c / l.la))) * (b + (w0 + min q (c / l.la))) + l.gr * (c - min q (c / l.la) * l.la)) - (w0 + min q (c / l.la))) := rfl
  generalize hX : grownP rtI l.gr l.la b w0 q c = X at HG ⊢
  obtain ⟨z, hz⟩ : ∃ z, min q (c / l.la) = z := ⟨_, rfl⟩
  rw [hz] at F0 F1 F2 F3 F4 F5 F6 F7 HG ⊢
  have hR1 : ∀ W, Calls Tryz.prog 115 #[.int .i64 ((b + (w0 + z)) * (b + (w0 + z)) + l.gr * (c - z * l.la))] W fun e w' => e = .returned (.int .i64 (rtI ((b + (w0 + z)) * (b + (w0 + z)) + l.gr * (c - z * l.la)))) ∧ W = w' := fun W => rroot_any _ W (by omega)
  have hR2 : ∀ W, Calls Tryz.prog 116 #[.int .i64 ((b + (w0 + z)) * (b + (w0 + z)) + l.gr * (c - z * l.la))] W fun e w' => e = .returned (.int .i64 (rfI ((b + (w0 + z)) * (b + (w0 + z)) + l.gr * (c - z * l.la)))) ∧ W = w' := fun W => rroof_any _ W (by omega) (by omega)
  have hr := rtI_bd ((b + (w0 + z)) * (b + (w0 + z)) + l.gr * (c - z * l.la)) (by omega)
  have e1 : IntKind.i64.wrap (w0 + z) = w0 + z := IntWalk.i64_in _ (by omega)
  have e2 : IntKind.i64.wrap (q - z) = q - z := IntWalk.i64_in _ (by omega)
  have e3 : IntKind.i64.wrap (b + (w0 + z)) = b + (w0 + z) := IntWalk.i64_in _ (by omega)
  have e4 : IntKind.i64.wrap ((b + (w0 + z)) * (b + (w0 + z))) = (b + (w0 + z)) * (b + (w0 + z)) := IntWalk.i64_in _ (by omega)
  have e5 : IntKind.i64.wrap (z * l.la) = z * l.la := IntWalk.i64_in _ (by omega)
  have e6 : IntKind.i64.wrap (c - z * l.la) = c - z * l.la := IntWalk.i64_in _ (by omega)
  have e7 : IntKind.i64.wrap (l.gr * (c - z * l.la)) = l.gr * (c - z * l.la) := IntWalk.i64_in _ (by omega)
  have e8 : IntKind.i64.wrap ((b + (w0 + z)) * (b + (w0 + z)) + l.gr * (c - z * l.la)) = ((b + (w0 + z)) * (b + (w0 + z)) + l.gr * (c - z * l.la)) := IntWalk.i64_in _ (by omega)
  have e9 : IntKind.i64.wrap (rtI ((b + (w0 + z)) * (b + (w0 + z)) + l.gr * (c - z * l.la)) - (w0 + z)) = rtI ((b + (w0 + z)) * (b + (w0 + z)) + l.gr * (c - z * l.la)) - (w0 + z) := IntWalk.i64_in _ (by omega)
  have hzq : z ≤ q := by omega
  have hl0 : l.la ≠ 0 := by omega
  have hl1 : (l.la == 0) = false := by simpa using hl0
  have hq0 : 0 ≤ c / l.la := Int.ediv_nonneg c1 (by omega)
  have hq1 : c / l.la ≤ c := Int.ediv_le_self _ c1
  have ht : IntKind.i64.wrap (c.tdiv l.la) = c / l.la := by rw [Int.tdiv_eq_ediv_of_nonneg c1]; exact IntWalk.i64_in _ (by omega)
  have HT := Lib.hid ht
  clear ht hq0 hq1
  have HR1 := Lib.hid hR1
  have HR2 := Lib.hid hR2
  have HZ := Lib.hid hz
  clear hR1 hR2 hX hr F0 F1 F2 F3 F4 F5 F6 F7 hz b1 b2 w1 w2 q1 q2 c2
  have jL := ((Blk.new w #[.int .i64 l.gr, .int .i64 l.la, .slice va l.n vcap, .int .i64 l.m0, .int .i64 l.m1, .int .i64 l.so, .int .i64 l.h0, .int .i64 l.h1] 26).alloc (.cells #[.int .i64 b, .int .i64 w0, .int .i64 q, .int .i64 s] 117)).alloc (.cells #[.int .i64 0, .int .i64 0, .int .i64 0, .int .i64 0] 117)
  have jT := (Blk.new1 w (.cells #[.int .i64 l.gr, .int .i64 l.la, .slice va l.n vcap, .int .i64 l.m0, .int .i64 l.m1, .int .i64 l.so, .int .i64 l.h0, .int .i64 l.h1] 26) #[.int .i64 b, .int .i64 w0, .int .i64 q, .int .i64 s] 117).alloc (.cells #[.int .i64 0, .int .i64 0, .int .i64 0, .int .i64 0] 117)
  have jR := Blk.new2 w (.cells #[.int .i64 l.gr, .int .i64 l.la, .slice va l.n vcap, .int .i64 l.m0, .int .i64 l.m1, .int .i64 l.so, .int .i64 l.h0, .int .i64 l.h1] 26) (.cells #[.int .i64 b, .int .i64 w0, .int .i64 q, .int .i64 s] 117) #[.int .i64 0, .int .i64 0, .int .i64 0, .int .i64 0] 117
  have jB : Below w.heap.size w (((w.alloc (.cells #[.int .i64 l.gr, .int .i64 l.la, .slice va l.n vcap, .int .i64 l.m0, .int .i64 l.m1, .int .i64 l.so, .int .i64 l.h0, .int .i64 l.h1] 26)).alloc (.cells #[.int .i64 b, .int .i64 w0, .int .i64 q, .int .i64 s] 117)).alloc (.cells #[.int .i64 0, .int .i64 0, .int .i64 0, .int .i64 0] 117)) := by (repeat (first | exact Below.refl _ _ | assumption | refine Below.drew ?_ | refine Below.drewN ?_ _ | refine blT ?_ | refine blU ?_))
  go_enter Tryz.func106, Tryz.ntmps106
  go_upto_region 1 with fail
  generalize ((w.alloc (.cells #[.int .i64 l.gr, .int .i64 l.la, .slice va l.n vcap, .int .i64 l.m0, .int .i64 l.m1, .int .i64 l.so, .int .i64 l.h0, .int .i64 l.h1] 26)).alloc (.cells #[.int .i64 b, .int .i64 w0, .int .i64 q, .int .i64 s] 117)).alloc (.cells #[.int .i64 0, .int .i64 0, .int .i64 0, .int .i64 0] 117) = V at jL jT jR jB ⊢
  refine region_still (by kernel_rfl) (by kernel_rfl) (fun U hU => ?_)
  replace jL := jL.drew
  replace jT := jT.drew
  replace jR := jR.drew
  replace jB := jB.drew
  rw [hU] at jL jT jR jB
  clear hU
  obtain ⟨l0, l1, l2, l3, l4, l5, l6, l7⟩ := jL.c8
  obtain ⟨t0, t1, t2, t3⟩ := jT.c4
  have zL := jL.lt
  have zT := jT.lt
  repeat still_step
  refine wpStill_nil ?_
  simp only [HT.out, HZ.out]
  have ft0 := jT.free 0
  have ft1 := jT.free 1
  have ft2 := jT.free 2
  obtain ⟨r0, r1, r2, r3⟩ := jR.c4
  have fr0 := jR.free 0
  have fr1 := jR.free 1
  have fr2 := jR.free 2
  have fr3 := jR.free 3
  have zR := jR.lt
  by_cases hzl : z < q
  · have HG2 := Lib.hid (HG.out.trans (if_pos hzl))
    have hd : decide (0 < q - z) = true := by simp; omega
    have HQ := Lib.hid (((jR.other ⟨w.heap.size + 1, 1, none⟩ (.int .i64 (w0 + z)) (by simp)).other ⟨w.heap.size + 1, 2, none⟩ (.int .i64 (q - z)) (by simp)).set4 (.int .i64 b) (.int .i64 (w0 + z)) (.int .i64 (q - z)) (.int .i64 s)).c4
    clear HR1 HR2 e3 e4 e5 e6 e7 e8 e9
    go_wp2
    obtain ⟨z0, z1, z2, z3⟩ := HQ.out
    refine bodyPost_ret (v := .agg #[.int .i64 b, .int .i64 (w0 + z), .int .i64 (q - z), .int .i64 s]) (by simp [results, Tryz.results106, go_sem, z0, z1, z2, z3]) rfl ⟨by rw [HG2.out], ?_⟩
    iterate 6 refine Below.setCell ?_ (by first | (simp; done) | (simp; omega)) _
    exact jB
  · have HG2 := Lib.hid (HG.out.trans (if_neg hzl))
    have hd : decide (0 < q - z) = false := by simp; omega
    go_wp2_with fail
    refine (HR1.out _).mono ?_
    rintro e w' ⟨rfl, rfl⟩
    clear HR1 HR2
    have HQ := Lib.hid ((((jR.other ⟨w.heap.size + 1, 1, none⟩ (.int .i64 (w0 + z)) (by simp)).other ⟨w.heap.size + 1, 2, none⟩ (.int .i64 (q - z)) (by simp)).other ⟨w.heap.size + 1, 0, none⟩ (.int .i64 (rtI ((b + (w0 + z)) * (b + (w0 + z)) + l.gr * (c - z * l.la)) - (w0 + z))) (by simp)).set4 (.int .i64 (rtI ((b + (w0 + z)) * (b + (w0 + z)) + l.gr * (c - z * l.la)) - (w0 + z))) (.int .i64 (w0 + z)) (.int .i64 (q - z)) (.int .i64 s)).c4
    go_wp2
    obtain ⟨z0, z1, z2, z3⟩ := HQ.out
    refine bodyPost_ret (v := .agg #[.int .i64 (rtI ((b + (w0 + z)) * (b + (w0 + z)) + l.gr * (c - z * l.la)) - (w0 + z)), .int .i64 (w0 + z), .int .i64 (q - z), .int .i64 s]) (by simp [results, Tryz.results106, go_sem, z0, z1, z2, z3]) rfl ⟨by rw [HG2.out], ?_⟩
    iterate 7 refine Below.setCell ?_ (by first | (simp; done) | (simp; omega)) _
    exact jB

set_option maxRecDepth 100000 in
set_option maxHeartbeats 4000000 in
theorem rfrozen_true (l : Lw) (va : Option Addr) (vcap : Nat) (b w0 q s c : Int) (w : World) (hl : l.Ok) (b1 : 0 ≤ b) (b2 : b ≤ 1000000000) (w1 : 0 ≤ w0) (w2 : w0 ≤ 1000000000) (q1 : 0 ≤ q) (q2 : q ≤ 1000000000) (c1 : 0 ≤ c) (c2 : c ≤ 100000) :
    Calls Tryz.prog 106 #[.agg #[.int .i64 l.gr, .int .i64 l.la, (.slice va l.n vcap), .int .i64 l.m0, .int .i64 l.m1, .int .i64 l.so, .int .i64 l.h0, .int .i64 l.h1], .agg #[.int .i64 b, .int .i64 w0, .int .i64 q, .int .i64 s], .int .i64 c, .bool true] w fun e w' => e = .returned (.agg #[.int .i64 (grownP rfI l.gr l.la b w0 q c), .int .i64 (w0 + min q (c / l.la)), .int .i64 (q - min q (c / l.la)), .int .i64 s]) ∧ Below w.heap.size w w' := by
  obtain ⟨F0, F1, F2, F3, F4, F5, F6, F7⟩ := grow_facts l.gr l.la b w0 q c hl.g0 hl.g1 hl.a0 b1 b2 w1 w2 q1 c1 c2
  have hla := hl.a0
  have HG : Hid (grownP rfI l.gr l.la b w0 q c = if min q (c / l.la) < q then b else rfI ((b + (w0 + min q (c / l.la))) * (b + (w0 + min q (c / l.la))) + l.gr * (c - min q (c / l.la) * l.la)) - (w0 + min q (c / l.la))) := rfl
  generalize hX : grownP rfI l.gr l.la b w0 q c = X at HG ⊢
  obtain ⟨z, hz⟩ : ∃ z, min q (c / l.la) = z := ⟨_, rfl⟩
  rw [hz] at F0 F1 F2 F3 F4 F5 F6 F7 HG ⊢
  have hR1 : ∀ W, Calls Tryz.prog 115 #[.int .i64 ((b + (w0 + z)) * (b + (w0 + z)) + l.gr * (c - z * l.la))] W fun e w' => e = .returned (.int .i64 (rtI ((b + (w0 + z)) * (b + (w0 + z)) + l.gr * (c - z * l.la)))) ∧ W = w' := fun W => rroot_any _ W (by omega)
  have hR2 : ∀ W, Calls Tryz.prog 116 #[.int .i64 ((b + (w0 + z)) * (b + (w0 + z)) + l.gr * (c - z * l.la))] W fun e w' => e = .returned (.int .i64 (rfI ((b + (w0 + z)) * (b + (w0 + z)) + l.gr * (c - z * l.la)))) ∧ W = w' := fun W => rroof_any _ W (by omega) (by omega)
  have hr := rfI_bd ((b + (w0 + z)) * (b + (w0 + z)) + l.gr * (c - z * l.la)) (by omega)
  have e1 : IntKind.i64.wrap (w0 + z) = w0 + z := IntWalk.i64_in _ (by omega)
  have e2 : IntKind.i64.wrap (q - z) = q - z := IntWalk.i64_in _ (by omega)
  have e3 : IntKind.i64.wrap (b + (w0 + z)) = b + (w0 + z) := IntWalk.i64_in _ (by omega)
  have e4 : IntKind.i64.wrap ((b + (w0 + z)) * (b + (w0 + z))) = (b + (w0 + z)) * (b + (w0 + z)) := IntWalk.i64_in _ (by omega)
  have e5 : IntKind.i64.wrap (z * l.la) = z * l.la := IntWalk.i64_in _ (by omega)
  have e6 : IntKind.i64.wrap (c - z * l.la) = c - z * l.la := IntWalk.i64_in _ (by omega)
  have e7 : IntKind.i64.wrap (l.gr * (c - z * l.la)) = l.gr * (c - z * l.la) := IntWalk.i64_in _ (by omega)
  have e8 : IntKind.i64.wrap ((b + (w0 + z)) * (b + (w0 + z)) + l.gr * (c - z * l.la)) = ((b + (w0 + z)) * (b + (w0 + z)) + l.gr * (c - z * l.la)) := IntWalk.i64_in _ (by omega)
  have e9 : IntKind.i64.wrap (rfI ((b + (w0 + z)) * (b + (w0 + z)) + l.gr * (c - z * l.la)) - (w0 + z)) = rfI ((b + (w0 + z)) * (b + (w0 + z)) + l.gr * (c - z * l.la)) - (w0 + z) := IntWalk.i64_in _ (by omega)
  have hzq : z ≤ q := by omega
  have hl0 : l.la ≠ 0 := by omega
  have hl1 : (l.la == 0) = false := by simpa using hl0
  have hq0 : 0 ≤ c / l.la := Int.ediv_nonneg c1 (by omega)
  have hq1 : c / l.la ≤ c := Int.ediv_le_self _ c1
  have ht : IntKind.i64.wrap (c.tdiv l.la) = c / l.la := by rw [Int.tdiv_eq_ediv_of_nonneg c1]; exact IntWalk.i64_in _ (by omega)
  have HT := Lib.hid ht
  clear ht hq0 hq1
  have HR1 := Lib.hid hR1
  have HR2 := Lib.hid hR2
  have HZ := Lib.hid hz
  clear hR1 hR2 hX hr F0 F1 F2 F3 F4 F5 F6 F7 hz b1 b2 w1 w2 q1 q2 c2
  have jL := ((Blk.new w #[.int .i64 l.gr, .int .i64 l.la, .slice va l.n vcap, .int .i64 l.m0, .int .i64 l.m1, .int .i64 l.so, .int .i64 l.h0, .int .i64 l.h1] 26).alloc (.cells #[.int .i64 b, .int .i64 w0, .int .i64 q, .int .i64 s] 117)).alloc (.cells #[.int .i64 0, .int .i64 0, .int .i64 0, .int .i64 0] 117)
  have jT := (Blk.new1 w (.cells #[.int .i64 l.gr, .int .i64 l.la, .slice va l.n vcap, .int .i64 l.m0, .int .i64 l.m1, .int .i64 l.so, .int .i64 l.h0, .int .i64 l.h1] 26) #[.int .i64 b, .int .i64 w0, .int .i64 q, .int .i64 s] 117).alloc (.cells #[.int .i64 0, .int .i64 0, .int .i64 0, .int .i64 0] 117)
  have jR := Blk.new2 w (.cells #[.int .i64 l.gr, .int .i64 l.la, .slice va l.n vcap, .int .i64 l.m0, .int .i64 l.m1, .int .i64 l.so, .int .i64 l.h0, .int .i64 l.h1] 26) (.cells #[.int .i64 b, .int .i64 w0, .int .i64 q, .int .i64 s] 117) #[.int .i64 0, .int .i64 0, .int .i64 0, .int .i64 0] 117
  have jB : Below w.heap.size w (((w.alloc (.cells #[.int .i64 l.gr, .int .i64 l.la, .slice va l.n vcap, .int .i64 l.m0, .int .i64 l.m1, .int .i64 l.so, .int .i64 l.h0, .int .i64 l.h1] 26)).alloc (.cells #[.int .i64 b, .int .i64 w0, .int .i64 q, .int .i64 s] 117)).alloc (.cells #[.int .i64 0, .int .i64 0, .int .i64 0, .int .i64 0] 117)) := by (repeat (first | exact Below.refl _ _ | assumption | refine Below.drew ?_ | refine Below.drewN ?_ _ | refine blT ?_ | refine blU ?_))
  go_enter Tryz.func106, Tryz.ntmps106
  go_upto_region 1 with fail
  generalize ((w.alloc (.cells #[.int .i64 l.gr, .int .i64 l.la, .slice va l.n vcap, .int .i64 l.m0, .int .i64 l.m1, .int .i64 l.so, .int .i64 l.h0, .int .i64 l.h1] 26)).alloc (.cells #[.int .i64 b, .int .i64 w0, .int .i64 q, .int .i64 s] 117)).alloc (.cells #[.int .i64 0, .int .i64 0, .int .i64 0, .int .i64 0] 117) = V at jL jT jR jB ⊢
  refine region_still (by kernel_rfl) (by kernel_rfl) (fun U hU => ?_)
  replace jL := jL.drew
  replace jT := jT.drew
  replace jR := jR.drew
  replace jB := jB.drew
  rw [hU] at jL jT jR jB
  clear hU
  obtain ⟨l0, l1, l2, l3, l4, l5, l6, l7⟩ := jL.c8
  obtain ⟨t0, t1, t2, t3⟩ := jT.c4
  have zL := jL.lt
  have zT := jT.lt
  repeat still_step
  refine wpStill_nil ?_
  simp only [HT.out, HZ.out]
  have ft0 := jT.free 0
  have ft1 := jT.free 1
  have ft2 := jT.free 2
  obtain ⟨r0, r1, r2, r3⟩ := jR.c4
  have fr0 := jR.free 0
  have fr1 := jR.free 1
  have fr2 := jR.free 2
  have fr3 := jR.free 3
  have zR := jR.lt
  by_cases hzl : z < q
  · have HG2 := Lib.hid (HG.out.trans (if_pos hzl))
    have hd : decide (0 < q - z) = true := by simp; omega
    have HQ := Lib.hid (((jR.other ⟨w.heap.size + 1, 1, none⟩ (.int .i64 (w0 + z)) (by simp)).other ⟨w.heap.size + 1, 2, none⟩ (.int .i64 (q - z)) (by simp)).set4 (.int .i64 b) (.int .i64 (w0 + z)) (.int .i64 (q - z)) (.int .i64 s)).c4
    clear HR1 HR2 e3 e4 e5 e6 e7 e8 e9
    go_wp2
    obtain ⟨z0, z1, z2, z3⟩ := HQ.out
    refine bodyPost_ret (v := .agg #[.int .i64 b, .int .i64 (w0 + z), .int .i64 (q - z), .int .i64 s]) (by simp [results, Tryz.results106, go_sem, z0, z1, z2, z3]) rfl ⟨by rw [HG2.out], ?_⟩
    iterate 6 refine Below.setCell ?_ (by first | (simp; done) | (simp; omega)) _
    exact jB
  · have HG2 := Lib.hid (HG.out.trans (if_neg hzl))
    have hd : decide (0 < q - z) = false := by simp; omega
    go_wp2_with fail
    refine (HR1.out _).mono ?_
    rintro e w' ⟨rfl, rfl⟩
    go_wp2_with fail
    refine (HR2.out _).mono ?_
    rintro e w' ⟨rfl, rfl⟩
    clear HR1 HR2
    have HQ := Lib.hid ((((jR.other ⟨w.heap.size + 1, 1, none⟩ (.int .i64 (w0 + z)) (by simp)).other ⟨w.heap.size + 1, 2, none⟩ (.int .i64 (q - z)) (by simp)).other ⟨w.heap.size + 1, 0, none⟩ (.int .i64 (rfI ((b + (w0 + z)) * (b + (w0 + z)) + l.gr * (c - z * l.la)) - (w0 + z))) (by simp)).set4 (.int .i64 (rfI ((b + (w0 + z)) * (b + (w0 + z)) + l.gr * (c - z * l.la)) - (w0 + z))) (.int .i64 (w0 + z)) (.int .i64 (q - z)) (.int .i64 s)).c4
    go_wp2
    obtain ⟨z0, z1, z2, z3⟩ := HQ.out
    refine bodyPost_ret (v := .agg #[.int .i64 (rfI ((b + (w0 + z)) * (b + (w0 + z)) + l.gr * (c - z * l.la)) - (w0 + z)), .int .i64 (w0 + z), .int .i64 (q - z), .int .i64 s]) (by simp [results, Tryz.results106, go_sem, z0, z1, z2, z3]) rfl ⟨by rw [HG2.out], ?_⟩
    iterate 7 refine Below.setCell ?_ (by first | (simp; done) | (simp; omega)) _
    exact jB

set_option maxRecDepth 100000 in
set_option maxHeartbeats 4000000 in
theorem rthrough_some (l : Lw) (b o vcap : Nat) (s c : Int) (w : World) (h1 : 1 ≤ l.n) (hn : l.n ≤ 1000000)
    (hc : ∀ i, i < l.n → w.cell? ⟨b, o + i * 3, none⟩ = some (.int .i64 (l.D i)) ∧ w.cell? ⟨b, o + i * 3 + 1, none⟩ = some (.int .i64 (l.P0 i)) ∧ w.cell? ⟨b, o + i * 3 + 2, none⟩ = some (.int .i64 (l.P1 i)))
    (g0 : 0 ≤ c * lastP l.D l.P0 s l.n) (g1 : c * lastP l.D l.P0 s l.n ≤ 9000000000000000000) (g2 : 0 ≤ c * lastP l.D l.P1 s l.n) (g3 : c * lastP l.D l.P1 s l.n ≤ 9000000000000000000) :
    Calls Tryz.prog 105 #[.agg #[.int .i64 l.gr, .int .i64 l.la, (.slice (some ⟨b, o, none⟩) l.n vcap), .int .i64 l.m0, .int .i64 l.m1, .int .i64 l.so, .int .i64 l.h0, .int .i64 l.h1], .int .i64 s, .int .i64 c] w fun e w' => e = .returned (.agg #[.int .i64 (gotL c (lastP l.D l.P0 s l.n)), .int .i64 (gotH c (lastP l.D l.P1 s l.n))]) ∧ Below w.heap.size w w' := by
  have HD : Hid (∀ W, Calls Tryz.prog 72 #[.int .i64 c, .int .i64 (lastP l.D l.P0 s l.n)] W fun e w' => e = .returned (.int .i64 (gotL c (lastP l.D l.P0 s l.n))) ∧ Below W.heap.size W w') := fun W => rdown_b c _ W g0 g1
  have HU : Hid (∀ W, Calls Tryz.prog 73 #[.int .i64 c, .int .i64 (lastP l.D l.P1 s l.n)] W fun e w' => e = .returned (.int .i64 (gotH c (lastP l.D l.P1 s l.n))) ∧ Below W.heap.size W w') := fun W => rup_b c _ W g2 g3
  clear g0 g1 g2 g3
  generalize gotL c (lastP l.D l.P0 s l.n) = x0 at HD ⊢
  generalize gotH c (lastP l.D l.P1 s l.n) = x1 at HU ⊢
  have hz : 0 < l.n := by omega
  obtain ⟨c0, c1, c2⟩ := hc 0 (by omega)
  simp only [Nat.zero_mul, Nat.add_zero] at c0 c1 c2
  have hlt := World.block_lt_of_cell? _ _ c0
  have HC : Hid _ := hc
  clear hc
  obtain ⟨n, hnn⟩ : ∃ n, l.n = n := ⟨_, rfl⟩
  rw [hnn] at HD HU HC h1 hn hz ⊢
  clear hnn
  have jL := (Blk.new w #[.int .i64 l.gr, .int .i64 l.la, .slice (some ⟨b, o, none⟩) n vcap, .int .i64 l.m0, .int .i64 l.m1, .int .i64 l.so, .int .i64 l.h0, .int .i64 l.h1] 26).alloc (.cells #[.int .i64 0, .int .i64 0] 24)
  have jR : Two _ _ _ := ⟨_, _, Blk.new1 w (.cells #[.int .i64 l.gr, .int .i64 l.la, .slice (some ⟨b, o, none⟩) n vcap, .int .i64 l.m0, .int .i64 l.m1, .int .i64 l.so, .int .i64 l.h0, .int .i64 l.h1] 26) #[.int .i64 0, .int .i64 0] 24⟩
  have jB : Below w.heap.size w ((w.alloc (.cells #[.int .i64 l.gr, .int .i64 l.la, .slice (some ⟨b, o, none⟩) n vcap, .int .i64 l.m0, .int .i64 l.m1, .int .i64 l.so, .int .i64 l.h0, .int .i64 l.h1] 26)).alloc (.cells #[.int .i64 0, .int .i64 0] 24)) := by (repeat (first | exact Below.refl _ _ | assumption | refine Below.drew ?_ | refine Below.drewN ?_ _ | refine blT ?_ | refine blU ?_))
  obtain ⟨l0, l1, l2, l3, l4, l5, l6, l7⟩ := jL.c8
  have zL := jL.lt
  replace c0 := cell_later jB c0
  replace c1 := cell_later jB c1
  replace c2 := cell_later jB c2
  go_enter Tryz.func105, Tryz.ntmps105
  go_wp2_with fail
  have jP := Blk.new2 w (.cells #[.int .i64 l.gr, .int .i64 l.la, .slice (some ⟨b, o, none⟩) n vcap, .int .i64 l.m0, .int .i64 l.m1, .int .i64 l.so, .int .i64 l.h0, .int .i64 l.h1] 26) (.cells #[.int .i64 0, .int .i64 0] 24) #[.int .i64 (l.P0 0), .int .i64 (l.P1 0)] 24
  replace jL := jL.alloc (.cells #[.int .i64 (l.P0 0), .int .i64 (l.P1 0)] 24)
  replace jR := jR.alloc (.cells #[.int .i64 (l.P0 0), .int .i64 (l.P1 0)] 24)
  replace jB := bwA jB (by simp) (.cells #[.int .i64 (l.P0 0), .int .i64 (l.P1 0)] 24)
  clear l0 l1 l2 l3 l4 l5 l6 l7 zL c0 c1 c2
  go_loopw [8] (fun i wr => ∃ k : Nat, k ≤ n ∧ i = .int .i64 k ∧ Blk wr w.heap.size #[.int .i64 l.gr, .int .i64 l.la, .slice (some ⟨b, o, none⟩) n vcap, .int .i64 l.m0, .int .i64 l.m1, .int .i64 l.so, .int .i64 l.h0, .int .i64 l.h1] 26 ∧ Two wr (w.heap.size + 1) 24 ∧ Blk wr (w.heap.size + 1 + 1) #[.int .i64 (lastP l.D l.P0 s k), .int .i64 (lastP l.D l.P1 s k)] 24 ∧ Below w.heap.size w wr) (fun i _ => n - (intOf i).toNat)
  case atStart => exact ⟨0, Nat.zero_le _, rfl, jL, jR, jP, jB⟩
  case round =>
    obtain ⟨k, hk, rfl, gL, gR, gP, hB⟩ := hrel
    clear jL jR jP jB
    obtain ⟨l0, l1, l2, l3, l4, l5, l6, l7⟩ := gL.c8
    have zL := gL.lt
    by_cases hlt2 : k < n
    · obtain ⟨a0, a1, a2⟩ := HC.out k hlt2
      replace a0 := cell_later hB a0
      replace a1 := cell_later hB a1
      replace a2 := cell_later hB a2
      have hbs := World.block_lt_of_cell? _ _ a0
      have L0 : Hid (lastP l.D l.P0 s (k + 1) = if l.D k ≤ s then l.P0 k else lastP l.D l.P0 s k) := rfl
      have L1 : Hid (lastP l.D l.P1 s (k + 1) = if l.D k ≤ s then l.P1 k else lastP l.D l.P1 s k) := rfl
      by_cases hd : l.D k ≤ s
      · obtain ⟨p0, p1⟩ := gP.c2
        have f0 := gP.free 0
        have f1 := gP.free 1
        have zP := gP.lt
        go_wp2
        go_roundw
        case rel =>
          refine ⟨k + 1, by omega, by go_num, ?_⟩
          rw [L0.out, L1.out, if_pos hd, if_pos hd]
          exact ⟨(gL.other _ _ (by first | (simp; done) | (simp; omega))).other _ _ (by first | (simp; done) | (simp; omega)), Two.other2 gR (by first | (simp; done) | (simp; omega)) _ _, (gP.set 0 _).set 1 _, below_set2 (c := w.heap.size + 1 + 1) (j := 0) (k := 1) hB (by omega) _ _⟩
        case measure => simp [intOf]; omega
      · go_wp2
        go_roundw
        case rel =>
          refine ⟨k + 1, by omega, by go_num, ?_⟩
          rw [L0.out, L1.out, if_neg hd, if_neg hd]
          exact ⟨gL, gR, gP, hB⟩
        case measure => simp [intOf]; omega
    · obtain rfl : k = n := by omega
      go_upto_region 7 with fail
      clear l0 l1 l2 l3 l4 l5 l6 l7 zL
      (
 refine wp_region_held_drew (S := (fun w' => Blk w' (w.heap.size + 1 + 1) #[.int .i64 (lastP l.D l.P0 s k), .int .i64 (lastP l.D l.P1 s k)] 24 ∧ Two w' (w.heap.size + 1) 24 ∧ Below w.heap.size w w')) (by kernel_rfl) ?_ (fun hH => ?_)
 · (try dsimp only); (exact ⟨gP.drew, gR, hB.drew⟩)
 refine tkY 0 (some 35) ?_ ?_ ?_
 rotate_left
 · intro w _; go_simp; (try with_reducible rfl)
 (try simp only [cq])
 refine tkY 1 (some 36) ?_ ?_ ?_
 rotate_left
 · intro w hS0; (try dsimp only at hS0); obtain ⟨kl, _, _⟩ := hS0; obtain ⟨l0, l1⟩ := kl.c2;go_simp; (try with_reducible rfl)
 (try simp only [cq])
 refine tkY 2 (some 37) ?_ ?_ ?_
 rotate_left
 · intro w hS0; (try dsimp only at hS0); obtain ⟨kl, _, _⟩ := hS0; obtain ⟨l0, l1⟩ := kl.c2;go_simp; (try with_reducible rfl)
 (try simp only [cq])
 refine tkY 4 (some 39) ?_ ?_ ?_
 rotate_left
 · intro w _; go_simp; (try with_reducible rfl)
 (try simp only [cq])
 refine tkY 5 (some 40) ?_ ?_ ?_
 rotate_left
 · intro w hS0; (try dsimp only at hS0); obtain ⟨kl, _, _⟩ := hS0; obtain ⟨l0, l1⟩ := kl.c2;go_simp; (try with_reducible rfl)
 (try simp only [cq])
 refine tkY 6 (some 41) ?_ ?_ ?_
 rotate_left
 · intro w hS0; (try dsimp only at hS0); obtain ⟨kl, _, _⟩ := hS0; obtain ⟨l0, l1⟩ := kl.c2;go_simp; (try with_reducible rfl)
 (try simp only [cq])
 refine wpAnyH_ready (rs := [3]) (by kernel_rfl) (by simp) ?_
 refine arc1 (some 38) fun K hK => ?_
 go_simp
 (refine (HD.out _).mono ?_; rintro e w' ⟨rfl, hb⟩)
 refine hK.out _ _ ?_ ?_
 · (exact ⟨hH.1.call hb, hH.2.1.call hb, bwS hH.2.2 (Nat.le_refl _) hb⟩)
 (try clear hH); (try clear hb)
 intro hH
 clear hK K
 (try simp only [cq])
 refine wpAnyH_ready (rs := [7]) (by kernel_rfl) (by simp) ?_
 refine arc1 (some 42) fun K hK => ?_
 go_simp
 (refine (HU.out _).mono ?_; rintro e w' ⟨rfl, hb⟩)
 refine hK.out _ _ ?_ ?_
 · (exact ⟨hH.1.call hb, hH.2.1.call hb, bwS hH.2.2 (Nat.le_refl _) hb⟩)
 (try clear hH); (try clear hb)
 intro hH
 clear hK K
 (try simp only [cq])
 refine tkY 8 (some 43) ?_ ?_ ?_
 rotate_left
 · intro w _; go_simp; (try with_reducible rfl)
 (try simp only [cq])
 refine wpAnyH_ready (rs := [9]) (by kernel_rfl) (by simp) ?_
 refine arc1 none fun K hK => ?_
 obtain ⟨h1, ⟨u0, u1, hR⟩, h3⟩ := hH
 obtain ⟨r0, r1⟩ := hR.c2
 have fr0 := hR.free 0
 have fr1 := hR.free 1
 have zR := hR.lt
 have HS := Lib.hid (show Blk _ _ #[.int .i64 x0, .int .i64 x1] _ from (hR.set 0 (.int .i64 x0)).set 1 (.int .i64 x1))
 have HB := Lib.hid (below_set2 (c := w.heap.size + 1) (j := 0) (k := 1) h3 (by omega) (.int .i64 x0) (.int .i64 x1))
 go_simp
 refine hK.out _ _ ?_ ?_
 · exact ⟨(h1.other _ _ (by first | (simp; done) | (simp; omega))).other _ _ (by first | (simp; done) | (simp; omega)), ⟨_, _, HS.out⟩, HB.out⟩
 (try clear hH); (try clear hb)
 intro hH
 clear hK K
 (try simp only [cq])
 refine wpAnyH_done (by kernel_rfl) ?_ _
 (try dsimp only [Act.put])
 (try simp only [cq])
 clear hH r0 r1 fr0 fr1 zR h1 h3 hR gL gR gP hB
 obtain ⟨z0, z1⟩ := HS.out.c2
 go_wp2
 exact bodyPost_ret (v := .agg #[.int .i64 x0, .int .i64 x1]) (by simp [results, Tryz.results105, go_sem, z0, z1]) rfl ⟨rfl, HB.out⟩ )
theorem rthrough_any (l : Lw) (va : Option Addr) (vcap : Nat) (s c : Int) (w : World) (hl : l.Ok) (hn : l.n ≤ 1000000) (hv : CovAt w (.slice va l.n vcap) l.n l.D l.P0 l.P1) (c0 : 0 ≤ c) (c1 : c ≤ 1000) :
    Calls Tryz.prog 105 #[.agg #[.int .i64 l.gr, .int .i64 l.la, (.slice va l.n vcap), .int .i64 l.m0, .int .i64 l.m1, .int .i64 l.so, .int .i64 l.h0, .int .i64 l.h1], .int .i64 s, .int .i64 c] w fun e w' => e = .returned (.agg #[.int .i64 (gotL c (lastP l.D l.P0 s l.n)), .int .i64 (gotH c (lastP l.D l.P1 s l.n))]) ∧ Below w.heap.size w w' := by
  have p0 := lastP_in l.D l.P0 s l.n hl.n1 hl.p0
  have p1 := lastP_in l.D l.P1 s l.n hl.n1 hl.p1
  have a0 : 0 ≤ c * lastP l.D l.P0 s l.n := Int.mul_nonneg c0 p0.1
  have a1 : c * lastP l.D l.P0 s l.n ≤ 1000 * 1000000 := Int.mul_le_mul c1 p0.2 p0.1 (by omega)
  have a2 : 0 ≤ c * lastP l.D l.P1 s l.n := Int.mul_nonneg c0 p1.1
  have a3 : c * lastP l.D l.P1 s l.n ≤ 1000 * 1000000 := Int.mul_le_mul c1 p1.2 p1.1 (by omega)
  obtain ⟨a, cap, hv, h1, h2, h3⟩ := hv
  simp only [Value.slice.injEq] at hv
  obtain ⟨rfl, _, rfl⟩ := hv
  obtain ⟨b, o, rfl, hc⟩ := h3 hl.n1
  exact rthrough_some l b o vcap s c w hl.n1 hn hc a0 (by omega) a2 (by omega)

set_option maxRecDepth 100000 in
set_option maxHeartbeats 4000000 in
theorem ropened_false (l : Lw) (va : Option Addr) (vcap : Nat) (b w0 q s c0 c1 f0 f1 wa f : Int) (w : World) (hl : l.Ok) (q1 : 0 ≤ q) (q2 : q ≤ 400000000) (s1 : 0 ≤ s) (s2 : s ≤ 400000000) (g1 : 0 ≤ f) (g2 : f ≤ 1000) (d1 : wa ≤ 200) :
    Calls Tryz.prog 83 #[.agg #[.int .i64 l.gr, .int .i64 l.la, (.slice va l.n vcap), .int .i64 l.m0, .int .i64 l.m1, .int .i64 l.so, .int .i64 l.h0, .int .i64 l.h1], .agg #[.int .i64 b, .int .i64 w0, .int .i64 q, .int .i64 s], .agg #[.int .i64 c0, .int .i64 c1, .int .i64 f0, .int .i64 f1, .int .i64 wa, .bool false], .int .i64 f] w fun e w' => e = .returned (.agg #[.int .i64 b, .int .i64 w0, .int .i64 (if 0 < wa then q + wa + soakP (s + f) l.so else q), .int .i64 (if 0 < wa then 0 else (s + f))]) ∧ Below w.heap.size w w' := by
  have K := soak_le (s + f) l.so (by omega) hl.o0 hl.o1
  have K1 : 0 ≤ (s + f) * l.so := Int.mul_nonneg (by omega) hl.o0
  have K2 : (s + f) * l.so ≤ 400001000 * 1000000 := Int.mul_le_mul (by omega) hl.o1 hl.o0 (by omega)
  have HD : Hid (∀ W, Calls Tryz.prog 72 #[.int .i64 (s + f), .int .i64 l.so] W fun e w' => e = .returned (.int .i64 (soakP (s + f) l.so)) ∧ Below W.heap.size W w') := fun W => rdown_b _ _ W K1 (by omega)
  generalize soakP (s + f) l.so = k at K HD ⊢
  have e1 : IntKind.i64.wrap (s + f) = s + f := IntWalk.i64_in _ (by omega)
  have e0 : IntKind.i64.wrap f = f := IntWalk.i64_in _ (by omega)
  have jL := (((Blk.new w #[.int .i64 l.gr, .int .i64 l.la, .slice va l.n vcap, .int .i64 l.m0, .int .i64 l.m1, .int .i64 l.so, .int .i64 l.h0, .int .i64 l.h1] 26).alloc (.cells #[.int .i64 b, .int .i64 w0, .int .i64 q, .int .i64 s] 117)).alloc (.cells #[.int .i64 c0, .int .i64 c1, .int .i64 f0, .int .i64 f1, .int .i64 wa, .bool false] 58)).alloc (.cells #[.int .i64 0, .int .i64 0, .int .i64 0, .int .i64 0] 117)
  have jT := ((Blk.new1 w (.cells #[.int .i64 l.gr, .int .i64 l.la, .slice va l.n vcap, .int .i64 l.m0, .int .i64 l.m1, .int .i64 l.so, .int .i64 l.h0, .int .i64 l.h1] 26) #[.int .i64 b, .int .i64 w0, .int .i64 q, .int .i64 s] 117).alloc (.cells #[.int .i64 c0, .int .i64 c1, .int .i64 f0, .int .i64 f1, .int .i64 wa, .bool false] 58)).alloc (.cells #[.int .i64 0, .int .i64 0, .int .i64 0, .int .i64 0] 117)
  have jD := (Blk.new2 w (.cells #[.int .i64 l.gr, .int .i64 l.la, .slice va l.n vcap, .int .i64 l.m0, .int .i64 l.m1, .int .i64 l.so, .int .i64 l.h0, .int .i64 l.h1] 26) (.cells #[.int .i64 b, .int .i64 w0, .int .i64 q, .int .i64 s] 117) #[.int .i64 c0, .int .i64 c1, .int .i64 f0, .int .i64 f1, .int .i64 wa, .bool false] 58).alloc (.cells #[.int .i64 0, .int .i64 0, .int .i64 0, .int .i64 0] 117)
  have jR := Blk.new3 w (.cells #[.int .i64 l.gr, .int .i64 l.la, .slice va l.n vcap, .int .i64 l.m0, .int .i64 l.m1, .int .i64 l.so, .int .i64 l.h0, .int .i64 l.h1] 26) (.cells #[.int .i64 b, .int .i64 w0, .int .i64 q, .int .i64 s] 117) (.cells #[.int .i64 c0, .int .i64 c1, .int .i64 f0, .int .i64 f1, .int .i64 wa, .bool false] 58) #[.int .i64 0, .int .i64 0, .int .i64 0, .int .i64 0] 117
  have jB : Below w.heap.size w ((((w.alloc (.cells #[.int .i64 l.gr, .int .i64 l.la, .slice va l.n vcap, .int .i64 l.m0, .int .i64 l.m1, .int .i64 l.so, .int .i64 l.h0, .int .i64 l.h1] 26)).alloc (.cells #[.int .i64 b, .int .i64 w0, .int .i64 q, .int .i64 s] 117)).alloc (.cells #[.int .i64 c0, .int .i64 c1, .int .i64 f0, .int .i64 f1, .int .i64 wa, .bool false] 58)).alloc (.cells #[.int .i64 0, .int .i64 0, .int .i64 0, .int .i64 0] 117)) := by (repeat (first | exact Below.refl _ _ | assumption | refine Below.drew ?_ | refine Below.drewN ?_ _ | refine blT ?_ | refine blU ?_))
  clear K1 K2
  by_cases hw : 0 < wa
  · rw [if_pos hw, if_pos hw]
    go_enter Tryz.func83, Tryz.ntmps83
    go_upto_region 1 with fail
    generalize ((((w.alloc (.cells #[.int .i64 l.gr, .int .i64 l.la, .slice va l.n vcap, .int .i64 l.m0, .int .i64 l.m1, .int .i64 l.so, .int .i64 l.h0, .int .i64 l.h1] 26)).alloc (.cells #[.int .i64 b, .int .i64 w0, .int .i64 q, .int .i64 s] 117)).alloc (.cells #[.int .i64 c0, .int .i64 c1, .int .i64 f0, .int .i64 f1, .int .i64 wa, .bool false] 58)).alloc (.cells #[.int .i64 0, .int .i64 0, .int .i64 0, .int .i64 0] 117)) = V at jL jT jD jR jB ⊢
    obtain ⟨d0, d2, d3, d4, d5, d6⟩ := jD.c6
    obtain ⟨t0, t1, t2, t3⟩ := jT.c4
    have ft3 := jT.free 3
    have ft2 := jT.free 2
    have zD := jD.lt
    have zT := jT.lt
    have hkk : decide (0 < wa) = true := by simpa using hw
    have e2 : 0 < wa → IntKind.i64.wrap (q + wa) = q + wa := fun _ => IntWalk.i64_in _ (by omega)
    have e3 : IntKind.i64.wrap (q + wa) = q + wa := e2 hw
    have e4 : IntKind.i64.wrap (q + wa + k) = q + wa + k := IntWalk.i64_in _ (by omega)
    clear e2
    have mT : Blk (V.setCell ⟨w.heap.size + 1, 3, none⟩ (.int .i64 (s + f))) (w.heap.size + 1) #[.int .i64 b, .int .i64 w0, .int .i64 q, .int .i64 (s + f)] 117 := jT.set 3 _
    have mL : Blk (V.setCell ⟨w.heap.size + 1, 3, none⟩ (.int .i64 (s + f))) (w.heap.size) #[.int .i64 l.gr, .int .i64 l.la, .slice va l.n vcap, .int .i64 l.m0, .int .i64 l.m1, .int .i64 l.so, .int .i64 l.h0, .int .i64 l.h1] 26 := jL.other _ _ (by first | (simp; done) | (simp; omega))
    have mD : Blk (V.setCell ⟨w.heap.size + 1, 3, none⟩ (.int .i64 (s + f))) (w.heap.size + 1 + 1) #[.int .i64 c0, .int .i64 c1, .int .i64 f0, .int .i64 f1, .int .i64 wa, .bool false] 58 := jD.other _ _ (by first | (simp; done) | (simp; omega))
    have mR : Blk (V.setCell ⟨w.heap.size + 1, 3, none⟩ (.int .i64 (s + f))) (w.heap.size + 1 + 1 + 1) #[.int .i64 0, .int .i64 0, .int .i64 0, .int .i64 0] 117 := jR.other _ _ (by first | (simp; done) | (simp; omega))
    have mB : Below w.heap.size w (V.setCell ⟨w.heap.size + 1, 3, none⟩ (.int .i64 (s + f))) := jB.setCell (by first | (simp; done) | (simp; omega)) _
    go_upto_region 5 with fail
    clear d0 d2 d3 d4 d5 d6 t0 t1 t2 t3 ft3 ft2 zD zT jL jT jD jR jB hw hkk
    generalize (V.setCell ⟨w.heap.size + 1, 3, none⟩ (.int .i64 (s + f))) = V2 at mT mL mD mR mB ⊢
    have kT := mT.drew
    (
 refine wp_region_held_drew (S := (fun w' => Blk w' (w.heap.size) #[.int .i64 l.gr, .int .i64 l.la, .slice va l.n vcap, .int .i64 l.m0, .int .i64 l.m1, .int .i64 l.so, .int .i64 l.h0, .int .i64 l.h1] 26 ∧ Blk w' (w.heap.size + 1 + 1) #[.int .i64 c0, .int .i64 c1, .int .i64 f0, .int .i64 f1, .int .i64 wa, .bool false] 58 ∧ Blk w' (w.heap.size + 1 + 1 + 1) #[.int .i64 0, .int .i64 0, .int .i64 0, .int .i64 0] 117 ∧ Below w.heap.size w w')) (by kernel_rfl) ?_ (fun hH => ?_)
 · (try dsimp only); (exact ⟨mL.drew, mD.drew, mR.drew, mB.drew⟩)
 refine tkY 0 (some 20) ?_ ?_ ?_
 rotate_left
 · intro w hS0; (try dsimp only at hS0); obtain ⟨kl, kd, _, _⟩ := hS0; obtain ⟨l0, l1, l2, l3, l4, l5, l6, l7⟩ := kl.c8; obtain ⟨d0, d1, d2, d3, d4, d5⟩ := kd.c6;go_simp; (try with_reducible rfl)
 (try simp only [cq])
 refine tkY 2 (some 22) ?_ ?_ ?_
 rotate_left
 · intro w hS0; (try dsimp only at hS0); obtain ⟨kl, kd, _, _⟩ := hS0; obtain ⟨l0, l1, l2, l3, l4, l5, l6, l7⟩ := kl.c8; obtain ⟨d0, d1, d2, d3, d4, d5⟩ := kd.c6;go_simp; (try with_reducible rfl)
 (try simp only [cq])
 refine tkY 3 (some 23) ?_ ?_ ?_
 rotate_left
 · intro w hS0; (try dsimp only at hS0); obtain ⟨kl, kd, _, _⟩ := hS0; obtain ⟨l0, l1, l2, l3, l4, l5, l6, l7⟩ := kl.c8; obtain ⟨d0, d1, d2, d3, d4, d5⟩ := kd.c6;go_simp; (try with_reducible rfl)
 (try simp only [cq])
 refine tkY 5 (some 25) ?_ ?_ ?_
 rotate_left
 · intro w hS0; (try dsimp only at hS0); obtain ⟨kl, kd, _, _⟩ := hS0; obtain ⟨l0, l1, l2, l3, l4, l5, l6, l7⟩ := kl.c8; obtain ⟨d0, d1, d2, d3, d4, d5⟩ := kd.c6;go_simp; (try with_reducible rfl)
 (try simp only [cq])
 refine tkY 7 (some 27) ?_ ?_ ?_
 rotate_left
 · intro w hS0; (try dsimp only at hS0); obtain ⟨kl, kd, _, _⟩ := hS0; obtain ⟨l0, l1, l2, l3, l4, l5, l6, l7⟩ := kl.c8; obtain ⟨d0, d1, d2, d3, d4, d5⟩ := kd.c6;go_simp; (try with_reducible rfl)
 (try simp only [cq])
 refine tkY 8 (some 28) ?_ ?_ ?_
 rotate_left
 · intro w hS0; (try dsimp only at hS0); obtain ⟨kl, kd, _, _⟩ := hS0; obtain ⟨l0, l1, l2, l3, l4, l5, l6, l7⟩ := kl.c8; obtain ⟨d0, d1, d2, d3, d4, d5⟩ := kd.c6;go_simp; (try with_reducible rfl)
 (try simp only [cq])
 refine wpAnyH_ready (rs := [1, 6]) (by kernel_rfl) (by simp) ?_
 refine arc (some 21) (fun K hK => ?_) ?_
 {
 have k0 := kT.c4.2.2.1
 go_simp
 refine hK.out _ _ ?_ ?_
 · exact hH
 (try clear hH); (try clear hb)
 intro hH
 clear k0
 clear hK K
 (try simp only [cq])
 refine tkY 4 (some 24) ?_ ?_ ?_
 rotate_left
 · intro w _; go_simp; (try with_reducible rfl)
 (try simp only [cq])
 refine wpAnyH_ready (rs := [6]) (by kernel_rfl) (by simp) ?_
 refine arc1 (some 26) fun K hK => ?_
 have k0 := kT.c4.2.2.2
 go_simp
 refine hK.out _ _ ?_ ?_
 · exact hH
 (try clear hH); (try clear hb)
 intro hH
 clear k0
 clear hK K
 (try simp only [cq])
 refine wpAnyH_ready (rs := [9]) (by kernel_rfl) (by simp) ?_
 refine arc1 (some 29) fun K hK => ?_
 go_simp
 (refine (HD.out _).mono ?_; rintro e w' ⟨rfl, hb⟩; replace kT := kT.call hb)
 refine hK.out _ _ ?_ ?_
 · (exact ⟨hH.1.call hb, hH.2.1.call hb, hH.2.2.1.call hb, bwS hH.2.2.2 (Nat.le_refl _) hb⟩)
 (try clear hH); (try clear hb)
 intro hH
 clear hK K
 (try simp only [cq])
 refine tkY 10 (some 30) ?_ ?_ ?_
 rotate_left
 · intro w _; go_simp; (try with_reducible rfl)
 (try simp only [cq])
 refine tkY 11 (some 31) ?_ ?_ ?_
 rotate_left
 · intro w hS0; (try dsimp only at hS0); obtain ⟨kl, kd, _, _⟩ := hS0; obtain ⟨l0, l1, l2, l3, l4, l5, l6, l7⟩ := kl.c8; obtain ⟨d0, d1, d2, d3, d4, d5⟩ := kd.c6;go_simp; (try with_reducible rfl)
 (try simp only [cq])
 refine wpAnyH_ready (rs := [12]) (by kernel_rfl) (by simp) ?_
 refine arc1 none fun K hK => ?_
 have k0 := kT.c4.2.2.1
 have f0 := kT.free 2
 have zT := kT.lt
 have kT2 : Blk _ _ #[.int .i64 b, .int .i64 w0, .int .i64 (q + wa + k), .int .i64 (s + f)] _ := kT.set 2 (.int .i64 (q + wa + k))
 go_simp
 refine hK.out _ _ ?_ ?_
 · exact ⟨hH.1.other _ _ (by first | (simp; done) | (simp; omega)), hH.2.1.other _ _ (by first | (simp; done) | (simp; omega)), hH.2.2.1.other _ _ (by first | (simp; done) | (simp; omega)), hH.2.2.2.setCell (by first | (simp; done) | (simp; omega)) _⟩
 (try clear hH); (try clear hb)
 intro hH
 clear k0 f0 zT kT
 clear hK K
 (try simp only [cq])
 refine tkY 13 (some 32) ?_ ?_ ?_
 rotate_left
 · intro w hS0; (try dsimp only at hS0); obtain ⟨kl, kd, _, _⟩ := hS0; obtain ⟨l0, l1, l2, l3, l4, l5, l6, l7⟩ := kl.c8; obtain ⟨d0, d1, d2, d3, d4, d5⟩ := kd.c6;go_simp; (try with_reducible rfl)
 (try simp only [cq])
 refine wpAnyH_ready (rs := [14]) (by kernel_rfl) (by simp) ?_
 refine arc1 none fun K hK => ?_
 have k0 := kT2.c4.2.2.2
 have f0 := kT2.free 3
 have zT := kT2.lt
 have kT3 : Blk _ _ #[.int .i64 b, .int .i64 w0, .int .i64 (q + wa + k), .int .i64 0] _ := kT2.set 3 (.int .i64 0)
 go_simp
 refine hK.out _ _ ?_ ?_
 · exact ⟨hH.1.other _ _ (by first | (simp; done) | (simp; omega)), hH.2.1.other _ _ (by first | (simp; done) | (simp; omega)), hH.2.2.1.other _ _ (by first | (simp; done) | (simp; omega)), hH.2.2.2.setCell (by first | (simp; done) | (simp; omega)) _⟩
 (try clear hH); (try clear hb)
 intro hH
 clear k0 f0 zT kT2
 clear hK K
 (try simp only [cq])
 refine wpAnyH_done (by kernel_rfl) ?_ _
 (try dsimp only [Act.put])
 (try simp only [cq])
 obtain ⟨_, _, hR, hB⟩ := hH
 obtain ⟨t0, t1, t2, t3⟩ := kT3.c4
 obtain ⟨r0, r1, r2, r3⟩ := hR.c4
 have fr0 := hR.free 0
 have fr1 := hR.free 1
 have fr2 := hR.free 2
 have fr3 := hR.free 3
 have zT := kT3.lt
 have zR := hR.lt
 have HQ := Lib.hid (hR.set4 (.int .i64 b) (.int .i64 w0) (.int .i64 (q + wa + k)) (.int .i64 0)).c4
 go_wp2
 obtain ⟨z0, z1, z2, z3⟩ := HQ.out
 refine bodyPost_ret (v := .agg #[.int .i64 b, .int .i64 w0, .int .i64 (q + wa + k), .int .i64 0]) (by simp [results, Tryz.results83, go_sem, z0, z1, z2, z3]) rfl ⟨rfl, ?_⟩
 iterate 4 refine Below.setCell ?_ (by first | (simp; done) | (simp; omega)) _
 exact hB
 }
 refine arc (some 26) (fun K hK => ?_) ?_
 {
 have k0 := kT.c4.2.2.2
 go_simp
 refine hK.out _ _ ?_ ?_
 · exact hH
 (try clear hH); (try clear hb)
 intro hH
 clear k0
 clear hK K
 (try simp only [cq])
 refine wpAnyH_ready (rs := [1, 9]) (by kernel_rfl) (by simp) ?_
 refine arc (some 21) (fun K hK => ?_) ?_
 {
 have k0 := kT.c4.2.2.1
 go_simp
 refine hK.out _ _ ?_ ?_
 · exact hH
 (try clear hH); (try clear hb)
 intro hH
 clear k0
 clear hK K
 (try simp only [cq])
 refine tkY 4 (some 24) ?_ ?_ ?_
 rotate_left
 · intro w _; go_simp; (try with_reducible rfl)
 (try simp only [cq])
 refine wpAnyH_ready (rs := [9]) (by kernel_rfl) (by simp) ?_
 refine arc1 (some 29) fun K hK => ?_
 go_simp
 (refine (HD.out _).mono ?_; rintro e w' ⟨rfl, hb⟩; replace kT := kT.call hb)
 refine hK.out _ _ ?_ ?_
 · (exact ⟨hH.1.call hb, hH.2.1.call hb, hH.2.2.1.call hb, bwS hH.2.2.2 (Nat.le_refl _) hb⟩)
 (try clear hH); (try clear hb)
 intro hH
 clear hK K
 (try simp only [cq])
 refine tkY 10 (some 30) ?_ ?_ ?_
 rotate_left
 · intro w _; go_simp; (try with_reducible rfl)
 (try simp only [cq])
 refine tkY 11 (some 31) ?_ ?_ ?_
 rotate_left
 · intro w hS0; (try dsimp only at hS0); obtain ⟨kl, kd, _, _⟩ := hS0; obtain ⟨l0, l1, l2, l3, l4, l5, l6, l7⟩ := kl.c8; obtain ⟨d0, d1, d2, d3, d4, d5⟩ := kd.c6;go_simp; (try with_reducible rfl)
 (try simp only [cq])
 refine wpAnyH_ready (rs := [12]) (by kernel_rfl) (by simp) ?_
 refine arc1 none fun K hK => ?_
 have k0 := kT.c4.2.2.1
 have f0 := kT.free 2
 have zT := kT.lt
 have kT2 : Blk _ _ #[.int .i64 b, .int .i64 w0, .int .i64 (q + wa + k), .int .i64 (s + f)] _ := kT.set 2 (.int .i64 (q + wa + k))
 go_simp
 refine hK.out _ _ ?_ ?_
 · exact ⟨hH.1.other _ _ (by first | (simp; done) | (simp; omega)), hH.2.1.other _ _ (by first | (simp; done) | (simp; omega)), hH.2.2.1.other _ _ (by first | (simp; done) | (simp; omega)), hH.2.2.2.setCell (by first | (simp; done) | (simp; omega)) _⟩
 (try clear hH); (try clear hb)
 intro hH
 clear k0 f0 zT kT
 clear hK K
 (try simp only [cq])
 refine tkY 13 (some 32) ?_ ?_ ?_
 rotate_left
 · intro w hS0; (try dsimp only at hS0); obtain ⟨kl, kd, _, _⟩ := hS0; obtain ⟨l0, l1, l2, l3, l4, l5, l6, l7⟩ := kl.c8; obtain ⟨d0, d1, d2, d3, d4, d5⟩ := kd.c6;go_simp; (try with_reducible rfl)
 (try simp only [cq])
 refine wpAnyH_ready (rs := [14]) (by kernel_rfl) (by simp) ?_
 refine arc1 none fun K hK => ?_
 have k0 := kT2.c4.2.2.2
 have f0 := kT2.free 3
 have zT := kT2.lt
 have kT3 : Blk _ _ #[.int .i64 b, .int .i64 w0, .int .i64 (q + wa + k), .int .i64 0] _ := kT2.set 3 (.int .i64 0)
 go_simp
 refine hK.out _ _ ?_ ?_
 · exact ⟨hH.1.other _ _ (by first | (simp; done) | (simp; omega)), hH.2.1.other _ _ (by first | (simp; done) | (simp; omega)), hH.2.2.1.other _ _ (by first | (simp; done) | (simp; omega)), hH.2.2.2.setCell (by first | (simp; done) | (simp; omega)) _⟩
 (try clear hH); (try clear hb)
 intro hH
 clear k0 f0 zT kT2
 clear hK K
 (try simp only [cq])
 refine wpAnyH_done (by kernel_rfl) ?_ _
 (try dsimp only [Act.put])
 (try simp only [cq])
 obtain ⟨_, _, hR, hB⟩ := hH
 obtain ⟨t0, t1, t2, t3⟩ := kT3.c4
 obtain ⟨r0, r1, r2, r3⟩ := hR.c4
 have fr0 := hR.free 0
 have fr1 := hR.free 1
 have fr2 := hR.free 2
 have fr3 := hR.free 3
 have zT := kT3.lt
 have zR := hR.lt
 have HQ := Lib.hid (hR.set4 (.int .i64 b) (.int .i64 w0) (.int .i64 (q + wa + k)) (.int .i64 0)).c4
 go_wp2
 obtain ⟨z0, z1, z2, z3⟩ := HQ.out
 refine bodyPost_ret (v := .agg #[.int .i64 b, .int .i64 w0, .int .i64 (q + wa + k), .int .i64 0]) (by simp [results, Tryz.results83, go_sem, z0, z1, z2, z3]) rfl ⟨rfl, ?_⟩
 iterate 4 refine Below.setCell ?_ (by first | (simp; done) | (simp; omega)) _
 exact hB
 }
 refine arc (some 29) (fun K hK => ?_) ?_
 {
 go_simp
 (refine (HD.out _).mono ?_; rintro e w' ⟨rfl, hb⟩; replace kT := kT.call hb)
 refine hK.out _ _ ?_ ?_
 · (exact ⟨hH.1.call hb, hH.2.1.call hb, hH.2.2.1.call hb, bwS hH.2.2.2 (Nat.le_refl _) hb⟩)
 (try clear hH); (try clear hb)
 intro hH
 clear hK K
 (try simp only [cq])
 refine wpAnyH_ready (rs := [1]) (by kernel_rfl) (by simp) ?_
 refine arc1 (some 21) fun K hK => ?_
 have k0 := kT.c4.2.2.1
 go_simp
 refine hK.out _ _ ?_ ?_
 · exact hH
 (try clear hH); (try clear hb)
 intro hH
 clear k0
 clear hK K
 (try simp only [cq])
 refine tkY 4 (some 24) ?_ ?_ ?_
 rotate_left
 · intro w _; go_simp; (try with_reducible rfl)
 (try simp only [cq])
 refine tkY 10 (some 30) ?_ ?_ ?_
 rotate_left
 · intro w _; go_simp; (try with_reducible rfl)
 (try simp only [cq])
 refine tkY 11 (some 31) ?_ ?_ ?_
 rotate_left
 · intro w hS0; (try dsimp only at hS0); obtain ⟨kl, kd, _, _⟩ := hS0; obtain ⟨l0, l1, l2, l3, l4, l5, l6, l7⟩ := kl.c8; obtain ⟨d0, d1, d2, d3, d4, d5⟩ := kd.c6;go_simp; (try with_reducible rfl)
 (try simp only [cq])
 refine wpAnyH_ready (rs := [12]) (by kernel_rfl) (by simp) ?_
 refine arc1 none fun K hK => ?_
 have k0 := kT.c4.2.2.1
 have f0 := kT.free 2
 have zT := kT.lt
 have kT2 : Blk _ _ #[.int .i64 b, .int .i64 w0, .int .i64 (q + wa + k), .int .i64 (s + f)] _ := kT.set 2 (.int .i64 (q + wa + k))
 go_simp
 refine hK.out _ _ ?_ ?_
 · exact ⟨hH.1.other _ _ (by first | (simp; done) | (simp; omega)), hH.2.1.other _ _ (by first | (simp; done) | (simp; omega)), hH.2.2.1.other _ _ (by first | (simp; done) | (simp; omega)), hH.2.2.2.setCell (by first | (simp; done) | (simp; omega)) _⟩
 (try clear hH); (try clear hb)
 intro hH
 clear k0 f0 zT kT
 clear hK K
 (try simp only [cq])
 refine tkY 13 (some 32) ?_ ?_ ?_
 rotate_left
 · intro w hS0; (try dsimp only at hS0); obtain ⟨kl, kd, _, _⟩ := hS0; obtain ⟨l0, l1, l2, l3, l4, l5, l6, l7⟩ := kl.c8; obtain ⟨d0, d1, d2, d3, d4, d5⟩ := kd.c6;go_simp; (try with_reducible rfl)
 (try simp only [cq])
 refine wpAnyH_ready (rs := [14]) (by kernel_rfl) (by simp) ?_
 refine arc1 none fun K hK => ?_
 have k0 := kT2.c4.2.2.2
 have f0 := kT2.free 3
 have zT := kT2.lt
 have kT3 : Blk _ _ #[.int .i64 b, .int .i64 w0, .int .i64 (q + wa + k), .int .i64 0] _ := kT2.set 3 (.int .i64 0)
 go_simp
 refine hK.out _ _ ?_ ?_
 · exact ⟨hH.1.other _ _ (by first | (simp; done) | (simp; omega)), hH.2.1.other _ _ (by first | (simp; done) | (simp; omega)), hH.2.2.1.other _ _ (by first | (simp; done) | (simp; omega)), hH.2.2.2.setCell (by first | (simp; done) | (simp; omega)) _⟩
 (try clear hH); (try clear hb)
 intro hH
 clear k0 f0 zT kT2
 clear hK K
 (try simp only [cq])
 refine wpAnyH_done (by kernel_rfl) ?_ _
 (try dsimp only [Act.put])
 (try simp only [cq])
 obtain ⟨_, _, hR, hB⟩ := hH
 obtain ⟨t0, t1, t2, t3⟩ := kT3.c4
 obtain ⟨r0, r1, r2, r3⟩ := hR.c4
 have fr0 := hR.free 0
 have fr1 := hR.free 1
 have fr2 := hR.free 2
 have fr3 := hR.free 3
 have zT := kT3.lt
 have zR := hR.lt
 have HQ := Lib.hid (hR.set4 (.int .i64 b) (.int .i64 w0) (.int .i64 (q + wa + k)) (.int .i64 0)).c4
 go_wp2
 obtain ⟨z0, z1, z2, z3⟩ := HQ.out
 refine bodyPost_ret (v := .agg #[.int .i64 b, .int .i64 w0, .int .i64 (q + wa + k), .int .i64 0]) (by simp [results, Tryz.results83, go_sem, z0, z1, z2, z3]) rfl ⟨rfl, ?_⟩
 iterate 4 refine Below.setCell ?_ (by first | (simp; done) | (simp; omega)) _
 exact hB
 }
 exact AllReadyH.nil
 }
 exact AllReadyH.nil )
  · rw [if_neg hw, if_neg hw]
    go_enter Tryz.func83, Tryz.ntmps83
    go_upto_region 1 with fail
    generalize ((((w.alloc (.cells #[.int .i64 l.gr, .int .i64 l.la, .slice va l.n vcap, .int .i64 l.m0, .int .i64 l.m1, .int .i64 l.so, .int .i64 l.h0, .int .i64 l.h1] 26)).alloc (.cells #[.int .i64 b, .int .i64 w0, .int .i64 q, .int .i64 s] 117)).alloc (.cells #[.int .i64 c0, .int .i64 c1, .int .i64 f0, .int .i64 f1, .int .i64 wa, .bool false] 58)).alloc (.cells #[.int .i64 0, .int .i64 0, .int .i64 0, .int .i64 0] 117)) = V at jL jT jD jR jB ⊢
    obtain ⟨d0, d2, d3, d4, d5, d6⟩ := jD.c6
    obtain ⟨t0, t1, t2, t3⟩ := jT.c4
    have ft3 := jT.free 3
    have ft2 := jT.free 2
    have zD := jD.lt
    have zT := jT.lt
    have hkk : decide (0 < wa) = false := by simpa using hw
    have mR : Blk (V.setCell ⟨w.heap.size + 1, 3, none⟩ (.int .i64 (s + f))) (w.heap.size + 1 + 1 + 1) #[.int .i64 0, .int .i64 0, .int .i64 0, .int .i64 0] 117 := jR.other _ _ (by first | (simp; done) | (simp; omega))
    obtain ⟨r0, r1, r2, r3⟩ := jR.c4
    have fr0 := jR.free 0
    have fr1 := jR.free 1
    have fr2 := jR.free 2
    have fr3 := jR.free 3
    have zR := jR.lt
    have HQ := Lib.hid (mR.set4 (.int .i64 b) (.int .i64 w0) (.int .i64 q) (.int .i64 (s + f))).c4
    clear mR
    go_wp2
    obtain ⟨z0, z1, z2, z3⟩ := HQ.out
    refine bodyPost_ret (v := .agg #[.int .i64 b, .int .i64 w0, .int .i64 q, .int .i64 (s + f)]) (by simp [results, Tryz.results83, go_sem, z0, z1, z2, z3]) rfl ⟨rfl, ?_⟩
    iterate 5 refine Below.setCell ?_ (by first | (simp; done) | (simp; omega)) _
    exact jB

set_option maxRecDepth 100000 in
set_option maxHeartbeats 4000000 in
theorem ropened_true (l : Lw) (va : Option Addr) (vcap : Nat) (b w0 q s c0 c1 f0 f1 wa f : Int) (w : World) (hl : l.Ok) (q1 : 0 ≤ q) (q2 : q ≤ 400000000) (s1 : 0 ≤ s) (s2 : s ≤ 400000000) (g1 : 0 ≤ f) (g2 : f ≤ 1000) (d1 : wa ≤ 200) :
    Calls Tryz.prog 83 #[.agg #[.int .i64 l.gr, .int .i64 l.la, (.slice va l.n vcap), .int .i64 l.m0, .int .i64 l.m1, .int .i64 l.so, .int .i64 l.h0, .int .i64 l.h1], .agg #[.int .i64 b, .int .i64 w0, .int .i64 q, .int .i64 s], .agg #[.int .i64 c0, .int .i64 c1, .int .i64 f0, .int .i64 f1, .int .i64 wa, .bool true], .int .i64 f] w fun e w' => e = .returned (.agg #[.int .i64 b, .int .i64 w0, .int .i64 (if 0 < wa then q + wa + soakP f l.so else q), .int .i64 (if 0 < wa then 0 else f)]) ∧ Below w.heap.size w w' := by
  have K := soak_le f l.so (by omega) hl.o0 hl.o1
  have K1 : 0 ≤ f * l.so := Int.mul_nonneg (by omega) hl.o0
  have K2 : f * l.so ≤ 400001000 * 1000000 := Int.mul_le_mul (by omega) hl.o1 hl.o0 (by omega)
  have HD : Hid (∀ W, Calls Tryz.prog 72 #[.int .i64 f, .int .i64 l.so] W fun e w' => e = .returned (.int .i64 (soakP f l.so)) ∧ Below W.heap.size W w') := fun W => rdown_b _ _ W K1 (by omega)
  generalize soakP f l.so = k at K HD ⊢
  have e1 : IntKind.i64.wrap (s + f) = s + f := IntWalk.i64_in _ (by omega)
  have e0 : IntKind.i64.wrap f = f := IntWalk.i64_in _ (by omega)
  have jL := (((Blk.new w #[.int .i64 l.gr, .int .i64 l.la, .slice va l.n vcap, .int .i64 l.m0, .int .i64 l.m1, .int .i64 l.so, .int .i64 l.h0, .int .i64 l.h1] 26).alloc (.cells #[.int .i64 b, .int .i64 w0, .int .i64 q, .int .i64 s] 117)).alloc (.cells #[.int .i64 c0, .int .i64 c1, .int .i64 f0, .int .i64 f1, .int .i64 wa, .bool true] 58)).alloc (.cells #[.int .i64 0, .int .i64 0, .int .i64 0, .int .i64 0] 117)
  have jT := ((Blk.new1 w (.cells #[.int .i64 l.gr, .int .i64 l.la, .slice va l.n vcap, .int .i64 l.m0, .int .i64 l.m1, .int .i64 l.so, .int .i64 l.h0, .int .i64 l.h1] 26) #[.int .i64 b, .int .i64 w0, .int .i64 q, .int .i64 s] 117).alloc (.cells #[.int .i64 c0, .int .i64 c1, .int .i64 f0, .int .i64 f1, .int .i64 wa, .bool true] 58)).alloc (.cells #[.int .i64 0, .int .i64 0, .int .i64 0, .int .i64 0] 117)
  have jD := (Blk.new2 w (.cells #[.int .i64 l.gr, .int .i64 l.la, .slice va l.n vcap, .int .i64 l.m0, .int .i64 l.m1, .int .i64 l.so, .int .i64 l.h0, .int .i64 l.h1] 26) (.cells #[.int .i64 b, .int .i64 w0, .int .i64 q, .int .i64 s] 117) #[.int .i64 c0, .int .i64 c1, .int .i64 f0, .int .i64 f1, .int .i64 wa, .bool true] 58).alloc (.cells #[.int .i64 0, .int .i64 0, .int .i64 0, .int .i64 0] 117)
  have jR := Blk.new3 w (.cells #[.int .i64 l.gr, .int .i64 l.la, .slice va l.n vcap, .int .i64 l.m0, .int .i64 l.m1, .int .i64 l.so, .int .i64 l.h0, .int .i64 l.h1] 26) (.cells #[.int .i64 b, .int .i64 w0, .int .i64 q, .int .i64 s] 117) (.cells #[.int .i64 c0, .int .i64 c1, .int .i64 f0, .int .i64 f1, .int .i64 wa, .bool true] 58) #[.int .i64 0, .int .i64 0, .int .i64 0, .int .i64 0] 117
  have jB : Below w.heap.size w ((((w.alloc (.cells #[.int .i64 l.gr, .int .i64 l.la, .slice va l.n vcap, .int .i64 l.m0, .int .i64 l.m1, .int .i64 l.so, .int .i64 l.h0, .int .i64 l.h1] 26)).alloc (.cells #[.int .i64 b, .int .i64 w0, .int .i64 q, .int .i64 s] 117)).alloc (.cells #[.int .i64 c0, .int .i64 c1, .int .i64 f0, .int .i64 f1, .int .i64 wa, .bool true] 58)).alloc (.cells #[.int .i64 0, .int .i64 0, .int .i64 0, .int .i64 0] 117)) := by (repeat (first | exact Below.refl _ _ | assumption | refine Below.drew ?_ | refine Below.drewN ?_ _ | refine blT ?_ | refine blU ?_))
  clear K1 K2
  by_cases hw : 0 < wa
  · rw [if_pos hw, if_pos hw]
    go_enter Tryz.func83, Tryz.ntmps83
    go_upto_region 1 with fail
    generalize ((((w.alloc (.cells #[.int .i64 l.gr, .int .i64 l.la, .slice va l.n vcap, .int .i64 l.m0, .int .i64 l.m1, .int .i64 l.so, .int .i64 l.h0, .int .i64 l.h1] 26)).alloc (.cells #[.int .i64 b, .int .i64 w0, .int .i64 q, .int .i64 s] 117)).alloc (.cells #[.int .i64 c0, .int .i64 c1, .int .i64 f0, .int .i64 f1, .int .i64 wa, .bool true] 58)).alloc (.cells #[.int .i64 0, .int .i64 0, .int .i64 0, .int .i64 0] 117)) = V at jL jT jD jR jB ⊢
    obtain ⟨d0, d2, d3, d4, d5, d6⟩ := jD.c6
    obtain ⟨t0, t1, t2, t3⟩ := jT.c4
    have ft3 := jT.free 3
    have ft2 := jT.free 2
    have zD := jD.lt
    have zT := jT.lt
    have hkk : decide (0 < wa) = true := by simpa using hw
    have e2 : 0 < wa → IntKind.i64.wrap (q + wa) = q + wa := fun _ => IntWalk.i64_in _ (by omega)
    have e3 : IntKind.i64.wrap (q + wa) = q + wa := e2 hw
    have e4 : IntKind.i64.wrap (q + wa + k) = q + wa + k := IntWalk.i64_in _ (by omega)
    clear e2
    have mT : Blk ((V.setCell ⟨w.heap.size + 1, 3, none⟩ (.int .i64 0)).setCell ⟨w.heap.size + 1, 3, none⟩ (.int .i64 f)) (w.heap.size + 1) #[.int .i64 b, .int .i64 w0, .int .i64 q, .int .i64 f] 117 := (jT.set 3 _).set 3 _
    have mL : Blk ((V.setCell ⟨w.heap.size + 1, 3, none⟩ (.int .i64 0)).setCell ⟨w.heap.size + 1, 3, none⟩ (.int .i64 f)) (w.heap.size) #[.int .i64 l.gr, .int .i64 l.la, .slice va l.n vcap, .int .i64 l.m0, .int .i64 l.m1, .int .i64 l.so, .int .i64 l.h0, .int .i64 l.h1] 26 := (jL.other _ _ (by first | (simp; done) | (simp; omega))).other _ _ (by first | (simp; done) | (simp; omega))
    have mD : Blk ((V.setCell ⟨w.heap.size + 1, 3, none⟩ (.int .i64 0)).setCell ⟨w.heap.size + 1, 3, none⟩ (.int .i64 f)) (w.heap.size + 1 + 1) #[.int .i64 c0, .int .i64 c1, .int .i64 f0, .int .i64 f1, .int .i64 wa, .bool true] 58 := (jD.other _ _ (by first | (simp; done) | (simp; omega))).other _ _ (by first | (simp; done) | (simp; omega))
    have mR : Blk ((V.setCell ⟨w.heap.size + 1, 3, none⟩ (.int .i64 0)).setCell ⟨w.heap.size + 1, 3, none⟩ (.int .i64 f)) (w.heap.size + 1 + 1 + 1) #[.int .i64 0, .int .i64 0, .int .i64 0, .int .i64 0] 117 := (jR.other _ _ (by first | (simp; done) | (simp; omega))).other _ _ (by first | (simp; done) | (simp; omega))
    have mB : Below w.heap.size w ((V.setCell ⟨w.heap.size + 1, 3, none⟩ (.int .i64 0)).setCell ⟨w.heap.size + 1, 3, none⟩ (.int .i64 f)) := (jB.setCell (by first | (simp; done) | (simp; omega)) _).setCell (by first | (simp; done) | (simp; omega)) _
    go_upto_region 5 with fail
    clear d0 d2 d3 d4 d5 d6 t0 t1 t2 t3 ft3 ft2 zD zT jL jT jD jR jB hw hkk
    generalize ((V.setCell ⟨w.heap.size + 1, 3, none⟩ (.int .i64 0)).setCell ⟨w.heap.size + 1, 3, none⟩ (.int .i64 f)) = V2 at mT mL mD mR mB ⊢
    have kT := mT.drew
    (
 refine wp_region_held_drew (S := (fun w' => Blk w' (w.heap.size) #[.int .i64 l.gr, .int .i64 l.la, .slice va l.n vcap, .int .i64 l.m0, .int .i64 l.m1, .int .i64 l.so, .int .i64 l.h0, .int .i64 l.h1] 26 ∧ Blk w' (w.heap.size + 1 + 1) #[.int .i64 c0, .int .i64 c1, .int .i64 f0, .int .i64 f1, .int .i64 wa, .bool true] 58 ∧ Blk w' (w.heap.size + 1 + 1 + 1) #[.int .i64 0, .int .i64 0, .int .i64 0, .int .i64 0] 117 ∧ Below w.heap.size w w')) (by kernel_rfl) ?_ (fun hH => ?_)
 · (try dsimp only); (exact ⟨mL.drew, mD.drew, mR.drew, mB.drew⟩)
 refine tkY 0 (some 20) ?_ ?_ ?_
 rotate_left
 · intro w hS0; (try dsimp only at hS0); obtain ⟨kl, kd, _, _⟩ := hS0; obtain ⟨l0, l1, l2, l3, l4, l5, l6, l7⟩ := kl.c8; obtain ⟨d0, d1, d2, d3, d4, d5⟩ := kd.c6;go_simp; (try with_reducible rfl)
 (try simp only [cq])
 refine tkY 2 (some 22) ?_ ?_ ?_
 rotate_left
 · intro w hS0; (try dsimp only at hS0); obtain ⟨kl, kd, _, _⟩ := hS0; obtain ⟨l0, l1, l2, l3, l4, l5, l6, l7⟩ := kl.c8; obtain ⟨d0, d1, d2, d3, d4, d5⟩ := kd.c6;go_simp; (try with_reducible rfl)
 (try simp only [cq])
 refine tkY 3 (some 23) ?_ ?_ ?_
 rotate_left
 · intro w hS0; (try dsimp only at hS0); obtain ⟨kl, kd, _, _⟩ := hS0; obtain ⟨l0, l1, l2, l3, l4, l5, l6, l7⟩ := kl.c8; obtain ⟨d0, d1, d2, d3, d4, d5⟩ := kd.c6;go_simp; (try with_reducible rfl)
 (try simp only [cq])
 refine tkY 5 (some 25) ?_ ?_ ?_
 rotate_left
 · intro w hS0; (try dsimp only at hS0); obtain ⟨kl, kd, _, _⟩ := hS0; obtain ⟨l0, l1, l2, l3, l4, l5, l6, l7⟩ := kl.c8; obtain ⟨d0, d1, d2, d3, d4, d5⟩ := kd.c6;go_simp; (try with_reducible rfl)
 (try simp only [cq])
 refine tkY 7 (some 27) ?_ ?_ ?_
 rotate_left
 · intro w hS0; (try dsimp only at hS0); obtain ⟨kl, kd, _, _⟩ := hS0; obtain ⟨l0, l1, l2, l3, l4, l5, l6, l7⟩ := kl.c8; obtain ⟨d0, d1, d2, d3, d4, d5⟩ := kd.c6;go_simp; (try with_reducible rfl)
 (try simp only [cq])
 refine tkY 8 (some 28) ?_ ?_ ?_
 rotate_left
 · intro w hS0; (try dsimp only at hS0); obtain ⟨kl, kd, _, _⟩ := hS0; obtain ⟨l0, l1, l2, l3, l4, l5, l6, l7⟩ := kl.c8; obtain ⟨d0, d1, d2, d3, d4, d5⟩ := kd.c6;go_simp; (try with_reducible rfl)
 (try simp only [cq])
 refine wpAnyH_ready (rs := [1, 6]) (by kernel_rfl) (by simp) ?_
 refine arc (some 21) (fun K hK => ?_) ?_
 {
 have k0 := kT.c4.2.2.1
 go_simp
 refine hK.out _ _ ?_ ?_
 · exact hH
 (try clear hH); (try clear hb)
 intro hH
 clear k0
 clear hK K
 (try simp only [cq])
 refine tkY 4 (some 24) ?_ ?_ ?_
 rotate_left
 · intro w _; go_simp; (try with_reducible rfl)
 (try simp only [cq])
 refine wpAnyH_ready (rs := [6]) (by kernel_rfl) (by simp) ?_
 refine arc1 (some 26) fun K hK => ?_
 have k0 := kT.c4.2.2.2
 go_simp
 refine hK.out _ _ ?_ ?_
 · exact hH
 (try clear hH); (try clear hb)
 intro hH
 clear k0
 clear hK K
 (try simp only [cq])
 refine wpAnyH_ready (rs := [9]) (by kernel_rfl) (by simp) ?_
 refine arc1 (some 29) fun K hK => ?_
 go_simp
 (refine (HD.out _).mono ?_; rintro e w' ⟨rfl, hb⟩; replace kT := kT.call hb)
 refine hK.out _ _ ?_ ?_
 · (exact ⟨hH.1.call hb, hH.2.1.call hb, hH.2.2.1.call hb, bwS hH.2.2.2 (Nat.le_refl _) hb⟩)
 (try clear hH); (try clear hb)
 intro hH
 clear hK K
 (try simp only [cq])
 refine tkY 10 (some 30) ?_ ?_ ?_
 rotate_left
 · intro w _; go_simp; (try with_reducible rfl)
 (try simp only [cq])
 refine tkY 11 (some 31) ?_ ?_ ?_
 rotate_left
 · intro w hS0; (try dsimp only at hS0); obtain ⟨kl, kd, _, _⟩ := hS0; obtain ⟨l0, l1, l2, l3, l4, l5, l6, l7⟩ := kl.c8; obtain ⟨d0, d1, d2, d3, d4, d5⟩ := kd.c6;go_simp; (try with_reducible rfl)
 (try simp only [cq])
 refine wpAnyH_ready (rs := [12]) (by kernel_rfl) (by simp) ?_
 refine arc1 none fun K hK => ?_
 have k0 := kT.c4.2.2.1
 have f0 := kT.free 2
 have zT := kT.lt
 have kT2 : Blk _ _ #[.int .i64 b, .int .i64 w0, .int .i64 (q + wa + k), .int .i64 f] _ := kT.set 2 (.int .i64 (q + wa + k))
 go_simp
 refine hK.out _ _ ?_ ?_
 · exact ⟨hH.1.other _ _ (by first | (simp; done) | (simp; omega)), hH.2.1.other _ _ (by first | (simp; done) | (simp; omega)), hH.2.2.1.other _ _ (by first | (simp; done) | (simp; omega)), hH.2.2.2.setCell (by first | (simp; done) | (simp; omega)) _⟩
 (try clear hH); (try clear hb)
 intro hH
 clear k0 f0 zT kT
 clear hK K
 (try simp only [cq])
 refine tkY 13 (some 32) ?_ ?_ ?_
 rotate_left
 · intro w hS0; (try dsimp only at hS0); obtain ⟨kl, kd, _, _⟩ := hS0; obtain ⟨l0, l1, l2, l3, l4, l5, l6, l7⟩ := kl.c8; obtain ⟨d0, d1, d2, d3, d4, d5⟩ := kd.c6;go_simp; (try with_reducible rfl)
 (try simp only [cq])
 refine wpAnyH_ready (rs := [14]) (by kernel_rfl) (by simp) ?_
 refine arc1 none fun K hK => ?_
 have k0 := kT2.c4.2.2.2
 have f0 := kT2.free 3
 have zT := kT2.lt
 have kT3 : Blk _ _ #[.int .i64 b, .int .i64 w0, .int .i64 (q + wa + k), .int .i64 0] _ := kT2.set 3 (.int .i64 0)
 go_simp
 refine hK.out _ _ ?_ ?_
 · exact ⟨hH.1.other _ _ (by first | (simp; done) | (simp; omega)), hH.2.1.other _ _ (by first | (simp; done) | (simp; omega)), hH.2.2.1.other _ _ (by first | (simp; done) | (simp; omega)), hH.2.2.2.setCell (by first | (simp; done) | (simp; omega)) _⟩
 (try clear hH); (try clear hb)
 intro hH
 clear k0 f0 zT kT2
 clear hK K
 (try simp only [cq])
 refine wpAnyH_done (by kernel_rfl) ?_ _
 (try dsimp only [Act.put])
 (try simp only [cq])
 obtain ⟨_, _, hR, hB⟩ := hH
 obtain ⟨t0, t1, t2, t3⟩ := kT3.c4
 obtain ⟨r0, r1, r2, r3⟩ := hR.c4
 have fr0 := hR.free 0
 have fr1 := hR.free 1
 have fr2 := hR.free 2
 have fr3 := hR.free 3
 have zT := kT3.lt
 have zR := hR.lt
 have HQ := Lib.hid (hR.set4 (.int .i64 b) (.int .i64 w0) (.int .i64 (q + wa + k)) (.int .i64 0)).c4
 go_wp2
 obtain ⟨z0, z1, z2, z3⟩ := HQ.out
 refine bodyPost_ret (v := .agg #[.int .i64 b, .int .i64 w0, .int .i64 (q + wa + k), .int .i64 0]) (by simp [results, Tryz.results83, go_sem, z0, z1, z2, z3]) rfl ⟨rfl, ?_⟩
 iterate 4 refine Below.setCell ?_ (by first | (simp; done) | (simp; omega)) _
 exact hB
 }
 refine arc (some 26) (fun K hK => ?_) ?_
 {
 have k0 := kT.c4.2.2.2
 go_simp
 refine hK.out _ _ ?_ ?_
 · exact hH
 (try clear hH); (try clear hb)
 intro hH
 clear k0
 clear hK K
 (try simp only [cq])
 refine wpAnyH_ready (rs := [1, 9]) (by kernel_rfl) (by simp) ?_
 refine arc (some 21) (fun K hK => ?_) ?_
 {
 have k0 := kT.c4.2.2.1
 go_simp
 refine hK.out _ _ ?_ ?_
 · exact hH
 (try clear hH); (try clear hb)
 intro hH
 clear k0
 clear hK K
 (try simp only [cq])
 refine tkY 4 (some 24) ?_ ?_ ?_
 rotate_left
 · intro w _; go_simp; (try with_reducible rfl)
 (try simp only [cq])
 refine wpAnyH_ready (rs := [9]) (by kernel_rfl) (by simp) ?_
 refine arc1 (some 29) fun K hK => ?_
 go_simp
 (refine (HD.out _).mono ?_; rintro e w' ⟨rfl, hb⟩; replace kT := kT.call hb)
 refine hK.out _ _ ?_ ?_
 · (exact ⟨hH.1.call hb, hH.2.1.call hb, hH.2.2.1.call hb, bwS hH.2.2.2 (Nat.le_refl _) hb⟩)
 (try clear hH); (try clear hb)
 intro hH
 clear hK K
 (try simp only [cq])
 refine tkY 10 (some 30) ?_ ?_ ?_
 rotate_left
 · intro w _; go_simp; (try with_reducible rfl)
 (try simp only [cq])
 refine tkY 11 (some 31) ?_ ?_ ?_
 rotate_left
 · intro w hS0; (try dsimp only at hS0); obtain ⟨kl, kd, _, _⟩ := hS0; obtain ⟨l0, l1, l2, l3, l4, l5, l6, l7⟩ := kl.c8; obtain ⟨d0, d1, d2, d3, d4, d5⟩ := kd.c6;go_simp; (try with_reducible rfl)
 (try simp only [cq])
 refine wpAnyH_ready (rs := [12]) (by kernel_rfl) (by simp) ?_
 refine arc1 none fun K hK => ?_
 have k0 := kT.c4.2.2.1
 have f0 := kT.free 2
 have zT := kT.lt
 have kT2 : Blk _ _ #[.int .i64 b, .int .i64 w0, .int .i64 (q + wa + k), .int .i64 f] _ := kT.set 2 (.int .i64 (q + wa + k))
 go_simp
 refine hK.out _ _ ?_ ?_
 · exact ⟨hH.1.other _ _ (by first | (simp; done) | (simp; omega)), hH.2.1.other _ _ (by first | (simp; done) | (simp; omega)), hH.2.2.1.other _ _ (by first | (simp; done) | (simp; omega)), hH.2.2.2.setCell (by first | (simp; done) | (simp; omega)) _⟩
 (try clear hH); (try clear hb)
 intro hH
 clear k0 f0 zT kT
 clear hK K
 (try simp only [cq])
 refine tkY 13 (some 32) ?_ ?_ ?_
 rotate_left
 · intro w hS0; (try dsimp only at hS0); obtain ⟨kl, kd, _, _⟩ := hS0; obtain ⟨l0, l1, l2, l3, l4, l5, l6, l7⟩ := kl.c8; obtain ⟨d0, d1, d2, d3, d4, d5⟩ := kd.c6;go_simp; (try with_reducible rfl)
 (try simp only [cq])
 refine wpAnyH_ready (rs := [14]) (by kernel_rfl) (by simp) ?_
 refine arc1 none fun K hK => ?_
 have k0 := kT2.c4.2.2.2
 have f0 := kT2.free 3
 have zT := kT2.lt
 have kT3 : Blk _ _ #[.int .i64 b, .int .i64 w0, .int .i64 (q + wa + k), .int .i64 0] _ := kT2.set 3 (.int .i64 0)
 go_simp
 refine hK.out _ _ ?_ ?_
 · exact ⟨hH.1.other _ _ (by first | (simp; done) | (simp; omega)), hH.2.1.other _ _ (by first | (simp; done) | (simp; omega)), hH.2.2.1.other _ _ (by first | (simp; done) | (simp; omega)), hH.2.2.2.setCell (by first | (simp; done) | (simp; omega)) _⟩
 (try clear hH); (try clear hb)
 intro hH
 clear k0 f0 zT kT2
 clear hK K
 (try simp only [cq])
 refine wpAnyH_done (by kernel_rfl) ?_ _
 (try dsimp only [Act.put])
 (try simp only [cq])
 obtain ⟨_, _, hR, hB⟩ := hH
 obtain ⟨t0, t1, t2, t3⟩ := kT3.c4
 obtain ⟨r0, r1, r2, r3⟩ := hR.c4
 have fr0 := hR.free 0
 have fr1 := hR.free 1
 have fr2 := hR.free 2
 have fr3 := hR.free 3
 have zT := kT3.lt
 have zR := hR.lt
 have HQ := Lib.hid (hR.set4 (.int .i64 b) (.int .i64 w0) (.int .i64 (q + wa + k)) (.int .i64 0)).c4
 go_wp2
 obtain ⟨z0, z1, z2, z3⟩ := HQ.out
 refine bodyPost_ret (v := .agg #[.int .i64 b, .int .i64 w0, .int .i64 (q + wa + k), .int .i64 0]) (by simp [results, Tryz.results83, go_sem, z0, z1, z2, z3]) rfl ⟨rfl, ?_⟩
 iterate 4 refine Below.setCell ?_ (by first | (simp; done) | (simp; omega)) _
 exact hB
 }
 refine arc (some 29) (fun K hK => ?_) ?_
 {
 go_simp
 (refine (HD.out _).mono ?_; rintro e w' ⟨rfl, hb⟩; replace kT := kT.call hb)
 refine hK.out _ _ ?_ ?_
 · (exact ⟨hH.1.call hb, hH.2.1.call hb, hH.2.2.1.call hb, bwS hH.2.2.2 (Nat.le_refl _) hb⟩)
 (try clear hH); (try clear hb)
 intro hH
 clear hK K
 (try simp only [cq])
 refine wpAnyH_ready (rs := [1]) (by kernel_rfl) (by simp) ?_
 refine arc1 (some 21) fun K hK => ?_
 have k0 := kT.c4.2.2.1
 go_simp
 refine hK.out _ _ ?_ ?_
 · exact hH
 (try clear hH); (try clear hb)
 intro hH
 clear k0
 clear hK K
 (try simp only [cq])
 refine tkY 4 (some 24) ?_ ?_ ?_
 rotate_left
 · intro w _; go_simp; (try with_reducible rfl)
 (try simp only [cq])
 refine tkY 10 (some 30) ?_ ?_ ?_
 rotate_left
 · intro w _; go_simp; (try with_reducible rfl)
 (try simp only [cq])
 refine tkY 11 (some 31) ?_ ?_ ?_
 rotate_left
 · intro w hS0; (try dsimp only at hS0); obtain ⟨kl, kd, _, _⟩ := hS0; obtain ⟨l0, l1, l2, l3, l4, l5, l6, l7⟩ := kl.c8; obtain ⟨d0, d1, d2, d3, d4, d5⟩ := kd.c6;go_simp; (try with_reducible rfl)
 (try simp only [cq])
 refine wpAnyH_ready (rs := [12]) (by kernel_rfl) (by simp) ?_
 refine arc1 none fun K hK => ?_
 have k0 := kT.c4.2.2.1
 have f0 := kT.free 2
 have zT := kT.lt
 have kT2 : Blk _ _ #[.int .i64 b, .int .i64 w0, .int .i64 (q + wa + k), .int .i64 f] _ := kT.set 2 (.int .i64 (q + wa + k))
 go_simp
 refine hK.out _ _ ?_ ?_
 · exact ⟨hH.1.other _ _ (by first | (simp; done) | (simp; omega)), hH.2.1.other _ _ (by first | (simp; done) | (simp; omega)), hH.2.2.1.other _ _ (by first | (simp; done) | (simp; omega)), hH.2.2.2.setCell (by first | (simp; done) | (simp; omega)) _⟩
 (try clear hH); (try clear hb)
 intro hH
 clear k0 f0 zT kT
 clear hK K
 (try simp only [cq])
 refine tkY 13 (some 32) ?_ ?_ ?_
 rotate_left
 · intro w hS0; (try dsimp only at hS0); obtain ⟨kl, kd, _, _⟩ := hS0; obtain ⟨l0, l1, l2, l3, l4, l5, l6, l7⟩ := kl.c8; obtain ⟨d0, d1, d2, d3, d4, d5⟩ := kd.c6;go_simp; (try with_reducible rfl)
 (try simp only [cq])
 refine wpAnyH_ready (rs := [14]) (by kernel_rfl) (by simp) ?_
 refine arc1 none fun K hK => ?_
 have k0 := kT2.c4.2.2.2
 have f0 := kT2.free 3
 have zT := kT2.lt
 have kT3 : Blk _ _ #[.int .i64 b, .int .i64 w0, .int .i64 (q + wa + k), .int .i64 0] _ := kT2.set 3 (.int .i64 0)
 go_simp
 refine hK.out _ _ ?_ ?_
 · exact ⟨hH.1.other _ _ (by first | (simp; done) | (simp; omega)), hH.2.1.other _ _ (by first | (simp; done) | (simp; omega)), hH.2.2.1.other _ _ (by first | (simp; done) | (simp; omega)), hH.2.2.2.setCell (by first | (simp; done) | (simp; omega)) _⟩
 (try clear hH); (try clear hb)
 intro hH
 clear k0 f0 zT kT2
 clear hK K
 (try simp only [cq])
 refine wpAnyH_done (by kernel_rfl) ?_ _
 (try dsimp only [Act.put])
 (try simp only [cq])
 obtain ⟨_, _, hR, hB⟩ := hH
 obtain ⟨t0, t1, t2, t3⟩ := kT3.c4
 obtain ⟨r0, r1, r2, r3⟩ := hR.c4
 have fr0 := hR.free 0
 have fr1 := hR.free 1
 have fr2 := hR.free 2
 have fr3 := hR.free 3
 have zT := kT3.lt
 have zR := hR.lt
 have HQ := Lib.hid (hR.set4 (.int .i64 b) (.int .i64 w0) (.int .i64 (q + wa + k)) (.int .i64 0)).c4
 go_wp2
 obtain ⟨z0, z1, z2, z3⟩ := HQ.out
 refine bodyPost_ret (v := .agg #[.int .i64 b, .int .i64 w0, .int .i64 (q + wa + k), .int .i64 0]) (by simp [results, Tryz.results83, go_sem, z0, z1, z2, z3]) rfl ⟨rfl, ?_⟩
 iterate 4 refine Below.setCell ?_ (by first | (simp; done) | (simp; omega)) _
 exact hB
 }
 exact AllReadyH.nil
 }
 exact AllReadyH.nil )
  · rw [if_neg hw, if_neg hw]
    go_enter Tryz.func83, Tryz.ntmps83
    go_upto_region 1 with fail
    generalize ((((w.alloc (.cells #[.int .i64 l.gr, .int .i64 l.la, .slice va l.n vcap, .int .i64 l.m0, .int .i64 l.m1, .int .i64 l.so, .int .i64 l.h0, .int .i64 l.h1] 26)).alloc (.cells #[.int .i64 b, .int .i64 w0, .int .i64 q, .int .i64 s] 117)).alloc (.cells #[.int .i64 c0, .int .i64 c1, .int .i64 f0, .int .i64 f1, .int .i64 wa, .bool true] 58)).alloc (.cells #[.int .i64 0, .int .i64 0, .int .i64 0, .int .i64 0] 117)) = V at jL jT jD jR jB ⊢
    obtain ⟨d0, d2, d3, d4, d5, d6⟩ := jD.c6
    obtain ⟨t0, t1, t2, t3⟩ := jT.c4
    have ft3 := jT.free 3
    have ft2 := jT.free 2
    have zD := jD.lt
    have zT := jT.lt
    have hkk : decide (0 < wa) = false := by simpa using hw
    have mR : Blk ((V.setCell ⟨w.heap.size + 1, 3, none⟩ (.int .i64 0)).setCell ⟨w.heap.size + 1, 3, none⟩ (.int .i64 f)) (w.heap.size + 1 + 1 + 1) #[.int .i64 0, .int .i64 0, .int .i64 0, .int .i64 0] 117 := (jR.other _ _ (by first | (simp; done) | (simp; omega))).other _ _ (by first | (simp; done) | (simp; omega))
    obtain ⟨r0, r1, r2, r3⟩ := jR.c4
    have fr0 := jR.free 0
    have fr1 := jR.free 1
    have fr2 := jR.free 2
    have fr3 := jR.free 3
    have zR := jR.lt
    have HQ := Lib.hid (mR.set4 (.int .i64 b) (.int .i64 w0) (.int .i64 q) (.int .i64 f)).c4
    clear mR
    go_wp2
    obtain ⟨z0, z1, z2, z3⟩ := HQ.out
    refine bodyPost_ret (v := .agg #[.int .i64 b, .int .i64 w0, .int .i64 q, .int .i64 f]) (by simp [results, Tryz.results83, go_sem, z0, z1, z2, z3]) rfl ⟨rfl, ?_⟩
    iterate 6 refine Below.setCell ?_ (by first | (simp; done) | (simp; omega)) _
    exact jB

theorem ropened_any (l : Lw) (va : Option Addr) (vcap : Nat) (b w0 q s : Int) (d : Dy) (f : Int) (w : World) (hl : l.Ok) (q1 : 0 ≤ q) (q2 : q ≤ 400000000) (s1 : 0 ≤ s) (s2 : s ≤ 400000000) (f1 : 0 ≤ f) (f2 : f ≤ 1000) (d1 : d.wa ≤ 200) :
    Calls Tryz.prog 83 #[.agg #[.int .i64 l.gr, .int .i64 l.la, (.slice va l.n vcap), .int .i64 l.m0, .int .i64 l.m1, .int .i64 l.so, .int .i64 l.h0, .int .i64 l.h1], .agg #[.int .i64 b, .int .i64 w0, .int .i64 q, .int .i64 s], .agg #[.int .i64 d.c0, .int .i64 d.c1, .int .i64 d.f0, .int .i64 d.f1, .int .i64 d.wa, .bool d.cl], .int .i64 f] w fun e w' => e = .returned (.agg #[.int .i64 b, .int .i64 w0, .int .i64 (wetP d.wa q (snowP d.cl s f) l.so), .int .i64 (leftP d.wa (snowP d.cl s f))]) ∧ Below w.heap.size w w' := by
  obtain ⟨c0, c1, g0, g1, wa, cl⟩ := d
  cases cl with
  | false =>
    have h := ropened_false l va vcap b w0 q s c0 c1 g0 g1 wa f w hl q1 q2 s1 s2 f1 f2 d1
    simpa [wetP, leftP, snowP] using h
  | true =>
    have h := ropened_true l va vcap b w0 q s c0 c1 g0 g1 wa f w hl q1 q2 s1 s2 f1 f2 d1
    simpa [wetP, leftP, snowP] using h

end Go.Proofs.YtdbiijldincoiaaGreat
