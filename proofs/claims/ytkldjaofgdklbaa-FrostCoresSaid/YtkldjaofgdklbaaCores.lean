/-
  FrostCores says yes: the program and the reference say the same of any ice and core.
-/
import Derived.Test.YtkldjaofgdklbaaTail
import Derived.Test.YtkldjaofgdklbaaInner
import Derived.Test.YtkldjaofgdklbaaArr
import Derived.Test.YtkldjaofgdklbaaRCore
import Derived.Test.YtkldjaofgdklbaaAwake
import Derived.IntWalk
import Derived.Test.YtkldjaofgdklbaaShare
set_option linter.unusedVariables false
set_option linter.unusedSimpArgs false
namespace Go.Proofs.Ytkldjaofgdklbaa
open Go.RowKit

theorem coV_ic (x c : Ic) : ∃ v : Ic, coV x c = .agg #[.int .i64 v.b0, .int .i64 v.b1, .int .i64 v.w0, .int .i64 v.w1, .int .i64 v.q0, .int .i64 v.q1, .int .i64 v.s0, .int .i64 v.s1] := by
  unfold coV
  split
  · exact ⟨coI x c, rfl⟩
  · exact ⟨⟨0, 0, 0, 0, 0, 0, 0, 0⟩, rfl⟩
set_option maxRecDepth 100000 in
set_option maxHeartbeats 16000000 in
theorem cores_any (x c : Ic) (a : Option Addr) (n cap : Nat) (w : World) (hn : NumsAt w a n) :
    Calls Try.prog 4 #[.agg #[.int .i64 x.b0, .int .i64 x.b1, .int .i64 x.w0, .int .i64 x.w1, .int .i64 x.q0, .int .i64 x.q1, .int .i64 x.s0, .int .i64 x.s1], .agg #[.int .i64 c.b0, .int .i64 c.b1, .int .i64 c.w0, .int .i64 c.w1, .int .i64 c.q0, .int .i64 c.q1, .int .i64 c.s0, .int .i64 c.s1], .slice a n cap] w fun e w' => e = .returned (.bool true) ∧ Below w.heap.size w w' := by
  go_enter Try.func4, Try.ntmps4
  have jX := (Blk.new w #[.int .i64 x.b0, .int .i64 x.b1, .int .i64 x.w0, .int .i64 x.w1, .int .i64 x.q0, .int .i64 x.q1, .int .i64 x.s0, .int .i64 x.s1] 28).alloc (.cells #[.int .i64 c.b0, .int .i64 c.b1, .int .i64 c.w0, .int .i64 c.w1, .int .i64 c.q0, .int .i64 c.q1, .int .i64 c.s0, .int .i64 c.s1] 28)
  have jC := Blk.new1 w (.cells #[.int .i64 x.b0, .int .i64 x.b1, .int .i64 x.w0, .int .i64 x.w1, .int .i64 x.q0, .int .i64 x.q1, .int .i64 x.s0, .int .i64 x.s1] 28) #[.int .i64 c.b0, .int .i64 c.b1, .int .i64 c.w0, .int .i64 c.w1, .int .i64 c.q0, .int .i64 c.q1, .int .i64 c.s0, .int .i64 c.s1] 28
  have jB : Below w.heap.size w ((w.alloc (.cells #[.int .i64 x.b0, .int .i64 x.b1, .int .i64 x.w0, .int .i64 x.w1, .int .i64 x.q0, .int .i64 x.q1, .int .i64 x.s0, .int .i64 x.s1] 28)).alloc (.cells #[.int .i64 c.b0, .int .i64 c.b1, .int .i64 c.w0, .int .i64 c.w1, .int .i64 c.q0, .int .i64 c.q1, .int .i64 c.s0, .int .i64 c.s1] 28)) := by (repeat (first | exact Below.refl _ _ | assumption | refine Below.drew ?_ | refine Below.drewN ?_ _ | refine blT ?_ | refine blU ?_))
  go_wp2_with fail
  obtain ⟨V, hV⟩ : ∃ V, (w.alloc (.cells #[.int .i64 x.b0, .int .i64 x.b1, .int .i64 x.w0, .int .i64 x.w1, .int .i64 x.q0, .int .i64 x.q1, .int .i64 x.s0, .int .i64 x.s1] 28)).alloc (.cells #[.int .i64 c.b0, .int .i64 c.b1, .int .i64 c.w0, .int .i64 c.w1, .int .i64 c.q0, .int .i64 c.q1, .int .i64 c.s0, .int .i64 c.s1] 28) = V := ⟨_, rfl⟩
  rw [hV] at jX jC jB ⊢
  clear hV
  refine (newseed_at a n cap _ (hn.later jB)).mono ?_
  rintro e w1 ⟨rfl, hS, hB⟩
  clear hn
  have zC := jC.lt
  obtain ⟨bs, hbs⟩ : ∃ b, V.heap.size = b := ⟨_, rfl⟩
  replace jX := jX.call hB
  replace jC := jC.call hB
  replace jB := bwS jB (Nat.le_refl _) hB
  rw [hbs] at hS zC ⊢
  obtain ⟨bX, hbX⟩ : ∃ b, w.heap.size = b := ⟨_, rfl⟩
  have hle : w.heap.size ≤ bs := by omega
  have HB := Lib.hid (And.intro hle jB)
  clear hbs hB jB hle
  rw [hbX] at jX jC zC ⊢
  have hb1 : bs < w1.heap.size := hS.choose_spec.lt
  go_wp2_with fail
  refine (iceof_in bs w1 hS).mono ?_
  rintro e w2 ⟨i, rfl, hi, hA⟩
  have zI := hA.2.size
  replace jX := hA.blk jX (by omega)
  replace jC := hA.blk jC (by omega)
  have jI := Blk.new w2 #[.int .i64 i.b0, .int .i64 i.b1, .int .i64 i.w0, .int .i64 i.w1, .int .i64 i.q0, .int .i64 i.q1, .int .i64 i.s0, .int .i64 i.s1] 28
  replace hA := hA.new (.cells #[.int .i64 i.b0, .int .i64 i.b1, .int .i64 i.w0, .int .i64 i.w1, .int .i64 i.q0, .int .i64 i.q1, .int .i64 i.s0, .int .i64 i.s1] 28)
  replace jX := jX.alloc (.cells #[.int .i64 i.b0, .int .i64 i.b1, .int .i64 i.w0, .int .i64 i.w1, .int .i64 i.q0, .int .i64 i.q1, .int .i64 i.s0, .int .i64 i.s1] 28)
  replace jC := jC.alloc (.cells #[.int .i64 i.b0, .int .i64 i.b1, .int .i64 i.w0, .int .i64 i.w1, .int .i64 i.q0, .int .i64 i.q1, .int .i64 i.s0, .int .i64 i.s1] 28)
  obtain ⟨i0, i1, i2, i3, i4, i5, i6, i7⟩ := jI.c8
  clear hS
  go_wp2_with fail
  refine (innerice_in i bs _ hA.seed hi).mono ?_
  rintro e w3 ⟨m, rfl, hsub, hm, hd⟩
  clear i0 i1 i2 i3 i4 i5 i6 i7 hsub hi
  replace jI := hd.blk jI (by omega)
  replace jX := hd.blk jX (by omega)
  replace jC := hd.blk jC (by omega)
  have zN := jI.lt
  replace hA := hA.trans hd
  clear hd
  have jN := Blk.new w3 #[.int .i64 m.b0, .int .i64 m.b1, .int .i64 m.w0, .int .i64 m.w1, .int .i64 m.q0, .int .i64 m.q1, .int .i64 m.s0, .int .i64 m.s1] 28
  replace jX := jX.alloc (.cells #[.int .i64 m.b0, .int .i64 m.b1, .int .i64 m.w0, .int .i64 m.w1, .int .i64 m.q0, .int .i64 m.q1, .int .i64 m.s0, .int .i64 m.s1] 28)
  replace jC := jC.alloc (.cells #[.int .i64 m.b0, .int .i64 m.b1, .int .i64 m.w0, .int .i64 m.w1, .int .i64 m.q0, .int .i64 m.q1, .int .i64 m.s0, .int .i64 m.s1] 28)
  replace jI := jI.alloc (.cells #[.int .i64 m.b0, .int .i64 m.b1, .int .i64 m.w0, .int .i64 m.w1, .int .i64 m.q0, .int .i64 m.q1, .int .i64 m.s0, .int .i64 m.s1] 28)
  replace hA := hA.new (.cells #[.int .i64 m.b0, .int .i64 m.b1, .int .i64 m.w0, .int .i64 m.w1, .int .i64 m.q0, .int .i64 m.q1, .int .i64 m.s0, .int .i64 m.s1] 28)
  obtain ⟨bI, hbI⟩ : ∃ b, w2.heap.size = b := ⟨_, rfl⟩
  obtain ⟨bN, hbN⟩ : ∃ b, w3.heap.size = b := ⟨_, rfl⟩
  go_upto_region 4 with fail
  generalize w3.alloc (.cells #[.int .i64 m.b0, .int .i64 m.b1, .int .i64 m.w0, .int .i64 m.w1, .int .i64 m.q0, .int .i64 m.q1, .int .i64 m.s0, .int .i64 m.s1] 28) = V at hA jX jC jI jN ⊢
  rw [hbI] at zI zN jI
  rw [hbN] at zN jN
  clear hbI hbN
  go_cut [9] (fun s9 wx => ∃ y : Ic, s9 = .pointer (some ⟨bN, 0, none⟩) ∧ Blk wx bN #[.int .i64 y.b0, .int .i64 y.b1, .int .i64 y.w0, .int .i64 y.w1, .int .i64 y.q0, .int .i64 y.q1, .int .i64 y.s0, .int .i64 y.s1] 28 ∧ Blk wx bX #[.int .i64 x.b0, .int .i64 x.b1, .int .i64 x.w0, .int .i64 x.w1, .int .i64 x.q0, .int .i64 x.q1, .int .i64 x.s0, .int .i64 x.s1] 28 ∧ Blk wx (bX + 1) #[.int .i64 c.b0, .int .i64 c.b1, .int .i64 c.w0, .int .i64 c.w1, .int .i64 c.q0, .int .i64 c.q1, .int .i64 c.s0, .int .i64 c.s1] 28 ∧ Blk wx bI #[.int .i64 i.b0, .int .i64 i.b1, .int .i64 i.w0, .int .i64 i.w1, .int .i64 i.q0, .int .i64 i.q1, .int .i64 i.s0, .int .i64 i.s1] 28 ∧ Drawn bs w1 wx)
  case first =>
    obtain ⟨⟨t0, _, t1⟩, _, _, _⟩ := hm
    have t2 : m.b1 ≤ 1200 := by omega
    have kN := jN.drew
    (
 refine wp_region_held_drew (S := (fun w' => Drawn bs w1 w' ∧ Blk w' bX #[.int .i64 x.b0, .int .i64 x.b1, .int .i64 x.w0, .int .i64 x.w1, .int .i64 x.q0, .int .i64 x.q1, .int .i64 x.s0, .int .i64 x.s1] 28 ∧ Blk w' (bX + 1) #[.int .i64 c.b0, .int .i64 c.b1, .int .i64 c.w0, .int .i64 c.w1, .int .i64 c.q0, .int .i64 c.q1, .int .i64 c.s0, .int .i64 c.s1] 28 ∧ Blk w' bI #[.int .i64 i.b0, .int .i64 i.b1, .int .i64 i.w0, .int .i64 i.w1, .int .i64 i.q0, .int .i64 i.q1, .int .i64 i.s0, .int .i64 i.s1] 28 ∧ Eight w' bN 28)) (by kernel_rfl) ?_ (fun hH => ?_)
 · (try dsimp only); (exact ⟨hA.trans (Drawn.drew hA.seed), jX.drew, jC.drew, jI.drew, ⟨_, _, _, _, _, _, _, _, jN.drew⟩⟩)
 refine tkY 0 (some 24) ?_ ?_ ?_
 rotate_left
 · intro w hS0; go_simp; (try with_reducible rfl)
 (try simp only [cq])
 refine tkY 1 (some 25) ?_ ?_ ?_
 rotate_left
 · intro w hS0; go_simp; (try with_reducible rfl)
 (try simp only [cq])
 refine tkY 3 (some 27) ?_ ?_ ?_
 rotate_left
 · intro w _; go_simp; (try with_reducible rfl)
 (try simp only [cq])
 refine tkY 7 (some 31) ?_ ?_ ?_
 rotate_left
 · intro w hS0; go_simp; (try with_reducible rfl)
 (try simp only [cq])
 refine tkY 8 (some 32) ?_ ?_ ?_
 rotate_left
 · intro w hS0; go_simp; (try with_reducible rfl)
 (try simp only [cq])
 refine tkY 10 (some 34) ?_ ?_ ?_
 rotate_left
 · intro w _; go_simp; (try with_reducible rfl)
 (try simp only [cq])
 refine wpAnyH_ready (rs := [2, 4, 9]) (by kernel_rfl) (by simp) ?_
 refine arc (some 26) (fun K hK => ?_) ?_
 {
 have k0 := kN.c8.1
 go_simp
 refine hK.out _ _ ?_ ?_
 · exact hH
 (try clear hH); (try clear hd)
 intro hH
 clear k0
 clear hK K
 (try simp only [cq])
 refine wpAnyH_ready (rs := [4, 9]) (by kernel_rfl) (by simp) ?_
 refine arc (some 28) (fun K hK => ?_) ?_
 {
 go_simp
 (refine (from_in (-2) 2 bs _ hH.1.seed (by decide) (by decide) (by decide) (by decide)).mono ?_; rintro e w' ⟨n1, rfl, n1a, n1b, hd⟩; replace n1b : n1 ≤ 2 := (by omega); have e1 : IntKind.i64.wrap (m.b0 + n1) = m.b0 + n1 := IntWalk.i64_in _ (by omega); replace kN := hd.blk kN (by omega))
 refine hK.out _ _ ?_ ?_
 · (exact ⟨hH.1.trans hd, hd.blk hH.2.1 (by omega), hd.blk hH.2.2.1 (by omega), hd.blk hH.2.2.2.1 (by omega), hH.2.2.2.2.drawn hd (by omega)⟩)
 (try clear hH); (try clear hd)
 intro hH
 clear hK K
 (try simp only [cq])
 refine tkY 5 (some 29) ?_ ?_ ?_
 rotate_left
 · intro w _; go_simp; (try with_reducible rfl)
 (try simp only [cq])
 refine tkY 6 (some 30) ?_ ?_ ?_
 rotate_left
 · intro w hS0; go_simp; (try with_reducible rfl)
 (try simp only [cq])
 refine wpAnyH_ready (rs := [9, 11]) (by kernel_rfl) (by simp) ?_
 refine arc (some 33) (fun K hK => ?_) ?_
 {
 have k0 := kN.c8.2.1
 go_simp
 refine hK.out _ _ ?_ ?_
 · exact hH
 (try clear hH); (try clear hd)
 intro hH
 clear k0
 clear hK K
 (try simp only [cq])
 refine wpAnyH_ready (rs := [11]) (by kernel_rfl) (by simp) ?_
 refine arc1 (some 35) fun K hK => ?_
 go_simp
 (refine (from_in 0 3 bs _ hH.1.seed (by decide) (by decide) (by decide) (by decide)).mono ?_; rintro e w' ⟨n2, rfl, n2a, n2b, hd⟩; replace n2b : n2 ≤ 3 := (by omega); have e2 : IntKind.i64.wrap (m.b1 + n2) = m.b1 + n2 := IntWalk.i64_in _ (by omega); replace kN := hd.blk kN (by omega))
 refine hK.out _ _ ?_ ?_
 · (exact ⟨hH.1.trans hd, hd.blk hH.2.1 (by omega), hd.blk hH.2.2.1 (by omega), hd.blk hH.2.2.2.1 (by omega), hH.2.2.2.2.drawn hd (by omega)⟩)
 (try clear hH); (try clear hd)
 intro hH
 clear hK K
 (try simp only [cq])
 refine tkY 12 (some 36) ?_ ?_ ?_
 rotate_left
 · intro w _; go_simp; (try with_reducible rfl)
 (try simp only [cq])
 refine tkY 13 (some 37) ?_ ?_ ?_
 rotate_left
 · intro w _; go_simp; (try with_reducible rfl)
 (try simp only [cq])
 refine tkY 14 (some 38) ?_ ?_ ?_
 rotate_left
 · intro w hS0; go_simp; (try with_reducible rfl)
 (try simp only [cq])
 refine wpAnyH_ready (rs := [15]) (by kernel_rfl) (by simp) ?_
 refine arc1 none fun K hK => ?_
 obtain ⟨hD, hXX, hCC, hII, _⟩ := hH
 have k0 := kN.c8.1
 have k1 := kN.c8.2.1
 have fr0 := kN.free 0
 have fr1 := kN.free 1
 have zR := kN.lt
 have HS := Lib.hid (show Blk _ _ #[.int .i64 (max 0 (m.b0 + n1)), .int .i64 (m.b1 + n2), .int .i64 m.w0, .int .i64 m.w1, .int .i64 m.q0, .int .i64 m.q1, .int .i64 m.s0, .int .i64 m.s1] _ from (kN.set 0 (.int .i64 (max 0 (m.b0 + n1)))).set 1 (.int .i64 (m.b1 + n2)))
 have HD := Lib.hid (hD.set2 (b := bN) (by omega) hb1 (.int .i64 (max 0 (m.b0 + n1))) (.int .i64 (m.b1 + n2)))
 go_simp
 refine hK.out _ _ ?_ ?_
 · with_reducible exact ⟨HD.out, hXX.other2 (by omega) _ _, hCC.other2 (by omega) _ _, hII.other2 (by omega) _ _, Eight.of HS.out⟩
 (try clear hH); (try clear hd)
 intro hH
 clear hK K
 (try simp only [cq])
 refine wpAnyH_done (by kernel_rfl) ?_ _
 (try dsimp only [Act.put])
 (try simp only [cq])
 clear kN k0 k1 fr0 fr1 zR hD hXX hCC hII e1 e2
 go_wp2_with fail
 go_meet
 exact ⟨⟨(max 0 (m.b0 + n1)), (m.b1 + n2), m.w0, m.w1, m.q0, m.q1, m.s0, m.s1⟩, rfl, HS.out, hH.2.1, hH.2.2.1, hH.2.2.2.1, hH.1⟩
 }
 refine arc (some 35) (fun K hK => ?_) ?_
 {
 go_simp
 (refine (from_in 0 3 bs _ hH.1.seed (by decide) (by decide) (by decide) (by decide)).mono ?_; rintro e w' ⟨n2, rfl, n2a, n2b, hd⟩; replace n2b : n2 ≤ 3 := (by omega); have e2 : IntKind.i64.wrap (m.b1 + n2) = m.b1 + n2 := IntWalk.i64_in _ (by omega); replace kN := hd.blk kN (by omega))
 refine hK.out _ _ ?_ ?_
 · (exact ⟨hH.1.trans hd, hd.blk hH.2.1 (by omega), hd.blk hH.2.2.1 (by omega), hd.blk hH.2.2.2.1 (by omega), hH.2.2.2.2.drawn hd (by omega)⟩)
 (try clear hH); (try clear hd)
 intro hH
 clear hK K
 (try simp only [cq])
 refine wpAnyH_ready (rs := [9]) (by kernel_rfl) (by simp) ?_
 refine arc1 (some 33) fun K hK => ?_
 have k0 := kN.c8.2.1
 go_simp
 refine hK.out _ _ ?_ ?_
 · exact hH
 (try clear hH); (try clear hd)
 intro hH
 clear k0
 clear hK K
 (try simp only [cq])
 refine tkY 12 (some 36) ?_ ?_ ?_
 rotate_left
 · intro w _; go_simp; (try with_reducible rfl)
 (try simp only [cq])
 refine tkY 13 (some 37) ?_ ?_ ?_
 rotate_left
 · intro w _; go_simp; (try with_reducible rfl)
 (try simp only [cq])
 refine tkY 14 (some 38) ?_ ?_ ?_
 rotate_left
 · intro w hS0; go_simp; (try with_reducible rfl)
 (try simp only [cq])
 refine wpAnyH_ready (rs := [15]) (by kernel_rfl) (by simp) ?_
 refine arc1 none fun K hK => ?_
 obtain ⟨hD, hXX, hCC, hII, _⟩ := hH
 have k0 := kN.c8.1
 have k1 := kN.c8.2.1
 have fr0 := kN.free 0
 have fr1 := kN.free 1
 have zR := kN.lt
 have HS := Lib.hid (show Blk _ _ #[.int .i64 (max 0 (m.b0 + n1)), .int .i64 (m.b1 + n2), .int .i64 m.w0, .int .i64 m.w1, .int .i64 m.q0, .int .i64 m.q1, .int .i64 m.s0, .int .i64 m.s1] _ from (kN.set 0 (.int .i64 (max 0 (m.b0 + n1)))).set 1 (.int .i64 (m.b1 + n2)))
 have HD := Lib.hid (hD.set2 (b := bN) (by omega) hb1 (.int .i64 (max 0 (m.b0 + n1))) (.int .i64 (m.b1 + n2)))
 go_simp
 refine hK.out _ _ ?_ ?_
 · with_reducible exact ⟨HD.out, hXX.other2 (by omega) _ _, hCC.other2 (by omega) _ _, hII.other2 (by omega) _ _, Eight.of HS.out⟩
 (try clear hH); (try clear hd)
 intro hH
 clear hK K
 (try simp only [cq])
 refine wpAnyH_done (by kernel_rfl) ?_ _
 (try dsimp only [Act.put])
 (try simp only [cq])
 clear kN k0 k1 fr0 fr1 zR hD hXX hCC hII e1 e2
 go_wp2_with fail
 go_meet
 exact ⟨⟨(max 0 (m.b0 + n1)), (m.b1 + n2), m.w0, m.w1, m.q0, m.q1, m.s0, m.s1⟩, rfl, HS.out, hH.2.1, hH.2.2.1, hH.2.2.2.1, hH.1⟩
 }
 exact AllReadyH.nil
 }
 refine arc (some 33) (fun K hK => ?_) ?_
 {
 have k0 := kN.c8.2.1
 go_simp
 refine hK.out _ _ ?_ ?_
 · exact hH
 (try clear hH); (try clear hd)
 intro hH
 clear k0
 clear hK K
 (try simp only [cq])
 refine wpAnyH_ready (rs := [4]) (by kernel_rfl) (by simp) ?_
 refine arc1 (some 28) fun K hK => ?_
 go_simp
 (refine (from_in (-2) 2 bs _ hH.1.seed (by decide) (by decide) (by decide) (by decide)).mono ?_; rintro e w' ⟨n1, rfl, n1a, n1b, hd⟩; replace n1b : n1 ≤ 2 := (by omega); have e1 : IntKind.i64.wrap (m.b0 + n1) = m.b0 + n1 := IntWalk.i64_in _ (by omega); replace kN := hd.blk kN (by omega))
 refine hK.out _ _ ?_ ?_
 · (exact ⟨hH.1.trans hd, hd.blk hH.2.1 (by omega), hd.blk hH.2.2.1 (by omega), hd.blk hH.2.2.2.1 (by omega), hH.2.2.2.2.drawn hd (by omega)⟩)
 (try clear hH); (try clear hd)
 intro hH
 clear hK K
 (try simp only [cq])
 refine tkY 5 (some 29) ?_ ?_ ?_
 rotate_left
 · intro w _; go_simp; (try with_reducible rfl)
 (try simp only [cq])
 refine tkY 6 (some 30) ?_ ?_ ?_
 rotate_left
 · intro w hS0; go_simp; (try with_reducible rfl)
 (try simp only [cq])
 refine wpAnyH_ready (rs := [11]) (by kernel_rfl) (by simp) ?_
 refine arc1 (some 35) fun K hK => ?_
 go_simp
 (refine (from_in 0 3 bs _ hH.1.seed (by decide) (by decide) (by decide) (by decide)).mono ?_; rintro e w' ⟨n2, rfl, n2a, n2b, hd⟩; replace n2b : n2 ≤ 3 := (by omega); have e2 : IntKind.i64.wrap (m.b1 + n2) = m.b1 + n2 := IntWalk.i64_in _ (by omega); replace kN := hd.blk kN (by omega))
 refine hK.out _ _ ?_ ?_
 · (exact ⟨hH.1.trans hd, hd.blk hH.2.1 (by omega), hd.blk hH.2.2.1 (by omega), hd.blk hH.2.2.2.1 (by omega), hH.2.2.2.2.drawn hd (by omega)⟩)
 (try clear hH); (try clear hd)
 intro hH
 clear hK K
 (try simp only [cq])
 refine tkY 12 (some 36) ?_ ?_ ?_
 rotate_left
 · intro w _; go_simp; (try with_reducible rfl)
 (try simp only [cq])
 refine tkY 13 (some 37) ?_ ?_ ?_
 rotate_left
 · intro w _; go_simp; (try with_reducible rfl)
 (try simp only [cq])
 refine tkY 14 (some 38) ?_ ?_ ?_
 rotate_left
 · intro w hS0; go_simp; (try with_reducible rfl)
 (try simp only [cq])
 refine wpAnyH_ready (rs := [15]) (by kernel_rfl) (by simp) ?_
 refine arc1 none fun K hK => ?_
 obtain ⟨hD, hXX, hCC, hII, _⟩ := hH
 have k0 := kN.c8.1
 have k1 := kN.c8.2.1
 have fr0 := kN.free 0
 have fr1 := kN.free 1
 have zR := kN.lt
 have HS := Lib.hid (show Blk _ _ #[.int .i64 (max 0 (m.b0 + n1)), .int .i64 (m.b1 + n2), .int .i64 m.w0, .int .i64 m.w1, .int .i64 m.q0, .int .i64 m.q1, .int .i64 m.s0, .int .i64 m.s1] _ from (kN.set 0 (.int .i64 (max 0 (m.b0 + n1)))).set 1 (.int .i64 (m.b1 + n2)))
 have HD := Lib.hid (hD.set2 (b := bN) (by omega) hb1 (.int .i64 (max 0 (m.b0 + n1))) (.int .i64 (m.b1 + n2)))
 go_simp
 refine hK.out _ _ ?_ ?_
 · with_reducible exact ⟨HD.out, hXX.other2 (by omega) _ _, hCC.other2 (by omega) _ _, hII.other2 (by omega) _ _, Eight.of HS.out⟩
 (try clear hH); (try clear hd)
 intro hH
 clear hK K
 (try simp only [cq])
 refine wpAnyH_done (by kernel_rfl) ?_ _
 (try dsimp only [Act.put])
 (try simp only [cq])
 clear kN k0 k1 fr0 fr1 zR hD hXX hCC hII e1 e2
 go_wp2_with fail
 go_meet
 exact ⟨⟨(max 0 (m.b0 + n1)), (m.b1 + n2), m.w0, m.w1, m.q0, m.q1, m.s0, m.s1⟩, rfl, HS.out, hH.2.1, hH.2.2.1, hH.2.2.2.1, hH.1⟩
 }
 exact AllReadyH.nil
 }
 refine arc (some 28) (fun K hK => ?_) ?_
 {
 go_simp
 (refine (from_in (-2) 2 bs _ hH.1.seed (by decide) (by decide) (by decide) (by decide)).mono ?_; rintro e w' ⟨n1, rfl, n1a, n1b, hd⟩; replace n1b : n1 ≤ 2 := (by omega); have e1 : IntKind.i64.wrap (m.b0 + n1) = m.b0 + n1 := IntWalk.i64_in _ (by omega); replace kN := hd.blk kN (by omega))
 refine hK.out _ _ ?_ ?_
 · (exact ⟨hH.1.trans hd, hd.blk hH.2.1 (by omega), hd.blk hH.2.2.1 (by omega), hd.blk hH.2.2.2.1 (by omega), hH.2.2.2.2.drawn hd (by omega)⟩)
 (try clear hH); (try clear hd)
 intro hH
 clear hK K
 (try simp only [cq])
 refine wpAnyH_ready (rs := [2, 9, 11]) (by kernel_rfl) (by simp) ?_
 refine arc (some 26) (fun K hK => ?_) ?_
 {
 have k0 := kN.c8.1
 go_simp
 refine hK.out _ _ ?_ ?_
 · exact hH
 (try clear hH); (try clear hd)
 intro hH
 clear k0
 clear hK K
 (try simp only [cq])
 refine tkY 5 (some 29) ?_ ?_ ?_
 rotate_left
 · intro w _; go_simp; (try with_reducible rfl)
 (try simp only [cq])
 refine tkY 6 (some 30) ?_ ?_ ?_
 rotate_left
 · intro w hS0; go_simp; (try with_reducible rfl)
 (try simp only [cq])
 refine wpAnyH_ready (rs := [9, 11]) (by kernel_rfl) (by simp) ?_
 refine arc (some 33) (fun K hK => ?_) ?_
 {
 have k0 := kN.c8.2.1
 go_simp
 refine hK.out _ _ ?_ ?_
 · exact hH
 (try clear hH); (try clear hd)
 intro hH
 clear k0
 clear hK K
 (try simp only [cq])
 refine wpAnyH_ready (rs := [11]) (by kernel_rfl) (by simp) ?_
 refine arc1 (some 35) fun K hK => ?_
 go_simp
 (refine (from_in 0 3 bs _ hH.1.seed (by decide) (by decide) (by decide) (by decide)).mono ?_; rintro e w' ⟨n2, rfl, n2a, n2b, hd⟩; replace n2b : n2 ≤ 3 := (by omega); have e2 : IntKind.i64.wrap (m.b1 + n2) = m.b1 + n2 := IntWalk.i64_in _ (by omega); replace kN := hd.blk kN (by omega))
 refine hK.out _ _ ?_ ?_
 · (exact ⟨hH.1.trans hd, hd.blk hH.2.1 (by omega), hd.blk hH.2.2.1 (by omega), hd.blk hH.2.2.2.1 (by omega), hH.2.2.2.2.drawn hd (by omega)⟩)
 (try clear hH); (try clear hd)
 intro hH
 clear hK K
 (try simp only [cq])
 refine tkY 12 (some 36) ?_ ?_ ?_
 rotate_left
 · intro w _; go_simp; (try with_reducible rfl)
 (try simp only [cq])
 refine tkY 13 (some 37) ?_ ?_ ?_
 rotate_left
 · intro w _; go_simp; (try with_reducible rfl)
 (try simp only [cq])
 refine tkY 14 (some 38) ?_ ?_ ?_
 rotate_left
 · intro w hS0; go_simp; (try with_reducible rfl)
 (try simp only [cq])
 refine wpAnyH_ready (rs := [15]) (by kernel_rfl) (by simp) ?_
 refine arc1 none fun K hK => ?_
 obtain ⟨hD, hXX, hCC, hII, _⟩ := hH
 have k0 := kN.c8.1
 have k1 := kN.c8.2.1
 have fr0 := kN.free 0
 have fr1 := kN.free 1
 have zR := kN.lt
 have HS := Lib.hid (show Blk _ _ #[.int .i64 (max 0 (m.b0 + n1)), .int .i64 (m.b1 + n2), .int .i64 m.w0, .int .i64 m.w1, .int .i64 m.q0, .int .i64 m.q1, .int .i64 m.s0, .int .i64 m.s1] _ from (kN.set 0 (.int .i64 (max 0 (m.b0 + n1)))).set 1 (.int .i64 (m.b1 + n2)))
 have HD := Lib.hid (hD.set2 (b := bN) (by omega) hb1 (.int .i64 (max 0 (m.b0 + n1))) (.int .i64 (m.b1 + n2)))
 go_simp
 refine hK.out _ _ ?_ ?_
 · with_reducible exact ⟨HD.out, hXX.other2 (by omega) _ _, hCC.other2 (by omega) _ _, hII.other2 (by omega) _ _, Eight.of HS.out⟩
 (try clear hH); (try clear hd)
 intro hH
 clear hK K
 (try simp only [cq])
 refine wpAnyH_done (by kernel_rfl) ?_ _
 (try dsimp only [Act.put])
 (try simp only [cq])
 clear kN k0 k1 fr0 fr1 zR hD hXX hCC hII e1 e2
 go_wp2_with fail
 go_meet
 exact ⟨⟨(max 0 (m.b0 + n1)), (m.b1 + n2), m.w0, m.w1, m.q0, m.q1, m.s0, m.s1⟩, rfl, HS.out, hH.2.1, hH.2.2.1, hH.2.2.2.1, hH.1⟩
 }
 refine arc (some 35) (fun K hK => ?_) ?_
 {
 go_simp
 (refine (from_in 0 3 bs _ hH.1.seed (by decide) (by decide) (by decide) (by decide)).mono ?_; rintro e w' ⟨n2, rfl, n2a, n2b, hd⟩; replace n2b : n2 ≤ 3 := (by omega); have e2 : IntKind.i64.wrap (m.b1 + n2) = m.b1 + n2 := IntWalk.i64_in _ (by omega); replace kN := hd.blk kN (by omega))
 refine hK.out _ _ ?_ ?_
 · (exact ⟨hH.1.trans hd, hd.blk hH.2.1 (by omega), hd.blk hH.2.2.1 (by omega), hd.blk hH.2.2.2.1 (by omega), hH.2.2.2.2.drawn hd (by omega)⟩)
 (try clear hH); (try clear hd)
 intro hH
 clear hK K
 (try simp only [cq])
 refine wpAnyH_ready (rs := [9]) (by kernel_rfl) (by simp) ?_
 refine arc1 (some 33) fun K hK => ?_
 have k0 := kN.c8.2.1
 go_simp
 refine hK.out _ _ ?_ ?_
 · exact hH
 (try clear hH); (try clear hd)
 intro hH
 clear k0
 clear hK K
 (try simp only [cq])
 refine tkY 12 (some 36) ?_ ?_ ?_
 rotate_left
 · intro w _; go_simp; (try with_reducible rfl)
 (try simp only [cq])
 refine tkY 13 (some 37) ?_ ?_ ?_
 rotate_left
 · intro w _; go_simp; (try with_reducible rfl)
 (try simp only [cq])
 refine tkY 14 (some 38) ?_ ?_ ?_
 rotate_left
 · intro w hS0; go_simp; (try with_reducible rfl)
 (try simp only [cq])
 refine wpAnyH_ready (rs := [15]) (by kernel_rfl) (by simp) ?_
 refine arc1 none fun K hK => ?_
 obtain ⟨hD, hXX, hCC, hII, _⟩ := hH
 have k0 := kN.c8.1
 have k1 := kN.c8.2.1
 have fr0 := kN.free 0
 have fr1 := kN.free 1
 have zR := kN.lt
 have HS := Lib.hid (show Blk _ _ #[.int .i64 (max 0 (m.b0 + n1)), .int .i64 (m.b1 + n2), .int .i64 m.w0, .int .i64 m.w1, .int .i64 m.q0, .int .i64 m.q1, .int .i64 m.s0, .int .i64 m.s1] _ from (kN.set 0 (.int .i64 (max 0 (m.b0 + n1)))).set 1 (.int .i64 (m.b1 + n2)))
 have HD := Lib.hid (hD.set2 (b := bN) (by omega) hb1 (.int .i64 (max 0 (m.b0 + n1))) (.int .i64 (m.b1 + n2)))
 go_simp
 refine hK.out _ _ ?_ ?_
 · with_reducible exact ⟨HD.out, hXX.other2 (by omega) _ _, hCC.other2 (by omega) _ _, hII.other2 (by omega) _ _, Eight.of HS.out⟩
 (try clear hH); (try clear hd)
 intro hH
 clear hK K
 (try simp only [cq])
 refine wpAnyH_done (by kernel_rfl) ?_ _
 (try dsimp only [Act.put])
 (try simp only [cq])
 clear kN k0 k1 fr0 fr1 zR hD hXX hCC hII e1 e2
 go_wp2_with fail
 go_meet
 exact ⟨⟨(max 0 (m.b0 + n1)), (m.b1 + n2), m.w0, m.w1, m.q0, m.q1, m.s0, m.s1⟩, rfl, HS.out, hH.2.1, hH.2.2.1, hH.2.2.2.1, hH.1⟩
 }
 exact AllReadyH.nil
 }
 refine arc (some 33) (fun K hK => ?_) ?_
 {
 have k0 := kN.c8.2.1
 go_simp
 refine hK.out _ _ ?_ ?_
 · exact hH
 (try clear hH); (try clear hd)
 intro hH
 clear k0
 clear hK K
 (try simp only [cq])
 refine wpAnyH_ready (rs := [2, 11]) (by kernel_rfl) (by simp) ?_
 refine arc (some 26) (fun K hK => ?_) ?_
 {
 have k0 := kN.c8.1
 go_simp
 refine hK.out _ _ ?_ ?_
 · exact hH
 (try clear hH); (try clear hd)
 intro hH
 clear k0
 clear hK K
 (try simp only [cq])
 refine tkY 5 (some 29) ?_ ?_ ?_
 rotate_left
 · intro w _; go_simp; (try with_reducible rfl)
 (try simp only [cq])
 refine tkY 6 (some 30) ?_ ?_ ?_
 rotate_left
 · intro w hS0; go_simp; (try with_reducible rfl)
 (try simp only [cq])
 refine wpAnyH_ready (rs := [11]) (by kernel_rfl) (by simp) ?_
 refine arc1 (some 35) fun K hK => ?_
 go_simp
 (refine (from_in 0 3 bs _ hH.1.seed (by decide) (by decide) (by decide) (by decide)).mono ?_; rintro e w' ⟨n2, rfl, n2a, n2b, hd⟩; replace n2b : n2 ≤ 3 := (by omega); have e2 : IntKind.i64.wrap (m.b1 + n2) = m.b1 + n2 := IntWalk.i64_in _ (by omega); replace kN := hd.blk kN (by omega))
 refine hK.out _ _ ?_ ?_
 · (exact ⟨hH.1.trans hd, hd.blk hH.2.1 (by omega), hd.blk hH.2.2.1 (by omega), hd.blk hH.2.2.2.1 (by omega), hH.2.2.2.2.drawn hd (by omega)⟩)
 (try clear hH); (try clear hd)
 intro hH
 clear hK K
 (try simp only [cq])
 refine tkY 12 (some 36) ?_ ?_ ?_
 rotate_left
 · intro w _; go_simp; (try with_reducible rfl)
 (try simp only [cq])
 refine tkY 13 (some 37) ?_ ?_ ?_
 rotate_left
 · intro w _; go_simp; (try with_reducible rfl)
 (try simp only [cq])
 refine tkY 14 (some 38) ?_ ?_ ?_
 rotate_left
 · intro w hS0; go_simp; (try with_reducible rfl)
 (try simp only [cq])
 refine wpAnyH_ready (rs := [15]) (by kernel_rfl) (by simp) ?_
 refine arc1 none fun K hK => ?_
 obtain ⟨hD, hXX, hCC, hII, _⟩ := hH
 have k0 := kN.c8.1
 have k1 := kN.c8.2.1
 have fr0 := kN.free 0
 have fr1 := kN.free 1
 have zR := kN.lt
 have HS := Lib.hid (show Blk _ _ #[.int .i64 (max 0 (m.b0 + n1)), .int .i64 (m.b1 + n2), .int .i64 m.w0, .int .i64 m.w1, .int .i64 m.q0, .int .i64 m.q1, .int .i64 m.s0, .int .i64 m.s1] _ from (kN.set 0 (.int .i64 (max 0 (m.b0 + n1)))).set 1 (.int .i64 (m.b1 + n2)))
 have HD := Lib.hid (hD.set2 (b := bN) (by omega) hb1 (.int .i64 (max 0 (m.b0 + n1))) (.int .i64 (m.b1 + n2)))
 go_simp
 refine hK.out _ _ ?_ ?_
 · with_reducible exact ⟨HD.out, hXX.other2 (by omega) _ _, hCC.other2 (by omega) _ _, hII.other2 (by omega) _ _, Eight.of HS.out⟩
 (try clear hH); (try clear hd)
 intro hH
 clear hK K
 (try simp only [cq])
 refine wpAnyH_done (by kernel_rfl) ?_ _
 (try dsimp only [Act.put])
 (try simp only [cq])
 clear kN k0 k1 fr0 fr1 zR hD hXX hCC hII e1 e2
 go_wp2_with fail
 go_meet
 exact ⟨⟨(max 0 (m.b0 + n1)), (m.b1 + n2), m.w0, m.w1, m.q0, m.q1, m.s0, m.s1⟩, rfl, HS.out, hH.2.1, hH.2.2.1, hH.2.2.2.1, hH.1⟩
 }
 refine arc (some 35) (fun K hK => ?_) ?_
 {
 go_simp
 (refine (from_in 0 3 bs _ hH.1.seed (by decide) (by decide) (by decide) (by decide)).mono ?_; rintro e w' ⟨n2, rfl, n2a, n2b, hd⟩; replace n2b : n2 ≤ 3 := (by omega); have e2 : IntKind.i64.wrap (m.b1 + n2) = m.b1 + n2 := IntWalk.i64_in _ (by omega); replace kN := hd.blk kN (by omega))
 refine hK.out _ _ ?_ ?_
 · (exact ⟨hH.1.trans hd, hd.blk hH.2.1 (by omega), hd.blk hH.2.2.1 (by omega), hd.blk hH.2.2.2.1 (by omega), hH.2.2.2.2.drawn hd (by omega)⟩)
 (try clear hH); (try clear hd)
 intro hH
 clear hK K
 (try simp only [cq])
 refine tkY 12 (some 36) ?_ ?_ ?_
 rotate_left
 · intro w _; go_simp; (try with_reducible rfl)
 (try simp only [cq])
 refine wpAnyH_ready (rs := [2]) (by kernel_rfl) (by simp) ?_
 refine arc1 (some 26) fun K hK => ?_
 have k0 := kN.c8.1
 go_simp
 refine hK.out _ _ ?_ ?_
 · exact hH
 (try clear hH); (try clear hd)
 intro hH
 clear k0
 clear hK K
 (try simp only [cq])
 refine tkY 5 (some 29) ?_ ?_ ?_
 rotate_left
 · intro w _; go_simp; (try with_reducible rfl)
 (try simp only [cq])
 refine tkY 6 (some 30) ?_ ?_ ?_
 rotate_left
 · intro w hS0; go_simp; (try with_reducible rfl)
 (try simp only [cq])
 refine tkY 13 (some 37) ?_ ?_ ?_
 rotate_left
 · intro w _; go_simp; (try with_reducible rfl)
 (try simp only [cq])
 refine tkY 14 (some 38) ?_ ?_ ?_
 rotate_left
 · intro w hS0; go_simp; (try with_reducible rfl)
 (try simp only [cq])
 refine wpAnyH_ready (rs := [15]) (by kernel_rfl) (by simp) ?_
 refine arc1 none fun K hK => ?_
 obtain ⟨hD, hXX, hCC, hII, _⟩ := hH
 have k0 := kN.c8.1
 have k1 := kN.c8.2.1
 have fr0 := kN.free 0
 have fr1 := kN.free 1
 have zR := kN.lt
 have HS := Lib.hid (show Blk _ _ #[.int .i64 (max 0 (m.b0 + n1)), .int .i64 (m.b1 + n2), .int .i64 m.w0, .int .i64 m.w1, .int .i64 m.q0, .int .i64 m.q1, .int .i64 m.s0, .int .i64 m.s1] _ from (kN.set 0 (.int .i64 (max 0 (m.b0 + n1)))).set 1 (.int .i64 (m.b1 + n2)))
 have HD := Lib.hid (hD.set2 (b := bN) (by omega) hb1 (.int .i64 (max 0 (m.b0 + n1))) (.int .i64 (m.b1 + n2)))
 go_simp
 refine hK.out _ _ ?_ ?_
 · with_reducible exact ⟨HD.out, hXX.other2 (by omega) _ _, hCC.other2 (by omega) _ _, hII.other2 (by omega) _ _, Eight.of HS.out⟩
 (try clear hH); (try clear hd)
 intro hH
 clear hK K
 (try simp only [cq])
 refine wpAnyH_done (by kernel_rfl) ?_ _
 (try dsimp only [Act.put])
 (try simp only [cq])
 clear kN k0 k1 fr0 fr1 zR hD hXX hCC hII e1 e2
 go_wp2_with fail
 go_meet
 exact ⟨⟨(max 0 (m.b0 + n1)), (m.b1 + n2), m.w0, m.w1, m.q0, m.q1, m.s0, m.s1⟩, rfl, HS.out, hH.2.1, hH.2.2.1, hH.2.2.2.1, hH.1⟩
 }
 exact AllReadyH.nil
 }
 refine arc (some 35) (fun K hK => ?_) ?_
 {
 go_simp
 (refine (from_in 0 3 bs _ hH.1.seed (by decide) (by decide) (by decide) (by decide)).mono ?_; rintro e w' ⟨n2, rfl, n2a, n2b, hd⟩; replace n2b : n2 ≤ 3 := (by omega); have e2 : IntKind.i64.wrap (m.b1 + n2) = m.b1 + n2 := IntWalk.i64_in _ (by omega); replace kN := hd.blk kN (by omega))
 refine hK.out _ _ ?_ ?_
 · (exact ⟨hH.1.trans hd, hd.blk hH.2.1 (by omega), hd.blk hH.2.2.1 (by omega), hd.blk hH.2.2.2.1 (by omega), hH.2.2.2.2.drawn hd (by omega)⟩)
 (try clear hH); (try clear hd)
 intro hH
 clear hK K
 (try simp only [cq])
 refine wpAnyH_ready (rs := [2, 9]) (by kernel_rfl) (by simp) ?_
 refine arc (some 26) (fun K hK => ?_) ?_
 {
 have k0 := kN.c8.1
 go_simp
 refine hK.out _ _ ?_ ?_
 · exact hH
 (try clear hH); (try clear hd)
 intro hH
 clear k0
 clear hK K
 (try simp only [cq])
 refine tkY 5 (some 29) ?_ ?_ ?_
 rotate_left
 · intro w _; go_simp; (try with_reducible rfl)
 (try simp only [cq])
 refine tkY 6 (some 30) ?_ ?_ ?_
 rotate_left
 · intro w hS0; go_simp; (try with_reducible rfl)
 (try simp only [cq])
 refine wpAnyH_ready (rs := [9]) (by kernel_rfl) (by simp) ?_
 refine arc1 (some 33) fun K hK => ?_
 have k0 := kN.c8.2.1
 go_simp
 refine hK.out _ _ ?_ ?_
 · exact hH
 (try clear hH); (try clear hd)
 intro hH
 clear k0
 clear hK K
 (try simp only [cq])
 refine tkY 12 (some 36) ?_ ?_ ?_
 rotate_left
 · intro w _; go_simp; (try with_reducible rfl)
 (try simp only [cq])
 refine tkY 13 (some 37) ?_ ?_ ?_
 rotate_left
 · intro w _; go_simp; (try with_reducible rfl)
 (try simp only [cq])
 refine tkY 14 (some 38) ?_ ?_ ?_
 rotate_left
 · intro w hS0; go_simp; (try with_reducible rfl)
 (try simp only [cq])
 refine wpAnyH_ready (rs := [15]) (by kernel_rfl) (by simp) ?_
 refine arc1 none fun K hK => ?_
 obtain ⟨hD, hXX, hCC, hII, _⟩ := hH
 have k0 := kN.c8.1
 have k1 := kN.c8.2.1
 have fr0 := kN.free 0
 have fr1 := kN.free 1
 have zR := kN.lt
 have HS := Lib.hid (show Blk _ _ #[.int .i64 (max 0 (m.b0 + n1)), .int .i64 (m.b1 + n2), .int .i64 m.w0, .int .i64 m.w1, .int .i64 m.q0, .int .i64 m.q1, .int .i64 m.s0, .int .i64 m.s1] _ from (kN.set 0 (.int .i64 (max 0 (m.b0 + n1)))).set 1 (.int .i64 (m.b1 + n2)))
 have HD := Lib.hid (hD.set2 (b := bN) (by omega) hb1 (.int .i64 (max 0 (m.b0 + n1))) (.int .i64 (m.b1 + n2)))
 go_simp
 refine hK.out _ _ ?_ ?_
 · with_reducible exact ⟨HD.out, hXX.other2 (by omega) _ _, hCC.other2 (by omega) _ _, hII.other2 (by omega) _ _, Eight.of HS.out⟩
 (try clear hH); (try clear hd)
 intro hH
 clear hK K
 (try simp only [cq])
 refine wpAnyH_done (by kernel_rfl) ?_ _
 (try dsimp only [Act.put])
 (try simp only [cq])
 clear kN k0 k1 fr0 fr1 zR hD hXX hCC hII e1 e2
 go_wp2_with fail
 go_meet
 exact ⟨⟨(max 0 (m.b0 + n1)), (m.b1 + n2), m.w0, m.w1, m.q0, m.q1, m.s0, m.s1⟩, rfl, HS.out, hH.2.1, hH.2.2.1, hH.2.2.2.1, hH.1⟩
 }
 refine arc (some 33) (fun K hK => ?_) ?_
 {
 have k0 := kN.c8.2.1
 go_simp
 refine hK.out _ _ ?_ ?_
 · exact hH
 (try clear hH); (try clear hd)
 intro hH
 clear k0
 clear hK K
 (try simp only [cq])
 refine tkY 12 (some 36) ?_ ?_ ?_
 rotate_left
 · intro w _; go_simp; (try with_reducible rfl)
 (try simp only [cq])
 refine wpAnyH_ready (rs := [2]) (by kernel_rfl) (by simp) ?_
 refine arc1 (some 26) fun K hK => ?_
 have k0 := kN.c8.1
 go_simp
 refine hK.out _ _ ?_ ?_
 · exact hH
 (try clear hH); (try clear hd)
 intro hH
 clear k0
 clear hK K
 (try simp only [cq])
 refine tkY 5 (some 29) ?_ ?_ ?_
 rotate_left
 · intro w _; go_simp; (try with_reducible rfl)
 (try simp only [cq])
 refine tkY 6 (some 30) ?_ ?_ ?_
 rotate_left
 · intro w hS0; go_simp; (try with_reducible rfl)
 (try simp only [cq])
 refine tkY 13 (some 37) ?_ ?_ ?_
 rotate_left
 · intro w _; go_simp; (try with_reducible rfl)
 (try simp only [cq])
 refine tkY 14 (some 38) ?_ ?_ ?_
 rotate_left
 · intro w hS0; go_simp; (try with_reducible rfl)
 (try simp only [cq])
 refine wpAnyH_ready (rs := [15]) (by kernel_rfl) (by simp) ?_
 refine arc1 none fun K hK => ?_
 obtain ⟨hD, hXX, hCC, hII, _⟩ := hH
 have k0 := kN.c8.1
 have k1 := kN.c8.2.1
 have fr0 := kN.free 0
 have fr1 := kN.free 1
 have zR := kN.lt
 have HS := Lib.hid (show Blk _ _ #[.int .i64 (max 0 (m.b0 + n1)), .int .i64 (m.b1 + n2), .int .i64 m.w0, .int .i64 m.w1, .int .i64 m.q0, .int .i64 m.q1, .int .i64 m.s0, .int .i64 m.s1] _ from (kN.set 0 (.int .i64 (max 0 (m.b0 + n1)))).set 1 (.int .i64 (m.b1 + n2)))
 have HD := Lib.hid (hD.set2 (b := bN) (by omega) hb1 (.int .i64 (max 0 (m.b0 + n1))) (.int .i64 (m.b1 + n2)))
 go_simp
 refine hK.out _ _ ?_ ?_
 · with_reducible exact ⟨HD.out, hXX.other2 (by omega) _ _, hCC.other2 (by omega) _ _, hII.other2 (by omega) _ _, Eight.of HS.out⟩
 (try clear hH); (try clear hd)
 intro hH
 clear hK K
 (try simp only [cq])
 refine wpAnyH_done (by kernel_rfl) ?_ _
 (try dsimp only [Act.put])
 (try simp only [cq])
 clear kN k0 k1 fr0 fr1 zR hD hXX hCC hII e1 e2
 go_wp2_with fail
 go_meet
 exact ⟨⟨(max 0 (m.b0 + n1)), (m.b1 + n2), m.w0, m.w1, m.q0, m.q1, m.s0, m.s1⟩, rfl, HS.out, hH.2.1, hH.2.2.1, hH.2.2.2.1, hH.1⟩
 }
 exact AllReadyH.nil
 }
 exact AllReadyH.nil
 }
 refine arc (some 33) (fun K hK => ?_) ?_
 {
 have k0 := kN.c8.2.1
 go_simp
 refine hK.out _ _ ?_ ?_
 · exact hH
 (try clear hH); (try clear hd)
 intro hH
 clear k0
 clear hK K
 (try simp only [cq])
 refine wpAnyH_ready (rs := [2, 4]) (by kernel_rfl) (by simp) ?_
 refine arc (some 26) (fun K hK => ?_) ?_
 {
 have k0 := kN.c8.1
 go_simp
 refine hK.out _ _ ?_ ?_
 · exact hH
 (try clear hH); (try clear hd)
 intro hH
 clear k0
 clear hK K
 (try simp only [cq])
 refine wpAnyH_ready (rs := [4]) (by kernel_rfl) (by simp) ?_
 refine arc1 (some 28) fun K hK => ?_
 go_simp
 (refine (from_in (-2) 2 bs _ hH.1.seed (by decide) (by decide) (by decide) (by decide)).mono ?_; rintro e w' ⟨n1, rfl, n1a, n1b, hd⟩; replace n1b : n1 ≤ 2 := (by omega); have e1 : IntKind.i64.wrap (m.b0 + n1) = m.b0 + n1 := IntWalk.i64_in _ (by omega); replace kN := hd.blk kN (by omega))
 refine hK.out _ _ ?_ ?_
 · (exact ⟨hH.1.trans hd, hd.blk hH.2.1 (by omega), hd.blk hH.2.2.1 (by omega), hd.blk hH.2.2.2.1 (by omega), hH.2.2.2.2.drawn hd (by omega)⟩)
 (try clear hH); (try clear hd)
 intro hH
 clear hK K
 (try simp only [cq])
 refine tkY 5 (some 29) ?_ ?_ ?_
 rotate_left
 · intro w _; go_simp; (try with_reducible rfl)
 (try simp only [cq])
 refine tkY 6 (some 30) ?_ ?_ ?_
 rotate_left
 · intro w hS0; go_simp; (try with_reducible rfl)
 (try simp only [cq])
 refine wpAnyH_ready (rs := [11]) (by kernel_rfl) (by simp) ?_
 refine arc1 (some 35) fun K hK => ?_
 go_simp
 (refine (from_in 0 3 bs _ hH.1.seed (by decide) (by decide) (by decide) (by decide)).mono ?_; rintro e w' ⟨n2, rfl, n2a, n2b, hd⟩; replace n2b : n2 ≤ 3 := (by omega); have e2 : IntKind.i64.wrap (m.b1 + n2) = m.b1 + n2 := IntWalk.i64_in _ (by omega); replace kN := hd.blk kN (by omega))
 refine hK.out _ _ ?_ ?_
 · (exact ⟨hH.1.trans hd, hd.blk hH.2.1 (by omega), hd.blk hH.2.2.1 (by omega), hd.blk hH.2.2.2.1 (by omega), hH.2.2.2.2.drawn hd (by omega)⟩)
 (try clear hH); (try clear hd)
 intro hH
 clear hK K
 (try simp only [cq])
 refine tkY 12 (some 36) ?_ ?_ ?_
 rotate_left
 · intro w _; go_simp; (try with_reducible rfl)
 (try simp only [cq])
 refine tkY 13 (some 37) ?_ ?_ ?_
 rotate_left
 · intro w _; go_simp; (try with_reducible rfl)
 (try simp only [cq])
 refine tkY 14 (some 38) ?_ ?_ ?_
 rotate_left
 · intro w hS0; go_simp; (try with_reducible rfl)
 (try simp only [cq])
 refine wpAnyH_ready (rs := [15]) (by kernel_rfl) (by simp) ?_
 refine arc1 none fun K hK => ?_
 obtain ⟨hD, hXX, hCC, hII, _⟩ := hH
 have k0 := kN.c8.1
 have k1 := kN.c8.2.1
 have fr0 := kN.free 0
 have fr1 := kN.free 1
 have zR := kN.lt
 have HS := Lib.hid (show Blk _ _ #[.int .i64 (max 0 (m.b0 + n1)), .int .i64 (m.b1 + n2), .int .i64 m.w0, .int .i64 m.w1, .int .i64 m.q0, .int .i64 m.q1, .int .i64 m.s0, .int .i64 m.s1] _ from (kN.set 0 (.int .i64 (max 0 (m.b0 + n1)))).set 1 (.int .i64 (m.b1 + n2)))
 have HD := Lib.hid (hD.set2 (b := bN) (by omega) hb1 (.int .i64 (max 0 (m.b0 + n1))) (.int .i64 (m.b1 + n2)))
 go_simp
 refine hK.out _ _ ?_ ?_
 · with_reducible exact ⟨HD.out, hXX.other2 (by omega) _ _, hCC.other2 (by omega) _ _, hII.other2 (by omega) _ _, Eight.of HS.out⟩
 (try clear hH); (try clear hd)
 intro hH
 clear hK K
 (try simp only [cq])
 refine wpAnyH_done (by kernel_rfl) ?_ _
 (try dsimp only [Act.put])
 (try simp only [cq])
 clear kN k0 k1 fr0 fr1 zR hD hXX hCC hII e1 e2
 go_wp2_with fail
 go_meet
 exact ⟨⟨(max 0 (m.b0 + n1)), (m.b1 + n2), m.w0, m.w1, m.q0, m.q1, m.s0, m.s1⟩, rfl, HS.out, hH.2.1, hH.2.2.1, hH.2.2.2.1, hH.1⟩
 }
 refine arc (some 28) (fun K hK => ?_) ?_
 {
 go_simp
 (refine (from_in (-2) 2 bs _ hH.1.seed (by decide) (by decide) (by decide) (by decide)).mono ?_; rintro e w' ⟨n1, rfl, n1a, n1b, hd⟩; replace n1b : n1 ≤ 2 := (by omega); have e1 : IntKind.i64.wrap (m.b0 + n1) = m.b0 + n1 := IntWalk.i64_in _ (by omega); replace kN := hd.blk kN (by omega))
 refine hK.out _ _ ?_ ?_
 · (exact ⟨hH.1.trans hd, hd.blk hH.2.1 (by omega), hd.blk hH.2.2.1 (by omega), hd.blk hH.2.2.2.1 (by omega), hH.2.2.2.2.drawn hd (by omega)⟩)
 (try clear hH); (try clear hd)
 intro hH
 clear hK K
 (try simp only [cq])
 refine wpAnyH_ready (rs := [2, 11]) (by kernel_rfl) (by simp) ?_
 refine arc (some 26) (fun K hK => ?_) ?_
 {
 have k0 := kN.c8.1
 go_simp
 refine hK.out _ _ ?_ ?_
 · exact hH
 (try clear hH); (try clear hd)
 intro hH
 clear k0
 clear hK K
 (try simp only [cq])
 refine tkY 5 (some 29) ?_ ?_ ?_
 rotate_left
 · intro w _; go_simp; (try with_reducible rfl)
 (try simp only [cq])
 refine tkY 6 (some 30) ?_ ?_ ?_
 rotate_left
 · intro w hS0; go_simp; (try with_reducible rfl)
 (try simp only [cq])
 refine wpAnyH_ready (rs := [11]) (by kernel_rfl) (by simp) ?_
 refine arc1 (some 35) fun K hK => ?_
 go_simp
 (refine (from_in 0 3 bs _ hH.1.seed (by decide) (by decide) (by decide) (by decide)).mono ?_; rintro e w' ⟨n2, rfl, n2a, n2b, hd⟩; replace n2b : n2 ≤ 3 := (by omega); have e2 : IntKind.i64.wrap (m.b1 + n2) = m.b1 + n2 := IntWalk.i64_in _ (by omega); replace kN := hd.blk kN (by omega))
 refine hK.out _ _ ?_ ?_
 · (exact ⟨hH.1.trans hd, hd.blk hH.2.1 (by omega), hd.blk hH.2.2.1 (by omega), hd.blk hH.2.2.2.1 (by omega), hH.2.2.2.2.drawn hd (by omega)⟩)
 (try clear hH); (try clear hd)
 intro hH
 clear hK K
 (try simp only [cq])
 refine tkY 12 (some 36) ?_ ?_ ?_
 rotate_left
 · intro w _; go_simp; (try with_reducible rfl)
 (try simp only [cq])
 refine tkY 13 (some 37) ?_ ?_ ?_
 rotate_left
 · intro w _; go_simp; (try with_reducible rfl)
 (try simp only [cq])
 refine tkY 14 (some 38) ?_ ?_ ?_
 rotate_left
 · intro w hS0; go_simp; (try with_reducible rfl)
 (try simp only [cq])
 refine wpAnyH_ready (rs := [15]) (by kernel_rfl) (by simp) ?_
 refine arc1 none fun K hK => ?_
 obtain ⟨hD, hXX, hCC, hII, _⟩ := hH
 have k0 := kN.c8.1
 have k1 := kN.c8.2.1
 have fr0 := kN.free 0
 have fr1 := kN.free 1
 have zR := kN.lt
 have HS := Lib.hid (show Blk _ _ #[.int .i64 (max 0 (m.b0 + n1)), .int .i64 (m.b1 + n2), .int .i64 m.w0, .int .i64 m.w1, .int .i64 m.q0, .int .i64 m.q1, .int .i64 m.s0, .int .i64 m.s1] _ from (kN.set 0 (.int .i64 (max 0 (m.b0 + n1)))).set 1 (.int .i64 (m.b1 + n2)))
 have HD := Lib.hid (hD.set2 (b := bN) (by omega) hb1 (.int .i64 (max 0 (m.b0 + n1))) (.int .i64 (m.b1 + n2)))
 go_simp
 refine hK.out _ _ ?_ ?_
 · with_reducible exact ⟨HD.out, hXX.other2 (by omega) _ _, hCC.other2 (by omega) _ _, hII.other2 (by omega) _ _, Eight.of HS.out⟩
 (try clear hH); (try clear hd)
 intro hH
 clear hK K
 (try simp only [cq])
 refine wpAnyH_done (by kernel_rfl) ?_ _
 (try dsimp only [Act.put])
 (try simp only [cq])
 clear kN k0 k1 fr0 fr1 zR hD hXX hCC hII e1 e2
 go_wp2_with fail
 go_meet
 exact ⟨⟨(max 0 (m.b0 + n1)), (m.b1 + n2), m.w0, m.w1, m.q0, m.q1, m.s0, m.s1⟩, rfl, HS.out, hH.2.1, hH.2.2.1, hH.2.2.2.1, hH.1⟩
 }
 refine arc (some 35) (fun K hK => ?_) ?_
 {
 go_simp
 (refine (from_in 0 3 bs _ hH.1.seed (by decide) (by decide) (by decide) (by decide)).mono ?_; rintro e w' ⟨n2, rfl, n2a, n2b, hd⟩; replace n2b : n2 ≤ 3 := (by omega); have e2 : IntKind.i64.wrap (m.b1 + n2) = m.b1 + n2 := IntWalk.i64_in _ (by omega); replace kN := hd.blk kN (by omega))
 refine hK.out _ _ ?_ ?_
 · (exact ⟨hH.1.trans hd, hd.blk hH.2.1 (by omega), hd.blk hH.2.2.1 (by omega), hd.blk hH.2.2.2.1 (by omega), hH.2.2.2.2.drawn hd (by omega)⟩)
 (try clear hH); (try clear hd)
 intro hH
 clear hK K
 (try simp only [cq])
 refine tkY 12 (some 36) ?_ ?_ ?_
 rotate_left
 · intro w _; go_simp; (try with_reducible rfl)
 (try simp only [cq])
 refine wpAnyH_ready (rs := [2]) (by kernel_rfl) (by simp) ?_
 refine arc1 (some 26) fun K hK => ?_
 have k0 := kN.c8.1
 go_simp
 refine hK.out _ _ ?_ ?_
 · exact hH
 (try clear hH); (try clear hd)
 intro hH
 clear k0
 clear hK K
 (try simp only [cq])
 refine tkY 5 (some 29) ?_ ?_ ?_
 rotate_left
 · intro w _; go_simp; (try with_reducible rfl)
 (try simp only [cq])
 refine tkY 6 (some 30) ?_ ?_ ?_
 rotate_left
 · intro w hS0; go_simp; (try with_reducible rfl)
 (try simp only [cq])
 refine tkY 13 (some 37) ?_ ?_ ?_
 rotate_left
 · intro w _; go_simp; (try with_reducible rfl)
 (try simp only [cq])
 refine tkY 14 (some 38) ?_ ?_ ?_
 rotate_left
 · intro w hS0; go_simp; (try with_reducible rfl)
 (try simp only [cq])
 refine wpAnyH_ready (rs := [15]) (by kernel_rfl) (by simp) ?_
 refine arc1 none fun K hK => ?_
 obtain ⟨hD, hXX, hCC, hII, _⟩ := hH
 have k0 := kN.c8.1
 have k1 := kN.c8.2.1
 have fr0 := kN.free 0
 have fr1 := kN.free 1
 have zR := kN.lt
 have HS := Lib.hid (show Blk _ _ #[.int .i64 (max 0 (m.b0 + n1)), .int .i64 (m.b1 + n2), .int .i64 m.w0, .int .i64 m.w1, .int .i64 m.q0, .int .i64 m.q1, .int .i64 m.s0, .int .i64 m.s1] _ from (kN.set 0 (.int .i64 (max 0 (m.b0 + n1)))).set 1 (.int .i64 (m.b1 + n2)))
 have HD := Lib.hid (hD.set2 (b := bN) (by omega) hb1 (.int .i64 (max 0 (m.b0 + n1))) (.int .i64 (m.b1 + n2)))
 go_simp
 refine hK.out _ _ ?_ ?_
 · with_reducible exact ⟨HD.out, hXX.other2 (by omega) _ _, hCC.other2 (by omega) _ _, hII.other2 (by omega) _ _, Eight.of HS.out⟩
 (try clear hH); (try clear hd)
 intro hH
 clear hK K
 (try simp only [cq])
 refine wpAnyH_done (by kernel_rfl) ?_ _
 (try dsimp only [Act.put])
 (try simp only [cq])
 clear kN k0 k1 fr0 fr1 zR hD hXX hCC hII e1 e2
 go_wp2_with fail
 go_meet
 exact ⟨⟨(max 0 (m.b0 + n1)), (m.b1 + n2), m.w0, m.w1, m.q0, m.q1, m.s0, m.s1⟩, rfl, HS.out, hH.2.1, hH.2.2.1, hH.2.2.2.1, hH.1⟩
 }
 exact AllReadyH.nil
 }
 exact AllReadyH.nil
 }
 exact AllReadyH.nil )
  case rest =>
    obtain ⟨y, rfl, jN, jX, jC, jI, hA⟩ := hcut
    clear hm
    go_upto_region 5 with fail
    go_cut [10, 11] (fun s10 s11 wx => ∃ (m b1 o1 b2 o2 : Nat) (C1 C2 : Array Value) (xs cs : Nat → Ic), m ≤ 1000000 ∧ s10 = .slice (some ⟨b1, o1, none⟩) m m ∧ s11 = .slice (some ⟨b2, o2, none⟩) m m ∧ IcArr C1 o1 m xs ∧ IcArr C2 o2 m cs ∧ Blk wx b1 C1 28 ∧ Blk wx b2 C2 28 ∧ Drawn bs w1 wx)
    case first =>
      (
 refine wp_region_held_drew (S := (fun w' => Blk w' bX #[.int .i64 x.b0, .int .i64 x.b1, .int .i64 x.w0, .int .i64 x.w1, .int .i64 x.q0, .int .i64 x.q1, .int .i64 x.s0, .int .i64 x.s1] 28 ∧ Blk w' (bX + 1) #[.int .i64 c.b0, .int .i64 c.b1, .int .i64 c.w0, .int .i64 c.w1, .int .i64 c.q0, .int .i64 c.q1, .int .i64 c.s0, .int .i64 c.s1] 28 ∧ Blk w' bI #[.int .i64 i.b0, .int .i64 i.b1, .int .i64 i.w0, .int .i64 i.w1, .int .i64 i.q0, .int .i64 i.q1, .int .i64 i.s0, .int .i64 i.s1] 28 ∧ Blk w' bN #[.int .i64 y.b0, .int .i64 y.b1, .int .i64 y.w0, .int .i64 y.w1, .int .i64 y.q0, .int .i64 y.q1, .int .i64 y.s0, .int .i64 y.s1] 28 ∧ Drawn bs w1 w')) (by kernel_rfl) ?_ (fun hH => ?_)
 · (try dsimp only); (exact ⟨jX.drew, jC.drew, jI.drew, jN.drew, hA.trans (Drawn.drew hA.seed)⟩)
 refine tkY 0 (some 39) ?_ ?_ ?_
 rotate_left
 · intro w hS0; (try dsimp only at hS0); obtain ⟨kX, kC, kI, kN, _⟩ := hS0; obtain ⟨a0, a1, a2, a3, a4, a5, a6, a7⟩ := kX.c8; obtain ⟨c0, c1, c2, c3, c4, c5, c6, c7⟩ := kC.c8; obtain ⟨d0, d1, d2, d3, d4, d5, d6, d7⟩ := kI.c8; obtain ⟨f0, f1, f2, f3, f4, f5, f6, f7⟩ := kN.c8;go_simp; (try with_reducible rfl)
 (try simp only [cq])
 refine tkY 1 (some 40) ?_ ?_ ?_
 rotate_left
 · intro w hS0; (try dsimp only at hS0); obtain ⟨kX, kC, kI, kN, _⟩ := hS0; obtain ⟨a0, a1, a2, a3, a4, a5, a6, a7⟩ := kX.c8; obtain ⟨c0, c1, c2, c3, c4, c5, c6, c7⟩ := kC.c8; obtain ⟨d0, d1, d2, d3, d4, d5, d6, d7⟩ := kI.c8; obtain ⟨f0, f1, f2, f3, f4, f5, f6, f7⟩ := kN.c8;go_simp; (try with_reducible rfl)
 (try simp only [cq])
 refine tkY 2 (some 41) ?_ ?_ ?_
 rotate_left
 · intro w hS0; (try dsimp only at hS0); obtain ⟨kX, kC, kI, kN, _⟩ := hS0; obtain ⟨a0, a1, a2, a3, a4, a5, a6, a7⟩ := kX.c8; obtain ⟨c0, c1, c2, c3, c4, c5, c6, c7⟩ := kC.c8; obtain ⟨d0, d1, d2, d3, d4, d5, d6, d7⟩ := kI.c8; obtain ⟨f0, f1, f2, f3, f4, f5, f6, f7⟩ := kN.c8;go_simp; (try with_reducible rfl)
 (try simp only [cq])
 refine tkY 3 (some 42) ?_ ?_ ?_
 rotate_left
 · intro w hS0; (try dsimp only at hS0); obtain ⟨kX, kC, kI, kN, _⟩ := hS0; obtain ⟨a0, a1, a2, a3, a4, a5, a6, a7⟩ := kX.c8; obtain ⟨c0, c1, c2, c3, c4, c5, c6, c7⟩ := kC.c8; obtain ⟨d0, d1, d2, d3, d4, d5, d6, d7⟩ := kI.c8; obtain ⟨f0, f1, f2, f3, f4, f5, f6, f7⟩ := kN.c8;go_simp; (try with_reducible rfl)
 (try simp only [cq])
 refine tkY 5 (some 44) ?_ ?_ ?_
 rotate_left
 · intro w hS0; (try dsimp only at hS0); obtain ⟨kX, kC, kI, kN, _⟩ := hS0; obtain ⟨a0, a1, a2, a3, a4, a5, a6, a7⟩ := kX.c8; obtain ⟨c0, c1, c2, c3, c4, c5, c6, c7⟩ := kC.c8; obtain ⟨d0, d1, d2, d3, d4, d5, d6, d7⟩ := kI.c8; obtain ⟨f0, f1, f2, f3, f4, f5, f6, f7⟩ := kN.c8;go_simp; (try with_reducible rfl)
 (try simp only [cq])
 refine tkY 6 (some 45) ?_ ?_ ?_
 rotate_left
 · intro w hS0; (try dsimp only at hS0); obtain ⟨kX, kC, kI, kN, _⟩ := hS0; obtain ⟨a0, a1, a2, a3, a4, a5, a6, a7⟩ := kX.c8; obtain ⟨c0, c1, c2, c3, c4, c5, c6, c7⟩ := kC.c8; obtain ⟨d0, d1, d2, d3, d4, d5, d6, d7⟩ := kI.c8; obtain ⟨f0, f1, f2, f3, f4, f5, f6, f7⟩ := kN.c8;go_simp; (try with_reducible rfl)
 (try simp only [cq])
 refine tkY 7 (some 46) ?_ ?_ ?_
 rotate_left
 · intro w hS0; (try dsimp only at hS0); obtain ⟨kX, kC, kI, kN, _⟩ := hS0; obtain ⟨a0, a1, a2, a3, a4, a5, a6, a7⟩ := kX.c8; obtain ⟨c0, c1, c2, c3, c4, c5, c6, c7⟩ := kC.c8; obtain ⟨d0, d1, d2, d3, d4, d5, d6, d7⟩ := kI.c8; obtain ⟨f0, f1, f2, f3, f4, f5, f6, f7⟩ := kN.c8;go_simp; (try with_reducible rfl)
 (try simp only [cq])
 refine tkY 8 (some 47) ?_ ?_ ?_
 rotate_left
 · intro w hS0; (try dsimp only at hS0); obtain ⟨kX, kC, kI, kN, _⟩ := hS0; obtain ⟨a0, a1, a2, a3, a4, a5, a6, a7⟩ := kX.c8; obtain ⟨c0, c1, c2, c3, c4, c5, c6, c7⟩ := kC.c8; obtain ⟨d0, d1, d2, d3, d4, d5, d6, d7⟩ := kI.c8; obtain ⟨f0, f1, f2, f3, f4, f5, f6, f7⟩ := kN.c8;go_simp; (try with_reducible rfl)
 (try simp only [cq])
 refine wpAnyH_ready (rs := [4, 9]) (by kernel_rfl) (by simp) ?_
 refine arc (some 43) (fun K hK => ?_) ?_
 {
 go_simp
 first | refine oA hK ?_ (fun hH hA => ?_) | refine oD hK ?_ (fun hH hA => ?_)
 · (exact ⟨hH.1.alloc _, hH.2.1.alloc _, hH.2.2.1.alloc _, hH.2.2.2.1.alloc _, hH.2.2.2.2.new _⟩)
 ((try simp only [World.size_alloc] at hA); have hP := hA; clear hA; (try replace hQ := hQ.alloc (.cells #[.int .i64 x.b0, .int .i64 x.b1, .int .i64 x.w0, .int .i64 x.w1, .int .i64 x.q0, .int .i64 x.q1, .int .i64 x.s0, .int .i64 x.s1, .int .i64 i.b0, .int .i64 i.b1, .int .i64 i.w0, .int .i64 i.w1, .int .i64 i.q0, .int .i64 i.q1, .int .i64 i.s0, .int .i64 i.s1, .int .i64 i.b0, .int .i64 i.b1, .int .i64 i.w0, .int .i64 i.w1, .int .i64 i.q0, .int .i64 i.q1, .int .i64 i.s0, .int .i64 i.s1, .int .i64 x.b0, .int .i64 x.b1, .int .i64 x.w0, .int .i64 x.w1, .int .i64 x.q0, .int .i64 x.q1, .int .i64 x.s0, .int .i64 x.s1] 28)))
 clear hK K
 (try simp only [cq])
 refine tkY 10 (some 10) ?_ ?_ ?_
 rotate_left
 · intro w _; go_simp; (try with_reducible rfl)
 (try simp only [cq])
 refine wpAnyH_ready (rs := [9]) (by kernel_rfl) (by simp) ?_
 refine arc1 (some 48) fun K hK => ?_
 go_simp
 first | refine oA hK ?_ (fun hH hA => ?_) | refine oD hK ?_ (fun hH hA => ?_)
 · (exact ⟨hH.1.alloc _, hH.2.1.alloc _, hH.2.2.1.alloc _, hH.2.2.2.1.alloc _, hH.2.2.2.2.new _⟩)
 ((try simp only [World.size_alloc] at hA); have hQ := hA; clear hA; (try replace hP := hP.alloc (.cells #[.int .i64 c.b0, .int .i64 c.b1, .int .i64 c.w0, .int .i64 c.w1, .int .i64 c.q0, .int .i64 c.q1, .int .i64 c.s0, .int .i64 c.s1, .int .i64 y.b0, .int .i64 y.b1, .int .i64 y.w0, .int .i64 y.w1, .int .i64 y.q0, .int .i64 y.q1, .int .i64 y.s0, .int .i64 y.s1, .int .i64 c.b0, .int .i64 c.b1, .int .i64 c.w0, .int .i64 c.w1, .int .i64 c.q0, .int .i64 c.q1, .int .i64 c.s0, .int .i64 c.s1, .int .i64 y.b0, .int .i64 y.b1, .int .i64 y.w0, .int .i64 y.w1, .int .i64 y.q0, .int .i64 y.q1, .int .i64 y.s0, .int .i64 y.s1] 28)))
 clear hK K
 (try simp only [cq])
 refine tkY 11 (some 11) ?_ ?_ ?_
 rotate_left
 · intro w _; go_simp; (try with_reducible rfl)
 (try simp only [cq])
 refine wpAnyH_done (by kernel_rfl) ?_ _
 (try dsimp only [Act.put])
 (try simp only [cq])
 go_wp2_with fail
 go_meet
 exact ⟨4, _, _, _, _, _, _, _, _, by decide, rfl, rfl, icArr4 x i i x, icArr4 c y c y, hP, hQ, hH.2.2.2.2⟩
 }
 refine arc (some 48) (fun K hK => ?_) ?_
 {
 go_simp
 first | refine oA hK ?_ (fun hH hA => ?_) | refine oD hK ?_ (fun hH hA => ?_)
 · (exact ⟨hH.1.alloc _, hH.2.1.alloc _, hH.2.2.1.alloc _, hH.2.2.2.1.alloc _, hH.2.2.2.2.new _⟩)
 ((try simp only [World.size_alloc] at hA); have hQ := hA; clear hA; (try replace hP := hP.alloc (.cells #[.int .i64 c.b0, .int .i64 c.b1, .int .i64 c.w0, .int .i64 c.w1, .int .i64 c.q0, .int .i64 c.q1, .int .i64 c.s0, .int .i64 c.s1, .int .i64 y.b0, .int .i64 y.b1, .int .i64 y.w0, .int .i64 y.w1, .int .i64 y.q0, .int .i64 y.q1, .int .i64 y.s0, .int .i64 y.s1, .int .i64 c.b0, .int .i64 c.b1, .int .i64 c.w0, .int .i64 c.w1, .int .i64 c.q0, .int .i64 c.q1, .int .i64 c.s0, .int .i64 c.s1, .int .i64 y.b0, .int .i64 y.b1, .int .i64 y.w0, .int .i64 y.w1, .int .i64 y.q0, .int .i64 y.q1, .int .i64 y.s0, .int .i64 y.s1] 28)))
 clear hK K
 (try simp only [cq])
 refine wpAnyH_ready (rs := [4]) (by kernel_rfl) (by simp) ?_
 refine arc1 (some 43) fun K hK => ?_
 go_simp
 first | refine oA hK ?_ (fun hH hA => ?_) | refine oD hK ?_ (fun hH hA => ?_)
 · (exact ⟨hH.1.alloc _, hH.2.1.alloc _, hH.2.2.1.alloc _, hH.2.2.2.1.alloc _, hH.2.2.2.2.new _⟩)
 ((try simp only [World.size_alloc] at hA); have hP := hA; clear hA; (try replace hQ := hQ.alloc (.cells #[.int .i64 x.b0, .int .i64 x.b1, .int .i64 x.w0, .int .i64 x.w1, .int .i64 x.q0, .int .i64 x.q1, .int .i64 x.s0, .int .i64 x.s1, .int .i64 i.b0, .int .i64 i.b1, .int .i64 i.w0, .int .i64 i.w1, .int .i64 i.q0, .int .i64 i.q1, .int .i64 i.s0, .int .i64 i.s1, .int .i64 i.b0, .int .i64 i.b1, .int .i64 i.w0, .int .i64 i.w1, .int .i64 i.q0, .int .i64 i.q1, .int .i64 i.s0, .int .i64 i.s1, .int .i64 x.b0, .int .i64 x.b1, .int .i64 x.w0, .int .i64 x.w1, .int .i64 x.q0, .int .i64 x.q1, .int .i64 x.s0, .int .i64 x.s1] 28)))
 clear hK K
 (try simp only [cq])
 refine tkY 10 (some 10) ?_ ?_ ?_
 rotate_left
 · intro w _; go_simp; (try with_reducible rfl)
 (try simp only [cq])
 refine tkY 11 (some 11) ?_ ?_ ?_
 rotate_left
 · intro w _; go_simp; (try with_reducible rfl)
 (try simp only [cq])
 refine wpAnyH_done (by kernel_rfl) ?_ _
 (try dsimp only [Act.put])
 (try simp only [cq])
 go_wp2_with fail
 go_meet
 exact ⟨4, _, _, _, _, _, _, _, _, by decide, rfl, rfl, icArr4 x i i x, icArr4 c y c y, hP, hQ, hH.2.2.2.2⟩
 }
 exact AllReadyH.nil )
    case rest =>
      obtain ⟨m, b1, o1, b2, o2, C1, C2, xs, cs, hm4, rfl, rfl, h1, h2, j1, j2, hA⟩ := hcut
      clear jN jX jC jI
      have H1 := Lib.hid h1
      have H2 := Lib.hid h2
      clear h1 h2
      go_wp2_with fail
      go_loopw [12] (fun i wr => ∃ k : Nat, k ≤ m ∧ i = .int .i64 k ∧ Blk wr b1 C1 28 ∧ Blk wr b2 C2 28 ∧ Drawn bs w1 wr) (fun i _ => m - (intOf i).toNat)
      case atStart => exact ⟨0, Nat.zero_le _, rfl, j1, j2, hA⟩
      case round =>
        obtain ⟨k, hk, rfl, j1, j2, hA⟩ := hrel
        by_cases hlt : k < m
        · obtain ⟨v, hv⟩ := coV_ic (xs k) (cs k)
          obtain ⟨E, hE⟩ : ∃ E, coE (xs k) (cs k) = E := ⟨_, rfl⟩
          have K1 : Hid (∀ W, Calls Try.prog 27 #[.agg #[.int .i64 (xs k).b0, .int .i64 (xs k).b1, .int .i64 (xs k).w0, .int .i64 (xs k).w1, .int .i64 (xs k).q0, .int .i64 (xs k).q1, .int .i64 (xs k).s0, .int .i64 (xs k).s1], .agg #[.int .i64 (cs k).b0, .int .i64 (cs k).b1, .int .i64 (cs k).w0, .int .i64 (cs k).w1, .int .i64 (cs k).q0, .int .i64 (cs k).q1, .int .i64 (cs k).s0, .int .i64 (cs k).s1]] W fun e w' => e = .returned (.tuple #[.agg #[.int .i64 v.b0, .int .i64 v.b1, .int .i64 v.w0, .int .i64 v.w1, .int .i64 v.q0, .int .i64 v.q1, .int .i64 v.s0, .int .i64 v.s1], .int .i64 E]) ∧ Below W.heap.size W w') := fun W => by
            have h := core_any (xs k) (cs k) W
            rw [hv, hE] at h
            exact h
          have K2 : Hid (∀ W, Calls Try.prog 28 #[.agg #[.int .i64 (xs k).b0, .int .i64 (xs k).b1, .int .i64 (xs k).w0, .int .i64 (xs k).w1, .int .i64 (xs k).q0, .int .i64 (xs k).q1, .int .i64 (xs k).s0, .int .i64 (xs k).s1], .agg #[.int .i64 (cs k).b0, .int .i64 (cs k).b1, .int .i64 (cs k).w0, .int .i64 (cs k).w1, .int .i64 (cs k).q0, .int .i64 (cs k).q1, .int .i64 (cs k).s0, .int .i64 (cs k).s1]] W fun e w' => e = .returned (.tuple #[.agg #[.int .i64 v.b0, .int .i64 v.b1, .int .i64 v.w0, .int .i64 v.w1, .int .i64 v.q0, .int .i64 v.q1, .int .i64 v.s0, .int .i64 v.s1], .int .i64 E]) ∧ Below W.heap.size W w') := fun W => by
            have h := rcore_any (xs k) (cs k) W
            rw [hv, hE] at h
            exact h
          clear hv hE
          go_upto_region 9 with fail
          go_cut [13, 14] (fun s13 s14 wx => ∃ bA : Nat, s13 = .pointer (some ⟨bA, 0, none⟩) ∧ s14 = .int .i64 E ∧ Blk wx bA #[.int .i64 v.b0, .int .i64 v.b1, .int .i64 v.w0, .int .i64 v.w1, .int .i64 v.q0, .int .i64 v.q1, .int .i64 v.s0, .int .i64 v.s1] 28 ∧ Blk wx b1 C1 28 ∧ Blk wx b2 C2 28 ∧ Drawn bs w1 wx)
          case first =>
            (
 let S9 : World → Prop := (fun w' => Blk w' b1 C1 28 ∧ Blk w' b2 C2 28 ∧ Drawn bs w1 w')
 refine wp_region_held_drew (S := S9) (by kernel_rfl) ?_ (fun hH => ?_)
 · (try dsimp only); (exact ⟨j1.drew, j2.drew, hA.trans (Drawn.drew hA.seed)⟩)
 apply share0 (fun (bA : Nat) (W : World) => S9 W ∧ Blk W bA #[.int .i64 0, .int .i64 0, .int .i64 0, .int .i64 0, .int .i64 0, .int .i64 0, .int .i64 0, .int .i64 0] 28 ∧ (w1.heap.size ≤ bA) ∧ (b1 < bA) ∧ (b2 < bA))
 {
 intro X1
 apply share0 (fun (bA : Nat) (W : World) => S9 W ∧ Blk W bA #[.int .i64 0, .int .i64 0, .int .i64 0, .int .i64 0, .int .i64 0, .int .i64 0, .int .i64 0, .int .i64 0] 28 ∧ (w1.heap.size ≤ bA) ∧ (b1 < bA) ∧ (b2 < bA))
 {
 intro X0
 refine tkY 0 (some 56) ?_ ?_ ?_
 rotate_left
 · intro w _; go_simp; (try with_reducible rfl)
 (try simp only [cq])
 refine tkY 1 (some 57) ?_ ?_ ?_
 rotate_left
 · intro w _; go_simp; (try with_reducible rfl)
 (try simp only [cq])
 refine tkY 2 (some 58) ?_ ?_ ?_
 rotate_left
 · intro w hS0; (try dsimp only at hS0); obtain ⟨k1, k2, _⟩ := hS0; obtain ⟨a0, a1, a2, a3, a4, a5, a6, a7⟩ := H1.out.cells k1 hlt; obtain ⟨c0, c1, c2, c3, c4, c5, c6, c7⟩ := H2.out.cells k2 hlt; have z1 := k1.lt; have z2 := k2.lt;go_simp; (try with_reducible rfl)
 (try simp only [cq])
 refine tkY 3 (some 59) ?_ ?_ ?_
 rotate_left
 · intro w hS0; (try dsimp only at hS0); obtain ⟨k1, k2, _⟩ := hS0; obtain ⟨a0, a1, a2, a3, a4, a5, a6, a7⟩ := H1.out.cells k1 hlt; obtain ⟨c0, c1, c2, c3, c4, c5, c6, c7⟩ := H2.out.cells k2 hlt; have z1 := k1.lt; have z2 := k2.lt;go_simp; (try with_reducible rfl)
 (try simp only [cq])
 refine tkY 4 (some 60) ?_ ?_ ?_
 rotate_left
 · intro w _; go_simp; (try with_reducible rfl)
 (try simp only [cq])
 refine tkY 5 (some 61) ?_ ?_ ?_
 rotate_left
 · intro w _; go_simp; (try with_reducible rfl)
 (try simp only [cq])
 refine tkY 6 (some 62) ?_ ?_ ?_
 rotate_left
 · intro w hS0; (try dsimp only at hS0); obtain ⟨k1, k2, _⟩ := hS0; obtain ⟨a0, a1, a2, a3, a4, a5, a6, a7⟩ := H1.out.cells k1 hlt; obtain ⟨c0, c1, c2, c3, c4, c5, c6, c7⟩ := H2.out.cells k2 hlt; have z1 := k1.lt; have z2 := k2.lt;go_simp; (try with_reducible rfl)
 (try simp only [cq])
 refine tkY 7 (some 63) ?_ ?_ ?_
 rotate_left
 · intro w hS0; (try dsimp only at hS0); obtain ⟨k1, k2, _⟩ := hS0; obtain ⟨a0, a1, a2, a3, a4, a5, a6, a7⟩ := H1.out.cells k1 hlt; obtain ⟨c0, c1, c2, c3, c4, c5, c6, c7⟩ := H2.out.cells k2 hlt; have z1 := k1.lt; have z2 := k2.lt;go_simp; (try with_reducible rfl)
 (try simp only [cq])
 refine wpAnyH_ready (rs := [8, 12]) (by kernel_rfl) (by simp) ?_
 refine arc (some 64) (fun K hK => ?_) ?_
 {
 go_simp
 (refine (K1.out _).mono ?_; rintro e w' ⟨rfl, hb⟩; (try replace hA := hA.call hb))
 refine hK.out _ _ ?_ ?_
 · (exact ⟨hH.1.call hb, hH.2.1.call hb, hH.2.2.after hb⟩)
 (try clear hH); (try clear hb)
 intro hH
 clear hK K
 (try simp only [cq])
 refine tkY 9 (some 55) ?_ ?_ ?_
 rotate_left
 · intro w _; go_simp; (try with_reducible rfl)
 (try simp only [cq])
 refine tkY 10 (some 65) ?_ ?_ ?_
 rotate_left
 · intro w _; go_simp; (try with_reducible rfl)
 (try simp only [cq])
 refine tkY 11 (some 66) ?_ ?_ ?_
 rotate_left
 · intro w _; go_simp; (try with_reducible rfl)
 (try simp only [cq])
 refine wpAnyH_ready (rs := [12]) (by kernel_rfl) (by simp) ?_
 refine arc1 (some 13) fun K hK => ?_
 (have hN1 := hH.2.2.2.size; have hN2 := hH.1.lt; have hN3 := hH.2.1.lt; (try simp only [World.drew] at hN1 hN2 hN3))
 go_simp
 first | refine oA hK ?_ (fun hH hA => ?_) | refine oD hK ?_ (fun hH hA => ?_)
 · exact ⟨hH.1.alloc _, hH.2.1.alloc _, hH.2.2.new _⟩
 clear hK K
 (try simp only [cq])
 obtain ⟨bA, hbA⟩ : ∃ b, Blk.num hA = b := ⟨_, rfl⟩
 obtain ⟨W, hW⟩ : ∃ V, Blk.wld hA = V := ⟨_, rfl⟩
 simp only [Blk.num] at hbA
 simp only [Blk.wld] at hW
 rw [hW] at hH hA ⊢
 rw [hbA] at hA ⊢
 replace hN1 : w1.heap.size ≤ bA := (by rw [← hbA]; exact hN1)
 replace hN2 : b1 < bA := (by rw [← hbA]; exact hN2)
 replace hN3 : b2 < bA := (by rw [← hbA]; exact hN3)
 clear hW hbA
 exact X1  bA W ⟨hH, hA, hN1, hN2, hN3⟩
 }
 refine arc (some 13) (fun K hK => ?_) ?_
 {
 (have hN1 := hH.2.2.2.size; have hN2 := hH.1.lt; have hN3 := hH.2.1.lt; (try simp only [World.drew] at hN1 hN2 hN3))
 go_simp
 first | refine oA hK ?_ (fun hH hA => ?_) | refine oD hK ?_ (fun hH hA => ?_)
 · exact ⟨hH.1.alloc _, hH.2.1.alloc _, hH.2.2.new _⟩
 clear hK K
 (try simp only [cq])
 obtain ⟨bA, hbA⟩ : ∃ b, Blk.num hA = b := ⟨_, rfl⟩
 obtain ⟨W, hW⟩ : ∃ V, Blk.wld hA = V := ⟨_, rfl⟩
 simp only [Blk.num] at hbA
 simp only [Blk.wld] at hW
 rw [hW] at hH hA ⊢
 rw [hbA] at hA ⊢
 replace hN1 : w1.heap.size ≤ bA := (by rw [← hbA]; exact hN1)
 replace hN2 : b1 < bA := (by rw [← hbA]; exact hN2)
 replace hN3 : b2 < bA := (by rw [← hbA]; exact hN3)
 clear hW hbA
 exact X0  bA W ⟨hH, hA, hN1, hN2, hN3⟩
 }
 exact AllReadyH.nil
 }
 {
 intro bA W hall
 obtain ⟨hH, hA, hN1, hN2, hN3⟩ := hall
 (try dsimp only at hH)
 refine wpAnyH_ready (rs := [8]) (by kernel_rfl) (by simp) ?_
 refine arc1 (some 64) fun K hK => ?_
 go_simp
 (refine (K1.out _).mono ?_; rintro e w' ⟨rfl, hb⟩; (try replace hA := hA.call hb))
 refine hK.out _ _ ?_ ?_
 · (exact ⟨hH.1.call hb, hH.2.1.call hb, hH.2.2.after hb⟩)
 (try clear hH); (try clear hb)
 intro hH
 clear hK K
 (try simp only [cq])
 refine tkY 9 (some 55) ?_ ?_ ?_
 rotate_left
 · intro w _; go_simp; (try with_reducible rfl)
 (try simp only [cq])
 refine tkY 10 (some 65) ?_ ?_ ?_
 rotate_left
 · intro w _; go_simp; (try with_reducible rfl)
 (try simp only [cq])
 refine tkY 11 (some 66) ?_ ?_ ?_
 rotate_left
 · intro w _; go_simp; (try with_reducible rfl)
 (try simp only [cq])
 exact X1  bA w' ⟨hH, hA, hN1, hN2, hN3⟩
 }
 }
 {
 intro bA W hall
 obtain ⟨hH, hA, hN1, hN2, hN3⟩ := hall
 (try dsimp only at hH)
 refine wpAnyH_ready (rs := [13]) (by kernel_rfl) (by simp) ?_
 refine arc1 none fun K hK => ?_
 obtain ⟨h1, h2, hD⟩ := hH
 obtain ⟨r0, r1, r2, r3, r4, r5, r6, r7⟩ := hA.c8
 have fr0 := hA.free 0
 have fr1 := hA.free 1
 have fr2 := hA.free 2
 have fr3 := hA.free 3
 have fr4 := hA.free 4
 have fr5 := hA.free 5
 have fr6 := hA.free 6
 have fr7 := hA.free 7
 have zR := hA.lt
 have HS := Lib.hid (hA.set8 (.int .i64 v.b0) (.int .i64 v.b1) (.int .i64 v.w0) (.int .i64 v.w1) (.int .i64 v.q0) (.int .i64 v.q1) (.int .i64 v.s0) (.int .i64 v.s1))
 have HD := Lib.hid (hD.set8 hN1 hb1 (.int .i64 v.b0) (.int .i64 v.b1) (.int .i64 v.w0) (.int .i64 v.w1) (.int .i64 v.q0) (.int .i64 v.q1) (.int .i64 v.s0) (.int .i64 v.s1))
 go_simp
 refine hK.out _ _ ?_ ?_
 · with_reducible exact ⟨h1.other8 (by omega) _ _ _ _ _ _ _ _, h2.other8 (by omega) _ _ _ _ _ _ _ _, HD.out⟩
 (try clear hH); (try clear hb)
 intro hH
 clear hK K
 (try simp only [cq])
 refine tkY 14 (some 14) ?_ ?_ ?_
 rotate_left
 · intro w _; go_simp; (try with_reducible rfl)
 (try simp only [cq])
 refine wpAnyH_done (by kernel_rfl) ?_ _
 (try dsimp only [Act.put])
 (try simp only [cq])
 clear hA r0 r1 r2 r3 r4 r5 r6 r7 fr0 fr1 fr2 fr3 fr4 fr5 fr6 fr7 zR hD h1 h2
 go_wp2_with fail
 go_meet
 exact ⟨_, rfl, rfl, HS.out, hH.1, hH.2.1, hH.2.2⟩
 } )
          case rest =>
            obtain ⟨bE, rfl, rfl, jE, j1, j2, hA⟩ := hcut
            clear K1
            go_upto_region 10 with fail
            go_cut [15, 16] (fun s15 s16 wx => ∃ bA : Nat, s15 = .pointer (some ⟨bA, 0, none⟩) ∧ s16 = .int .i64 E ∧ Blk wx bA #[.int .i64 v.b0, .int .i64 v.b1, .int .i64 v.w0, .int .i64 v.w1, .int .i64 v.q0, .int .i64 v.q1, .int .i64 v.s0, .int .i64 v.s1] 28 ∧ Blk wx b1 C1 28 ∧ Blk wx b2 C2 28 ∧ Blk wx bE #[.int .i64 v.b0, .int .i64 v.b1, .int .i64 v.w0, .int .i64 v.w1, .int .i64 v.q0, .int .i64 v.q1, .int .i64 v.s0, .int .i64 v.s1] 28 ∧ Drawn bs w1 wx)
            case first =>
              (
 let S9 : World → Prop := (fun w' => Blk w' b1 C1 28 ∧ Blk w' b2 C2 28 ∧ Blk w' bE #[.int .i64 v.b0, .int .i64 v.b1, .int .i64 v.w0, .int .i64 v.w1, .int .i64 v.q0, .int .i64 v.q1, .int .i64 v.s0, .int .i64 v.s1] 28 ∧ Drawn bs w1 w')
 refine wp_region_held_drew (S := S9) (by kernel_rfl) ?_ (fun hH => ?_)
 · (try dsimp only); (exact ⟨j1.drew, j2.drew, jE.drew, hA.trans (Drawn.drew hA.seed)⟩)
 apply share0 (fun (bA : Nat) (W : World) => S9 W ∧ Blk W bA #[.int .i64 0, .int .i64 0, .int .i64 0, .int .i64 0, .int .i64 0, .int .i64 0, .int .i64 0, .int .i64 0] 28 ∧ (w1.heap.size ≤ bA) ∧ (b1 < bA) ∧ (b2 < bA) ∧ (bE < bA))
 {
 intro X1
 apply share0 (fun (bA : Nat) (W : World) => S9 W ∧ Blk W bA #[.int .i64 0, .int .i64 0, .int .i64 0, .int .i64 0, .int .i64 0, .int .i64 0, .int .i64 0, .int .i64 0] 28 ∧ (w1.heap.size ≤ bA) ∧ (b1 < bA) ∧ (b2 < bA) ∧ (bE < bA))
 {
 intro X0
 refine tkY 0 (some 68) ?_ ?_ ?_
 rotate_left
 · intro w _; go_simp; (try with_reducible rfl)
 (try simp only [cq])
 refine tkY 1 (some 69) ?_ ?_ ?_
 rotate_left
 · intro w _; go_simp; (try with_reducible rfl)
 (try simp only [cq])
 refine tkY 2 (some 70) ?_ ?_ ?_
 rotate_left
 · intro w hS0; (try dsimp only at hS0); obtain ⟨k1, k2, _, _⟩ := hS0; obtain ⟨a0, a1, a2, a3, a4, a5, a6, a7⟩ := H1.out.cells k1 hlt; obtain ⟨c0, c1, c2, c3, c4, c5, c6, c7⟩ := H2.out.cells k2 hlt; have z1 := k1.lt; have z2 := k2.lt;go_simp; (try with_reducible rfl)
 (try simp only [cq])
 refine tkY 3 (some 71) ?_ ?_ ?_
 rotate_left
 · intro w hS0; (try dsimp only at hS0); obtain ⟨k1, k2, _, _⟩ := hS0; obtain ⟨a0, a1, a2, a3, a4, a5, a6, a7⟩ := H1.out.cells k1 hlt; obtain ⟨c0, c1, c2, c3, c4, c5, c6, c7⟩ := H2.out.cells k2 hlt; have z1 := k1.lt; have z2 := k2.lt;go_simp; (try with_reducible rfl)
 (try simp only [cq])
 refine tkY 4 (some 72) ?_ ?_ ?_
 rotate_left
 · intro w _; go_simp; (try with_reducible rfl)
 (try simp only [cq])
 refine tkY 5 (some 73) ?_ ?_ ?_
 rotate_left
 · intro w _; go_simp; (try with_reducible rfl)
 (try simp only [cq])
 refine tkY 6 (some 74) ?_ ?_ ?_
 rotate_left
 · intro w hS0; (try dsimp only at hS0); obtain ⟨k1, k2, _, _⟩ := hS0; obtain ⟨a0, a1, a2, a3, a4, a5, a6, a7⟩ := H1.out.cells k1 hlt; obtain ⟨c0, c1, c2, c3, c4, c5, c6, c7⟩ := H2.out.cells k2 hlt; have z1 := k1.lt; have z2 := k2.lt;go_simp; (try with_reducible rfl)
 (try simp only [cq])
 refine tkY 7 (some 75) ?_ ?_ ?_
 rotate_left
 · intro w hS0; (try dsimp only at hS0); obtain ⟨k1, k2, _, _⟩ := hS0; obtain ⟨a0, a1, a2, a3, a4, a5, a6, a7⟩ := H1.out.cells k1 hlt; obtain ⟨c0, c1, c2, c3, c4, c5, c6, c7⟩ := H2.out.cells k2 hlt; have z1 := k1.lt; have z2 := k2.lt;go_simp; (try with_reducible rfl)
 (try simp only [cq])
 refine wpAnyH_ready (rs := [8, 12]) (by kernel_rfl) (by simp) ?_
 refine arc (some 76) (fun K hK => ?_) ?_
 {
 go_simp
 (refine (K2.out _).mono ?_; rintro e w' ⟨rfl, hb⟩; (try replace hA := hA.call hb))
 refine hK.out _ _ ?_ ?_
 · (exact ⟨hH.1.call hb, hH.2.1.call hb, hH.2.2.1.call hb, hH.2.2.2.after hb⟩)
 (try clear hH); (try clear hb)
 intro hH
 clear hK K
 (try simp only [cq])
 refine tkY 9 (some 67) ?_ ?_ ?_
 rotate_left
 · intro w _; go_simp; (try with_reducible rfl)
 (try simp only [cq])
 refine tkY 10 (some 77) ?_ ?_ ?_
 rotate_left
 · intro w _; go_simp; (try with_reducible rfl)
 (try simp only [cq])
 refine tkY 11 (some 78) ?_ ?_ ?_
 rotate_left
 · intro w _; go_simp; (try with_reducible rfl)
 (try simp only [cq])
 refine wpAnyH_ready (rs := [12]) (by kernel_rfl) (by simp) ?_
 refine arc1 (some 15) fun K hK => ?_
 (have hN1 := hH.2.2.2.2.size; have hN2 := hH.1.lt; have hN3 := hH.2.1.lt; have hN4 := hH.2.2.1.lt; (try simp only [World.drew] at hN1 hN2 hN3 hN4))
 go_simp
 first | refine oA hK ?_ (fun hH hA => ?_) | refine oD hK ?_ (fun hH hA => ?_)
 · exact ⟨hH.1.alloc _, hH.2.1.alloc _, hH.2.2.1.alloc _, hH.2.2.2.new _⟩
 clear hK K
 (try simp only [cq])
 obtain ⟨bA, hbA⟩ : ∃ b, Blk.num hA = b := ⟨_, rfl⟩
 obtain ⟨W, hW⟩ : ∃ V, Blk.wld hA = V := ⟨_, rfl⟩
 simp only [Blk.num] at hbA
 simp only [Blk.wld] at hW
 rw [hW] at hH hA ⊢
 rw [hbA] at hA ⊢
 replace hN1 : w1.heap.size ≤ bA := (by rw [← hbA]; exact hN1)
 replace hN2 : b1 < bA := (by rw [← hbA]; exact hN2)
 replace hN3 : b2 < bA := (by rw [← hbA]; exact hN3)
 replace hN4 : bE < bA := (by rw [← hbA]; exact hN4)
 clear hW hbA
 exact X1  bA W ⟨hH, hA, hN1, hN2, hN3, hN4⟩
 }
 refine arc (some 15) (fun K hK => ?_) ?_
 {
 (have hN1 := hH.2.2.2.2.size; have hN2 := hH.1.lt; have hN3 := hH.2.1.lt; have hN4 := hH.2.2.1.lt; (try simp only [World.drew] at hN1 hN2 hN3 hN4))
 go_simp
 first | refine oA hK ?_ (fun hH hA => ?_) | refine oD hK ?_ (fun hH hA => ?_)
 · exact ⟨hH.1.alloc _, hH.2.1.alloc _, hH.2.2.1.alloc _, hH.2.2.2.new _⟩
 clear hK K
 (try simp only [cq])
 obtain ⟨bA, hbA⟩ : ∃ b, Blk.num hA = b := ⟨_, rfl⟩
 obtain ⟨W, hW⟩ : ∃ V, Blk.wld hA = V := ⟨_, rfl⟩
 simp only [Blk.num] at hbA
 simp only [Blk.wld] at hW
 rw [hW] at hH hA ⊢
 rw [hbA] at hA ⊢
 replace hN1 : w1.heap.size ≤ bA := (by rw [← hbA]; exact hN1)
 replace hN2 : b1 < bA := (by rw [← hbA]; exact hN2)
 replace hN3 : b2 < bA := (by rw [← hbA]; exact hN3)
 replace hN4 : bE < bA := (by rw [← hbA]; exact hN4)
 clear hW hbA
 exact X0  bA W ⟨hH, hA, hN1, hN2, hN3, hN4⟩
 }
 exact AllReadyH.nil
 }
 {
 intro bA W hall
 obtain ⟨hH, hA, hN1, hN2, hN3, hN4⟩ := hall
 (try dsimp only at hH)
 refine wpAnyH_ready (rs := [8]) (by kernel_rfl) (by simp) ?_
 refine arc1 (some 76) fun K hK => ?_
 go_simp
 (refine (K2.out _).mono ?_; rintro e w' ⟨rfl, hb⟩; (try replace hA := hA.call hb))
 refine hK.out _ _ ?_ ?_
 · (exact ⟨hH.1.call hb, hH.2.1.call hb, hH.2.2.1.call hb, hH.2.2.2.after hb⟩)
 (try clear hH); (try clear hb)
 intro hH
 clear hK K
 (try simp only [cq])
 refine tkY 9 (some 67) ?_ ?_ ?_
 rotate_left
 · intro w _; go_simp; (try with_reducible rfl)
 (try simp only [cq])
 refine tkY 10 (some 77) ?_ ?_ ?_
 rotate_left
 · intro w _; go_simp; (try with_reducible rfl)
 (try simp only [cq])
 refine tkY 11 (some 78) ?_ ?_ ?_
 rotate_left
 · intro w _; go_simp; (try with_reducible rfl)
 (try simp only [cq])
 exact X1  bA w' ⟨hH, hA, hN1, hN2, hN3, hN4⟩
 }
 }
 {
 intro bA W hall
 obtain ⟨hH, hA, hN1, hN2, hN3, hN4⟩ := hall
 (try dsimp only at hH)
 refine wpAnyH_ready (rs := [13]) (by kernel_rfl) (by simp) ?_
 refine arc1 none fun K hK => ?_
 obtain ⟨h1, h2, h3, hD⟩ := hH
 obtain ⟨r0, r1, r2, r3, r4, r5, r6, r7⟩ := hA.c8
 have fr0 := hA.free 0
 have fr1 := hA.free 1
 have fr2 := hA.free 2
 have fr3 := hA.free 3
 have fr4 := hA.free 4
 have fr5 := hA.free 5
 have fr6 := hA.free 6
 have fr7 := hA.free 7
 have zR := hA.lt
 have HS := Lib.hid (hA.set8 (.int .i64 v.b0) (.int .i64 v.b1) (.int .i64 v.w0) (.int .i64 v.w1) (.int .i64 v.q0) (.int .i64 v.q1) (.int .i64 v.s0) (.int .i64 v.s1))
 have HD := Lib.hid (hD.set8 hN1 hb1 (.int .i64 v.b0) (.int .i64 v.b1) (.int .i64 v.w0) (.int .i64 v.w1) (.int .i64 v.q0) (.int .i64 v.q1) (.int .i64 v.s0) (.int .i64 v.s1))
 go_simp
 refine hK.out _ _ ?_ ?_
 · with_reducible exact ⟨h1.other8 (by omega) _ _ _ _ _ _ _ _, h2.other8 (by omega) _ _ _ _ _ _ _ _, h3.other8 (by omega) _ _ _ _ _ _ _ _, HD.out⟩
 (try clear hH); (try clear hb)
 intro hH
 clear hK K
 (try simp only [cq])
 refine tkY 14 (some 16) ?_ ?_ ?_
 rotate_left
 · intro w _; go_simp; (try with_reducible rfl)
 (try simp only [cq])
 refine wpAnyH_done (by kernel_rfl) ?_ _
 (try dsimp only [Act.put])
 (try simp only [cq])
 clear hA r0 r1 r2 r3 r4 r5 r6 r7 fr0 fr1 fr2 fr3 fr4 fr5 fr6 fr7 zR hD h1 h2 h3
 go_wp2_with fail
 go_meet
 exact ⟨_, rfl, rfl, HS.out, hH.1, hH.2.1, hH.2.2.1, hH.2.2.2⟩
 } )
    
            case rest =>
              obtain ⟨bF, rfl, rfl, jF, j1, j2, jE, hA⟩ := hcut
              clear K2
              obtain ⟨p0, p1, p2, p3, p4, p5, p6, p7⟩ := jE.c8
              obtain ⟨q0, q1, q2, q3, q4, q5, q6, q7⟩ := jF.c8
              have zE := jE.lt
              have zF := jF.lt
              go_wp2
              go_roundw
              case rel => exact ⟨k + 1, by omega, by go_num, j1, j2, hA⟩
              case measure => simp [intOf]; omega
        · go_wp2_with fail
          refine (awake_any _).mono ?_
          rintro e w9 ⟨rfl, hb⟩
          replace hA := hA.after hb
          go_wp2
          go_ret
          exact ⟨rfl, Drawn.below HB.out.2 hA HB.out.1⟩
end Go.Proofs.Ytkldjaofgdklbaa
