/-
  Volume (package fuel), of a valid tank.
-/
import Derived.Test.YtpeogfcfiabcfaaTail
import Derived.Test.YtpeogfcfiabcfaaKit
set_option linter.unusedVariables false
set_option linter.unusedSimpArgs false
namespace Go.Proofs.Ytpeogfcfiabcfaa
open Go.RowKit

set_option maxRecDepth 100000 in
set_option maxHeartbeats 1000000 in
set_option profiler true in
set_option profiler.threshold 800 in
theorem volume_ok (n : Nat) (H L : Nat → Int) (d0 d1 : Int) (b o cH b2 o2 cL : Nat) (w : World) (ok : TkOk n H L) (he : eTank n n H L = 0) (hs : eS d0 d1 (H 0) (H (n - 1)) = 0) (g0 : H 0 ≤ d0) (g1 : d0 ≤ d1) (g2 : d1 ≤ H (n - 1)) (hcH : n ≤ cH) (hcH2 : cH ≤ 9223372036854775807) (hcL : n ≤ cL) (hcL2 : cL ≤ 9223372036854775807) (hH : AtC w b o n 1 (inC H)) (hL : AtC w b2 o2 n 1 (inC L)) :
    Calls Try.prog 19 #[.agg #[.slice (some ⟨b, o, none⟩) n cH, .slice (some ⟨b2, o2, none⟩) n cL], .agg #[.int .i64 d0, .int .i64 d1]] w fun e w' => ∃ k0 k1 : Nat, Part n H d0 k0 ∧ Part n H d1 k1 ∧ e = .returned (.tuple #[.agg #[.int .i64 (ctLo H L d0 k0), .int .i64 (ctHi H L d1 k1)], .int .i64 0]) ∧ Below w.heap.size w w' := by
  have n2 := ok.n2
  have n40 := ok.n40
  have zb := hH.lt (i := 0) (by omega) rfl
  have zb2 := hL.lt (i := 0) (by omega) rfl
  have hHb : IntsAt w (.slice (some ⟨b, o, none⟩) n cH) n H := ⟨_, _, rfl, hcH, hcH2, fun _ => ⟨b, o, rfl, hH⟩⟩
  have hLb : IntsAt w (.slice (some ⟨b2, o2, none⟩) n cL) n L := ⟨_, _, rfl, hcL, hcL2, fun _ => ⟨b2, o2, rfl, hL⟩⟩
  have HT := Lib.hid (fun (W : World) (h : Below w.heap.size w W) => tank_any n n H L _ _ W (hHb.later h) (hLb.later h))
  simp only [he] at HT
  have HC0 := Lib.hid (fun (W : World) (h : Below w.heap.size w W) => contents_ok n H L d0 b o cH b2 o2 cL W ok g0 (Int.le_trans g1 g2) (hH.later h) (hL.later h))
  have HC1 := Lib.hid (fun (W : World) (h : Below w.heap.size w W) => contents_ok n H L d1 b o cH b2 o2 cL W ok (Int.le_trans g0 g1) g2 (hH.later h) (hL.later h))
  have HS := Lib.hid (fun (W : World) => span_any d0 d1 (H 0) (H (n - 1)) W)
  simp only [hs] at HS
  have a1 := hH.c1 (i := 0) (by omega) rfl
  rw [Nat.add_zero] at a1
  have a2 := hH.c1 (i := n - 1) (by omega) rfl
  have HV := Lib.hid (fun (W : World) (hW : Below w.heap.size w W) => And.intro (cell_later hW a1) (cell_later hW a2))
  clear a1 a2 hHb hLb hH hL ok he hs g0 g1 g2
  have jT := ((Blk.new w #[.slice (some ⟨b, o, none⟩) n cH, .slice (some ⟨b2, o2, none⟩) n cL] 24).alloc (.cells #[.int .i64 d0, .int .i64 d1] 26)).alloc (.cells #[.int .i64 0, .int .i64 0] 26)
  have jQ := (Blk.new1 w (.cells #[.slice (some ⟨b, o, none⟩) n cH, .slice (some ⟨b2, o2, none⟩) n cL] 24) #[.int .i64 d0, .int .i64 d1] 26).alloc (.cells #[.int .i64 0, .int .i64 0] 26)
  have jR := Blk.new2 w (.cells #[.slice (some ⟨b, o, none⟩) n cH, .slice (some ⟨b2, o2, none⟩) n cL] 24) (.cells #[.int .i64 d0, .int .i64 d1] 26) #[.int .i64 0, .int .i64 0] 26
  have jB : Below w.heap.size w (((w.alloc (.cells #[.slice (some ⟨b, o, none⟩) n cH, .slice (some ⟨b2, o2, none⟩) n cL] 24)).alloc (.cells #[.int .i64 d0, .int .i64 d1] 26)).alloc (.cells #[.int .i64 0, .int .i64 0] 26)) := by (repeat (first | exact Below.refl _ _ | assumption | refine Below.drew ?_ | refine Below.drewN ?_ _ | refine blT ?_ | refine blU ?_))
  go_enter Try.func19, Try.ntmps19
  go_wp2_with fail
  refine (HT.out _ jB).mono ?_
  rintro e w1 ⟨rfl, hb⟩
  replace jT := jT.call hb
  replace jQ := jQ.call hb
  replace jR := jR.call hb
  replace jB := bwS jB (Nat.le_refl _) hb
  clear hb HT
  have e0 : ((0 : Int) != 0) = false := by decide
  have e1 : IntKind.i64.wrap ((n : Int) - 1) = ((n - 1 : Nat) : Int) := by rw [show (n : Int) - 1 = ((n - 1 : Nat) : Int) by omega]; exact IntWalk.i64_in _ (by omega)
  have e2 : n - 1 < n := by omega
  have e3 : ((n - 1 : Nat) : Int) < n := by omega
  have e4 : (0 : Int) < n := by omega
  have e5 : 0 < n := by omega
  go_upto_region 4 with fail
  refine wp_region_held_drew (S := (fun wx => Blk wx w.heap.size #[.slice (some ⟨b, o, none⟩) n cH, .slice (some ⟨b2, o2, none⟩) n cL] 24 ∧ Blk wx (w.heap.size + 1) #[.int .i64 d0, .int .i64 d1] 26 ∧ Blk wx (w.heap.size + 1 + 1) #[.int .i64 0, .int .i64 0] 26 ∧ Below w.heap.size w wx)) (by kernel_rfl) ?_ (fun hH => ?_)
  · (try dsimp only); (exact ⟨jT.drew, jQ.drew, jR.drew, jB.drew⟩)
  refine tkY 0 (some 14) ?_ ?_ ?_
  rotate_left
  · intro w hS0; (try dsimp only at hS0); obtain ⟨kT, kQ, kR, kB⟩ := hS0; obtain ⟨c0, c1⟩ := kT.c2; obtain ⟨q0, q1⟩ := kQ.c2; obtain ⟨r1, r2⟩ := HV.out _ kB; have y1 := kT.lt; have y2 := kQ.lt; have y3 := World.block_lt_of_cell? _ _ r1;go_simp; (try with_reducible rfl)
  (try simp only [cq])
  refine tkY 1 (some 15) ?_ ?_ ?_
  rotate_left
  · intro w hS0; (try dsimp only at hS0); obtain ⟨kT, kQ, kR, kB⟩ := hS0; obtain ⟨c0, c1⟩ := kT.c2; obtain ⟨q0, q1⟩ := kQ.c2; obtain ⟨r1, r2⟩ := HV.out _ kB; have y1 := kT.lt; have y2 := kQ.lt; have y3 := World.block_lt_of_cell? _ _ r1;go_simp; (try with_reducible rfl)
  (try simp only [cq])
  refine tkY 2 (some 16) ?_ ?_ ?_
  rotate_left
  · intro w hS0; (try dsimp only at hS0); obtain ⟨kT, kQ, kR, kB⟩ := hS0; obtain ⟨c0, c1⟩ := kT.c2; obtain ⟨q0, q1⟩ := kQ.c2; obtain ⟨r1, r2⟩ := HV.out _ kB; have y1 := kT.lt; have y2 := kQ.lt; have y3 := World.block_lt_of_cell? _ _ r1;go_simp; (try with_reducible rfl)
  (try simp only [cq])
  refine tkY 3 (some 17) ?_ ?_ ?_
  rotate_left
  · intro w hS0; (try dsimp only at hS0); obtain ⟨kT, kQ, kR, kB⟩ := hS0; obtain ⟨c0, c1⟩ := kT.c2; obtain ⟨q0, q1⟩ := kQ.c2; obtain ⟨r1, r2⟩ := HV.out _ kB; have y1 := kT.lt; have y2 := kQ.lt; have y3 := World.block_lt_of_cell? _ _ r1;go_simp; (try with_reducible rfl)
  (try simp only [cq])
  refine tkY 4 (some 18) ?_ ?_ ?_
  rotate_left
  · intro w hS0; (try dsimp only at hS0); obtain ⟨kT, kQ, kR, kB⟩ := hS0; obtain ⟨c0, c1⟩ := kT.c2; obtain ⟨q0, q1⟩ := kQ.c2; obtain ⟨r1, r2⟩ := HV.out _ kB; have y1 := kT.lt; have y2 := kQ.lt; have y3 := World.block_lt_of_cell? _ _ r1;go_simp; (try with_reducible rfl)
  (try simp only [cq])
  refine tkY 5 (some 19) ?_ ?_ ?_
  rotate_left
  · intro w hS0; (try dsimp only at hS0); obtain ⟨kT, kQ, kR, kB⟩ := hS0; obtain ⟨c0, c1⟩ := kT.c2; obtain ⟨q0, q1⟩ := kQ.c2; obtain ⟨r1, r2⟩ := HV.out _ kB; have y1 := kT.lt; have y2 := kQ.lt; have y3 := World.block_lt_of_cell? _ _ r1;go_simp; (try with_reducible rfl)
  (try simp only [cq])
  refine tkY 6 (some 20) ?_ ?_ ?_
  rotate_left
  · intro w hS0; (try dsimp only at hS0); obtain ⟨kT, kQ, kR, kB⟩ := hS0; obtain ⟨c0, c1⟩ := kT.c2; obtain ⟨q0, q1⟩ := kQ.c2; obtain ⟨r1, r2⟩ := HV.out _ kB; have y1 := kT.lt; have y2 := kQ.lt; have y3 := World.block_lt_of_cell? _ _ r1;go_simp; (try with_reducible rfl)
  (try simp only [cq])
  refine tkY 7 (some 21) ?_ ?_ ?_
  rotate_left
  · intro w hS0; (try dsimp only at hS0); obtain ⟨kT, kQ, kR, kB⟩ := hS0; obtain ⟨c0, c1⟩ := kT.c2; obtain ⟨q0, q1⟩ := kQ.c2; obtain ⟨r1, r2⟩ := HV.out _ kB; have y1 := kT.lt; have y2 := kQ.lt; have y3 := World.block_lt_of_cell? _ _ r1;go_simp; (try with_reducible rfl)
  (try simp only [cq])
  refine tkY 8 (some 22) ?_ ?_ ?_
  rotate_left
  · intro w hS0; (try dsimp only at hS0); obtain ⟨kT, kQ, kR, kB⟩ := hS0; obtain ⟨c0, c1⟩ := kT.c2; obtain ⟨q0, q1⟩ := kQ.c2; obtain ⟨r1, r2⟩ := HV.out _ kB; have y1 := kT.lt; have y2 := kQ.lt; have y3 := World.block_lt_of_cell? _ _ r1;go_simp; (try with_reducible rfl)
  (try simp only [cq])
  refine tkY 9 (some 23) ?_ ?_ ?_
  rotate_left
  · intro w hS0; (try dsimp only at hS0); obtain ⟨kT, kQ, kR, kB⟩ := hS0; obtain ⟨c0, c1⟩ := kT.c2; obtain ⟨q0, q1⟩ := kQ.c2; obtain ⟨r1, r2⟩ := HV.out _ kB; have y1 := kT.lt; have y2 := kQ.lt; have y3 := World.block_lt_of_cell? _ _ r1;go_simp; (try with_reducible rfl)
  (try simp only [cq])
  refine tkY 10 (some 24) ?_ ?_ ?_
  rotate_left
  · intro w _; go_simp; (try with_reducible rfl)
  (try simp only [cq])
  refine tkY 11 (some 25) ?_ ?_ ?_
  rotate_left
  · intro w hS0; (try dsimp only at hS0); obtain ⟨kT, kQ, kR, kB⟩ := hS0; obtain ⟨c0, c1⟩ := kT.c2; obtain ⟨q0, q1⟩ := kQ.c2; obtain ⟨r1, r2⟩ := HV.out _ kB; have y1 := kT.lt; have y2 := kQ.lt; have y3 := World.block_lt_of_cell? _ _ r1;go_simp; (try with_reducible rfl)
  (try simp only [cq])
  refine tkY 12 (some 26) ?_ ?_ ?_
  rotate_left
  · intro w hS0; (try dsimp only at hS0); obtain ⟨kT, kQ, kR, kB⟩ := hS0; obtain ⟨c0, c1⟩ := kT.c2; obtain ⟨q0, q1⟩ := kQ.c2; obtain ⟨r1, r2⟩ := HV.out _ kB; have y1 := kT.lt; have y2 := kQ.lt; have y3 := World.block_lt_of_cell? _ _ r1;go_simp; (try with_reducible rfl)
  (try simp only [cq])
  refine wpAnyH_ready (rs := [13]) (by kernel_rfl) (by simp) ?_
  refine arc1 (some 27) fun K hK => ?_
  go_simp
  (refine (HS.out _).mono ?_; rintro e w' ⟨rfl, hb⟩)
  refine hK.out _ _ ?_ ?_
  · (exact ⟨hH.1.call hb, hH.2.1.call hb, hH.2.2.1.call hb, bwS hH.2.2.2 (Nat.le_refl _) hb⟩)
  (try clear hH); (try clear hb)
  intro hH
  clear hK K
  (try simp only [cq])
  refine tkY 14 (some 7) ?_ ?_ ?_
  rotate_left
  · intro w _; go_simp; (try with_reducible rfl)
  (try simp only [cq])
  refine wpAnyH_done (by kernel_rfl) ?_ _
  (try dsimp only [Act.put])
  (try simp only [cq])
  clear jT jQ jR jB HS
  obtain ⟨jT, jQ, jR, jB⟩ := hH
  go_upto_region 7 with fail
  (
 refine wp_region_held_drew (S := (fun wx => Blk wx w.heap.size #[.slice (some ⟨b, o, none⟩) n cH, .slice (some ⟨b2, o2, none⟩) n cL] 24 ∧ Blk wx (w.heap.size + 1) #[.int .i64 d0, .int .i64 d1] 26 ∧ Two wx (w.heap.size + 1 + 1) 26 ∧ Below w.heap.size w wx)) (by kernel_rfl) ?_ (fun hH => ?_)
 · (try dsimp only); (exact ⟨jT.drew, jQ.drew, ⟨_, _, jR.drew⟩, jB.drew⟩)
 refine tkY 0 (some 32) ?_ ?_ ?_
 rotate_left
 · intro w hS0; (try dsimp only at hS0); obtain ⟨kT, kQ, kR, kB⟩ := hS0; obtain ⟨c0, c1⟩ := kT.c2; obtain ⟨q0, q1⟩ := kQ.c2; have y1 := kT.lt; have y2 := kQ.lt;go_simp; (try with_reducible rfl)
 (try simp only [cq])
 refine tkY 1 (some 33) ?_ ?_ ?_
 rotate_left
 · intro w hS0; (try dsimp only at hS0); obtain ⟨kT, kQ, kR, kB⟩ := hS0; obtain ⟨c0, c1⟩ := kT.c2; obtain ⟨q0, q1⟩ := kQ.c2; have y1 := kT.lt; have y2 := kQ.lt;go_simp; (try with_reducible rfl)
 (try simp only [cq])
 refine tkY 2 (some 34) ?_ ?_ ?_
 rotate_left
 · intro w hS0; (try dsimp only at hS0); obtain ⟨kT, kQ, kR, kB⟩ := hS0; obtain ⟨c0, c1⟩ := kT.c2; obtain ⟨q0, q1⟩ := kQ.c2; have y1 := kT.lt; have y2 := kQ.lt;go_simp; (try with_reducible rfl)
 (try simp only [cq])
 refine tkY 5 (some 37) ?_ ?_ ?_
 rotate_left
 · intro w hS0; (try dsimp only at hS0); obtain ⟨kT, kQ, kR, kB⟩ := hS0; obtain ⟨c0, c1⟩ := kT.c2; obtain ⟨q0, q1⟩ := kQ.c2; have y1 := kT.lt; have y2 := kQ.lt;go_simp; (try with_reducible rfl)
 (try simp only [cq])
 refine tkY 6 (some 38) ?_ ?_ ?_
 rotate_left
 · intro w hS0; (try dsimp only at hS0); obtain ⟨kT, kQ, kR, kB⟩ := hS0; obtain ⟨c0, c1⟩ := kT.c2; obtain ⟨q0, q1⟩ := kQ.c2; have y1 := kT.lt; have y2 := kQ.lt;go_simp; (try with_reducible rfl)
 (try simp only [cq])
 refine tkY 7 (some 39) ?_ ?_ ?_
 rotate_left
 · intro w hS0; (try dsimp only at hS0); obtain ⟨kT, kQ, kR, kB⟩ := hS0; obtain ⟨c0, c1⟩ := kT.c2; obtain ⟨q0, q1⟩ := kQ.c2; have y1 := kT.lt; have y2 := kQ.lt;go_simp; (try with_reducible rfl)
 (try simp only [cq])
 refine wpAnyH_ready (rs := [3]) (by kernel_rfl) (by simp) ?_
 refine arc1 (some 35) fun K hK => ?_
 go_simp
 (refine (HC0.out _ hH.2.2.2).mono ?_; rintro e w' ⟨k0, hk0, rfl, hb⟩)
 refine hK.out _ _ ?_ ?_
 · (exact ⟨hH.1.call hb, hH.2.1.call hb, hH.2.2.1.call hb, bwS hH.2.2.2 (Nat.le_refl _) hb⟩)
 (try clear hH); (try clear hb)
 intro hH
 clear hK K
 (try simp only [cq])
 refine tkY 4 (some 36) ?_ ?_ ?_
 rotate_left
 · intro w _; go_simp; (try with_reducible rfl)
 (try simp only [cq])
 refine wpAnyH_ready (rs := [8]) (by kernel_rfl) (by simp) ?_
 refine arc1 (some 40) fun K hK => ?_
 go_simp
 (refine (HC1.out _ hH.2.2.2).mono ?_; rintro e w' ⟨k1, hk1, rfl, hb⟩)
 refine hK.out _ _ ?_ ?_
 · (exact ⟨hH.1.call hb, hH.2.1.call hb, hH.2.2.1.call hb, bwS hH.2.2.2 (Nat.le_refl _) hb⟩)
 (try clear hH); (try clear hb)
 intro hH
 clear hK K
 (try simp only [cq])
 refine tkY 9 (some 41) ?_ ?_ ?_
 rotate_left
 · intro w _; go_simp; (try with_reducible rfl)
 (try simp only [cq])
 refine tkY 10 (some 42) ?_ ?_ ?_
 rotate_left
 · intro w _; go_simp; (try with_reducible rfl)
 (try simp only [cq])
 refine wpAnyH_ready (rs := [11]) (by kernel_rfl) (by simp) ?_
 refine arc1 none fun K hK => ?_
 obtain ⟨kT, kQ, ⟨x0, x1, kR⟩, kB⟩ := hH
 obtain ⟨r0, r1⟩ := kR.c2
 have f0 := kR.free 0
 have f1 := kR.free 1
 have zR := kR.lt
 have KT := Lib.hid ((kT.other ⟨w.heap.size + 1 + 1, 0, none⟩ (.int .i64 (ctLo H L d0 k0)) (by show _ ≠ w.heap.size + 1 + 1; omega)).other ⟨w.heap.size + 1 + 1, 1, none⟩ (.int .i64 (ctHi H L d1 k1)) (by show _ ≠ w.heap.size + 1 + 1; omega))
 have KQ := Lib.hid ((kQ.other ⟨w.heap.size + 1 + 1, 0, none⟩ (.int .i64 (ctLo H L d0 k0)) (by show _ ≠ w.heap.size + 1 + 1; omega)).other ⟨w.heap.size + 1 + 1, 1, none⟩ (.int .i64 (ctHi H L d1 k1)) (by show _ ≠ w.heap.size + 1 + 1; omega))
 have KR := Lib.hid ((kR.set 0 (.int .i64 (ctLo H L d0 k0))).set 1 (.int .i64 (ctHi H L d1 k1)))
 have KB := Lib.hid (below_set2 (c := w.heap.size + 1 + 1) (j := 0) (k := 1) kB (by omega) (.int .i64 (ctLo H L d0 k0)) (.int .i64 (ctHi H L d1 k1)))
 go_simp
 refine hK.out _ _ ?_ ?_
 · exact ⟨KT.out, KQ.out, ⟨_, _, KR.out⟩, KB.out⟩
 (try clear hH); (try clear hb)
 intro hH
 clear hK K
 (try simp only [cq])
 refine tkY 12 (some 5) ?_ ?_ ?_
 rotate_left
 · intro w _; go_simp; (try with_reducible rfl)
 (try simp only [cq])
 refine wpAnyH_done (by kernel_rfl) ?_ _
 (try dsimp only [Act.put])
 (try simp only [cq])
 obtain ⟨z0, z1⟩ := KR.out.c2
 go_wp2
 exact bodyPost_ret (v := .tuple #[.agg #[.int .i64 (ctLo H L d0 k0), .int .i64 (ctHi H L d1 k1)], .int .i64 0]) (by simp [results, Try.results19, go_sem, z0, z1]) rfl ⟨k0, k1, hk0, hk1, rfl, KB.out⟩ )
end Go.Proofs.Ytpeogfcfiabcfaa
