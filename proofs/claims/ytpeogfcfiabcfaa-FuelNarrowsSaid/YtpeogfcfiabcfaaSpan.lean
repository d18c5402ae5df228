/-
  The kit's Span and Part.
-/
import Derived.Test.YtpeogfcfiabcfaaTail
import Derived.Test.YtpeogfcfiabcfaaOf
set_option linter.unusedVariables false
set_option linter.unusedSimpArgs false
namespace Go.Proofs.Ytpeogfcfiabcfaa
open Go.RowKit

theorem Drawn.set {bs : Nat} {w v : World} (h : Drawn bs w v) {p : Addr} (hp : w.heap.size ≤ p.block) (hb : bs < w.heap.size) (u : Value) : Drawn bs w (v.setCell p u) :=
  ⟨Exists.elim h.1 (fun v q => ⟨v, q.other p u (by omega)⟩), h.2.os, h.2.tape, h.2.output, by simpa using h.2.size, fun k hk hn => (Below.heap_setCell v p u k (by omega)).trans (h.2.block k hk hn)⟩
theorem Drawn.new {bs : Nat} {w v : World} (h : Drawn bs w v) (o : Obj) : Drawn bs w (v.alloc o) := h.trans (Drawn.alloc h.seed o)

set_option maxRecDepth 100000 in
set_option maxHeartbeats 2000000 in
theorem kspan_in (lo hi : Int) (bs : Nat) (w : World) (hs : SeedAt bs w) (h1 : -1000000000 ≤ lo) (h2 : hi ≤ 1000000000) (h3 : lo ≤ hi) :
    Calls Try.prog 17 #[.pointer (some ⟨bs, 0, none⟩), .int .i64 lo, .int .i64 hi] w fun e w' => ∃ x y, e = .returned (.agg #[.int .i64 x, .int .i64 y]) ∧ lo ≤ x ∧ x ≤ y ∧ y ≤ hi ∧ Drawn bs w w' := by
  have hbs : bs < w.heap.size := hs.choose_spec.lt
  have hA := Drawn.alloc hs (.cells #[.int .i64 0, .int .i64 0] 26)
  have HF := Lib.hid (from_in lo hi bs _ hA.seed (by omega) (by omega) (by omega) (by omega))
  have jR := Blk.new w #[.int .i64 0, .int .i64 0] 26
  go_enter Try.func17, Try.ntmps17
  go_wp2_with fail
  refine HF.out.mono ?_
  rintro e w1 ⟨v, rfl, v0, v1, hd⟩
  have v2 : v ≤ hi := by omega
  clear v1
  replace jR := hd.blk jR (by omega)
  replace hA := hA.trans hd
  have z1 := jR.lt
  have jX := Blk.new w1 #[.int .i64 v, .int .i64 v] 26
  replace hA := hA.new (.cells #[.int .i64 v, .int .i64 v] 26)
  replace jR := jR.alloc (.cells #[.int .i64 v, .int .i64 v] 26)
  have HB := Lib.hid (below_in 3 bs _ hA.seed (by omega))
  clear hd HF
  go_wp2_with fail
  refine HB.out.mono ?_
  rintro e w2 ⟨t, rfl, t0, t1, hd⟩
  have t2 : t < 3 := by omega
  clear t1 HB
  replace jR := hd.blk jR (by omega)
  replace jX := hd.blk jX (by omega)
  replace hA := hA.trans hd
  clear hd
  obtain ⟨x0, x1⟩ := jX.c2
  obtain ⟨r0, r1⟩ := jR.c2
  have fx0 := jX.free 0
  have fx1 := jX.free 1
  have fr0 := jR.free 0
  have fr1 := jR.free 1
  have zX := jX.lt
  have zR := jR.lt
  by_cases c0 : t = 0
  · subst c0
    go_wp2_with fail
    refine (from_in v (min hi (v + 1 + (hi - lo) / 10)) bs w2 hA.seed (by omega) (by omega) (by omega) (by omega)).mono ?_
    rintro e w3 ⟨y, rfl, y0, y1, hd⟩
    have y2 : y ≤ hi := by omega
    replace jR := hd.blk jR (by omega)
    replace jX := hd.blk jX (by omega)
    replace hA := hA.trans hd
    clear hd y1
    have kX := jX.set 1 (.int .i64 y)
    have kR := jR.other ⟨w1.heap.size, 1, none⟩ (.int .i64 y) (by simp; omega)
    have kA := hA.set (p := ⟨w1.heap.size, 1, none⟩) (by simp; omega) hbs (.int .i64 y)
    have HQ := Lib.hid ((kR.set 0 (.int .i64 v)).set 1 (.int .i64 y)).c2
    have HD := Lib.hid ((kA.set (p := ⟨w.heap.size, 0, none⟩) (Nat.le_refl _) hbs (.int .i64 v)).set (p := ⟨w.heap.size, 1, none⟩) (Nat.le_refl _) hbs (.int .i64 y))
    obtain ⟨a0, a1⟩ := jX.c2
    obtain ⟨b0, b1⟩ := jR.c2
    have ga0 := jX.free 0
    have ga1 := jX.free 1
    have gb0 := jR.free 0
    have gb1 := jR.free 1
    clear kX kR kA x0 x1 r0 r1 fx0 fx1 fr0 fr1
    go_wp2
    obtain ⟨z0, z1⟩ := HQ.out
    exact bodyPost_ret (v := .agg #[.int .i64 v, .int .i64 y]) (by simp [results, Try.results17, go_sem, z0, z1]) rfl ⟨v, y, rfl, v0, y0, y2, HD.out⟩
  by_cases c1 : t = 1
  · subst c1
    go_wp2_with fail
    refine (from_in v hi bs w2 hA.seed (by omega) (by omega) (by omega) (by omega)).mono ?_
    rintro e w3 ⟨y, rfl, y0, y1, hd⟩
    have y2 : y ≤ hi := by omega
    replace jR := hd.blk jR (by omega)
    replace jX := hd.blk jX (by omega)
    replace hA := hA.trans hd
    clear hd y1
    have kX := jX.set 1 (.int .i64 y)
    have kR := jR.other ⟨w1.heap.size, 1, none⟩ (.int .i64 y) (by simp; omega)
    have kA := hA.set (p := ⟨w1.heap.size, 1, none⟩) (by simp; omega) hbs (.int .i64 y)
    have HQ := Lib.hid ((kR.set 0 (.int .i64 v)).set 1 (.int .i64 y)).c2
    have HD := Lib.hid ((kA.set (p := ⟨w.heap.size, 0, none⟩) (Nat.le_refl _) hbs (.int .i64 v)).set (p := ⟨w.heap.size, 1, none⟩) (Nat.le_refl _) hbs (.int .i64 y))
    obtain ⟨a0, a1⟩ := jX.c2
    obtain ⟨b0, b1⟩ := jR.c2
    have ga0 := jX.free 0
    have ga1 := jX.free 1
    have gb0 := jR.free 0
    have gb1 := jR.free 1
    clear kX kR kA x0 x1 r0 r1 fx0 fx1 fr0 fr1
    go_wp2
    obtain ⟨z0, z1⟩ := HQ.out
    exact bodyPost_ret (v := .agg #[.int .i64 v, .int .i64 y]) (by simp [results, Try.results17, go_sem, z0, z1]) rfl ⟨v, y, rfl, v0, y0, y2, HD.out⟩
  have e0 : (t == 0) = false := by simpa using c0
  have e1 : (t == 1) = false := by simpa using c1
  have HQ := Lib.hid ((jR.set 0 (.int .i64 v)).set 1 (.int .i64 v)).c2
  go_wp2
  obtain ⟨z0, z1⟩ := HQ.out
  refine bodyPost_ret (v := .agg #[.int .i64 v, .int .i64 v]) (by simp [results, Try.results17, go_sem, z0, z1]) rfl ⟨v, v, rfl, v0, by omega, v2, ?_⟩
  exact (hA.set (p := ⟨w.heap.size, 0, none⟩) (Nat.le_refl _) hbs _).set (p := ⟨w.heap.size, 1, none⟩) (Nat.le_refl _) hbs _

set_option maxRecDepth 100000 in
set_option maxHeartbeats 2000000 in
theorem kpart_in (lo hi : Int) (bs : Nat) (w : World) (hs : SeedAt bs w) (h1 : -1000000000000 ≤ lo) (h2 : hi ≤ 1000000000000) (h3 : lo ≤ hi) :
    Calls Try.prog 63 #[.pointer (some ⟨bs, 0, none⟩), .agg #[.int .i64 lo, .int .i64 hi]] w fun e w' => ∃ x y, e = .returned (.agg #[.int .i64 x, .int .i64 y]) ∧ lo ≤ x ∧ x ≤ y ∧ y ≤ hi ∧ Drawn bs w w' := by
  have hbs : bs < w.heap.size := hs.choose_spec.lt
  have HI : Hid (∀ W, SeedAt bs W → Calls Try.prog 62 #[.pointer (some ⟨bs, 0, none⟩), .agg #[.int .i64 lo, .int .i64 hi]] W fun e w' => ∃ v, e = .returned (.int .i64 v) ∧ lo ≤ v ∧ v ≤ hi ∧ Drawn bs W w') := fun W hW => inside_in lo hi bs W hW h1 h2 h3
  have hA0 := (Drawn.alloc hs (.cells #[.int .i64 lo, .int .i64 hi] 26)).new (.cells #[.int .i64 0, .int .i64 0] 26)
  have hX0 := (Blk.new w #[.int .i64 lo, .int .i64 hi] 26).alloc (.cells #[.int .i64 0, .int .i64 0] 26)
  have hR0 := Blk.new1 w (.cells #[.int .i64 lo, .int .i64 hi] 26) #[.int .i64 0, .int .i64 0] 26
  go_enter Try.func63, Try.ntmps63
  go_wp2_with fail
  (
 refine wp_region_held_drew (S := (fun w' => Drawn bs w w' ∧ Blk w' w.heap.size #[.int .i64 lo, .int .i64 hi] 26 ∧ Blk w' (w.heap.size + 1) #[.int .i64 0, .int .i64 0] 26)) (by kernel_rfl) ?_ (fun hH => ?_)
 · (try dsimp only); (exact ⟨hA0.trans (Drawn.drew hA0.seed), hX0, hR0⟩)
 refine tkY 0 (some 7) ?_ ?_ ?_
 rotate_left
 · intro w _; go_simp; (try with_reducible rfl)
 (try simp only [cq])
 refine tkY 1 (some 8) ?_ ?_ ?_
 rotate_left
 · intro w hS0; (try dsimp only at hS0); obtain ⟨_, kS, _⟩ := hS0; obtain ⟨c0, c1⟩ := kS.c2;go_simp; (try with_reducible rfl)
 (try simp only [cq])
 refine tkY 3 (some 10) ?_ ?_ ?_
 rotate_left
 · intro w _; go_simp; (try with_reducible rfl)
 (try simp only [cq])
 refine tkY 4 (some 11) ?_ ?_ ?_
 rotate_left
 · intro w hS0; (try dsimp only at hS0); obtain ⟨_, kS, _⟩ := hS0; obtain ⟨c0, c1⟩ := kS.c2;go_simp; (try with_reducible rfl)
 (try simp only [cq])
 refine wpAnyH_ready (rs := [2]) (by kernel_rfl) (by simp) ?_
 refine arc1 (some 9) fun K hK => ?_
 go_simp
 (refine (HI.out _ hH.1.seed).mono ?_; rintro e w' ⟨va, rfl, a0, a1, hd⟩)
 refine hK.out _ _ ?_ (fun hH => ?_)
 · (exact ⟨hH.1.trans hd, hd.blk hH.2.1 (by omega), hd.blk hH.2.2 (by omega)⟩)
 clear hK K
 (try simp only [cq])
 refine wpAnyH_ready (rs := [5]) (by kernel_rfl) (by simp) ?_
 refine arc1 (some 12) fun K hK => ?_
 go_simp
 (refine (HI.out _ hH.1.seed).mono ?_; rintro e w' ⟨vb, rfl, b0, b1, hd⟩)
 refine hK.out _ _ ?_ (fun hH => ?_)
 · (exact ⟨hH.1.trans hd, hd.blk hH.2.1 (by omega), hd.blk hH.2.2 (by omega)⟩)
 clear hK K
 (try simp only [cq])
 refine tkY 6 (some 5) ?_ ?_ ?_
 rotate_left
 · intro w _; go_simp; (try with_reducible rfl)
 (try simp only [cq])
 refine tkY 7 (some 6) ?_ ?_ ?_
 rotate_left
 · intro w _; go_simp; (try with_reducible rfl)
 (try simp only [cq])
 refine wpAnyH_done (by kernel_rfl) ?_ _
 (try dsimp only [Act.put])
 (try simp only [cq])
 obtain ⟨hD, _, hR⟩ := hH
 obtain ⟨r0, r1⟩ := hR.c2
 have fr0 := hR.free 0
 have fr1 := hR.free 1
 have zR := hR.lt
 have HS := Lib.hid ((hR.set 0 (.int .i64 (min va vb))).set 1 (.int .i64 (max va vb))).c2
 have HD := Lib.hid ((hD.set (p := ⟨w.heap.size + 1, 0, none⟩) (by simp) hbs (.int .i64 (min va vb))).set (p := ⟨w.heap.size + 1, 1, none⟩) (by simp) hbs (.int .i64 (max va vb)))
 clear hA0 hX0 hR0
 go_wp2
 obtain ⟨z0, z1⟩ := HS.out
 exact bodyPost_ret (v := .agg #[.int .i64 (min va vb), .int .i64 (max va vb)]) (by simp [results, Try.results63, go_sem, z0, z1]) rfl ⟨_, _, rfl, by omega, by omega, by omega, HD.out⟩ )
end Go.Proofs.Ytpeogfcfiabcfaa
