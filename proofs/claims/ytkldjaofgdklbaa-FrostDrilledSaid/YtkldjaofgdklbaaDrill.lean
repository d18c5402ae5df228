/-
  FrostDrilled says yes: a core narrows what is known, leaves all true ice that is within both, and may be taken twice, in any order.
-/
import Derived.Test.YtkldjaofgdklbaaTail
import Derived.Test.YtkldjaofgdklbaaVal
import Derived.Test.YtkldjaofgdklbaaAwake
import Derived.IntWalk
import Derived.Test.YtkldjaofgdklbaaShare
set_option linter.unusedVariables false
set_option linter.unusedSimpArgs false
namespace Go.Proofs.Ytkldjaofgdklbaa
open Go.RowKit

theorem drill_c (tb tw tq ts n1 n2 n3 n4 n5 n6 n7 n8 : Int) (t0 : 0 ≤ tb) (t1 : tb ≤ 1200) (t2 : 0 ≤ tw) (t3 : tw ≤ 200) (t4 : 0 ≤ tq) (t5 : tq ≤ 60) (t6 : 0 ≤ ts) (t7 : ts ≤ 400) (h0a : 0 ≤ n1) (h0b : n1 < 20) (h1a : 0 ≤ n2) (h1b : n2 < 20) (h2a : 0 ≤ n3) (h2b : n3 < 9) (h3a : 0 ≤ n4) (h3b : n4 < 9) (h4a : 0 ≤ n5) (h4b : n5 < 3) (h5a : 0 ≤ n6) (h5b : n6 < 3) (h6a : 0 ≤ n7) (h6b : n7 < 40) (h7a : 0 ≤ n8) (h7b : n8 < 40) :
    Ic.Val ⟨max 0 (tb - n1), tb + n2, max 0 (tw - n3), tw + n4, max 0 (tq - n5), tq + n6, max 0 (ts - n7), ts + n8⟩ ∧ TrIn tb tw tq ts ⟨max 0 (tb - n1), tb + n2, max 0 (tw - n3), tw + n4, max 0 (tq - n5), tq + n6, max 0 (ts - n7), ts + n8⟩ := by
  refine ⟨⟨by simp only; omega, by simp only; omega, by simp only; omega, by simp only; omega⟩, by constructor <;> simp only <;> omega⟩

set_option maxRecDepth 100000 in
set_option maxHeartbeats 16000000 in
theorem drilled_any (a : Option Addr) (n cap : Nat) (w : World) (hn : NumsAt w a n) :
    Calls Try.prog 10 #[.slice a n cap] w fun e w' => e = .returned (.bool true) ∧ Below w.heap.size w w' := by
  go_enter Try.func10, Try.ntmps10
  go_wp2_with fail
  refine (newseed_at a n cap _ hn).mono ?_
  rintro e w1 ⟨rfl, hS, hB⟩
  clear hn
  obtain ⟨bs, hbs⟩ : ∃ b, w.heap.size = b := ⟨_, rfl⟩
  rw [hbs] at hS ⊢
  have hle : w.heap.size ≤ bs := by omega
  have HB := Lib.hid (And.intro hbs hB)
  clear hbs hB
  have hb1 : bs < w1.heap.size := hS.choose_spec.lt
  go_wp2_with fail
  refine (iceof_in bs w1 hS).mono ?_
  rintro e w2 ⟨x, rfl, hx, hA⟩
  have zX := hA.2.size
  have jX := Blk.new w2 #[.int .i64 x.b0, .int .i64 x.b1, .int .i64 x.w0, .int .i64 x.w1, .int .i64 x.q0, .int .i64 x.q1, .int .i64 x.s0, .int .i64 x.s1] 28
  replace hA := hA.new (.cells #[.int .i64 x.b0, .int .i64 x.b1, .int .i64 x.w0, .int .i64 x.w1, .int .i64 x.q0, .int .i64 x.q1, .int .i64 x.s0, .int .i64 x.s1] 28)
  obtain ⟨x0, x1, x2, x3, x4, x5, x6, x7⟩ := jX.c8
  clear hS
  go_wp2_with fail
  refine (trueice_in x bs _ hA.seed hx).mono ?_
  rintro e w3 ⟨tb, tw, tq, ts, rfl, hT, hd⟩
  clear x0 x1 x2 x3 x4 x5 x6 x7
  replace jX := hd.blk jX (by omega)
  have zT := jX.lt
  replace hA := hA.trans hd
  clear hd
  have jT := Blk.new w3 #[.int .i64 tb, .int .i64 tw, .int .i64 tq, .int .i64 ts] 57
  replace jX := jX.alloc (.cells #[.int .i64 tb, .int .i64 tw, .int .i64 tq, .int .i64 ts] 57)
  replace hA := hA.new (.cells #[.int .i64 tb, .int .i64 tw, .int .i64 tq, .int .i64 ts] 57)
  obtain ⟨bX, hbX⟩ : ∃ b, w2.heap.size = b := ⟨_, rfl⟩
  obtain ⟨bT, hbT⟩ : ∃ b, w3.heap.size = b := ⟨_, rfl⟩
  go_upto_region 4 with fail
  generalize w3.alloc (.cells #[.int .i64 tb, .int .i64 tw, .int .i64 tq, .int .i64 ts] 57) = V at hA jX jT ⊢
  rw [hbX] at zX zT jX
  rw [hbT] at zT jT
  clear hbX hbT
  go_cut [6] (fun s6 wx => ∃ (c : Ic) (bc : Nat), s6 = .pointer (some ⟨bc, 0, none⟩) ∧ bT < bc ∧ Blk wx bc #[.int .i64 c.b0, .int .i64 c.b1, .int .i64 c.w0, .int .i64 c.w1, .int .i64 c.q0, .int .i64 c.q1, .int .i64 c.s0, .int .i64 c.s1] 28 ∧ Blk wx bX #[.int .i64 x.b0, .int .i64 x.b1, .int .i64 x.w0, .int .i64 x.w1, .int .i64 x.q0, .int .i64 x.q1, .int .i64 x.s0, .int .i64 x.s1] 28 ∧ Blk wx bT #[.int .i64 tb, .int .i64 tw, .int .i64 tq, .int .i64 ts] 57 ∧ Drawn bs w1 wx ∧ c.Val ∧ TrIn tb tw tq ts c)
  case first =>
    have t0 := hT.b0
    have t1 := hT.b1
    have t2 := hT.w0
    have t3 := hT.w1
    have t4 := hT.q0
    have t5 := hT.q1
    have t6 := hT.s0
    have t7 := hT.s1
    obtain ⟨⟨hx0, _, hx1⟩, ⟨hx2, _, hx3⟩, ⟨hx4, _, hx5⟩, ⟨hx6, _, hx7⟩⟩ := hx
    replace t0 : 0 ≤ tb := by omega
    replace t1 : tb ≤ 1200 := by omega
    replace t2 : 0 ≤ tw := by omega
    replace t3 : tw ≤ 200 := by omega
    replace t4 : 0 ≤ tq := by omega
    replace t5 : tq ≤ 60 := by omega
    replace t6 : 0 ≤ ts := by omega
    replace t7 : ts ≤ 400 := by omega
    clear hT hx0 hx1 hx2 hx3 hx4 hx5 hx6 hx7
    (
 let S9 : World → Prop := (fun w' => Drawn bs w1 w' ∧ Blk w' bX #[.int .i64 x.b0, .int .i64 x.b1, .int .i64 x.w0, .int .i64 x.w1, .int .i64 x.q0, .int .i64 x.q1, .int .i64 x.s0, .int .i64 x.s1] 28 ∧ Blk w' bT #[.int .i64 tb, .int .i64 tw, .int .i64 tq, .int .i64 ts] 57)
 refine wp_region_held_drew (S := S9) (by kernel_rfl) ?_ (fun hH => ?_)
 · (try dsimp only); (exact ⟨hA.trans (Drawn.drew hA.seed), jX.drew, jT.drew⟩)
 apply share8 (fun (n1 n2 n3 n4 n5 n6 n7 n8 : Int) (bA : Nat) (W : World) => (0 ≤ n1) ∧ (n1 < 20) ∧ (IntKind.i64.wrap (tb - n1) = tb - n1) ∧ (0 ≤ n2) ∧ (n2 < 20) ∧ (IntKind.i64.wrap (tb + n2) = tb + n2) ∧ (0 ≤ n3) ∧ (n3 < 9) ∧ (IntKind.i64.wrap (tw - n3) = tw - n3) ∧ (0 ≤ n4) ∧ (n4 < 9) ∧ (IntKind.i64.wrap (tw + n4) = tw + n4) ∧ (0 ≤ n5) ∧ (n5 < 3) ∧ (IntKind.i64.wrap (tq - n5) = tq - n5) ∧ (0 ≤ n6) ∧ (n6 < 3) ∧ (IntKind.i64.wrap (tq + n6) = tq + n6) ∧ (0 ≤ n7) ∧ (n7 < 40) ∧ (IntKind.i64.wrap (ts - n7) = ts - n7) ∧ (0 ≤ n8) ∧ (n8 < 40) ∧ (IntKind.i64.wrap (ts + n8) = ts + n8) ∧ S9 W ∧ Blk W bA #[.int .i64 0, .int .i64 0, .int .i64 0, .int .i64 0, .int .i64 0, .int .i64 0, .int .i64 0, .int .i64 0] 28 ∧ (w1.heap.size ≤ bA) ∧ (bT < bA) ∧ (bX < bA))
 {
 intro X12
 apply share8 (fun (n1 n2 n3 n4 n5 n6 n7 n8 : Int) (bA : Nat) (W : World) => (0 ≤ n1) ∧ (n1 < 20) ∧ (IntKind.i64.wrap (tb - n1) = tb - n1) ∧ (0 ≤ n2) ∧ (n2 < 20) ∧ (IntKind.i64.wrap (tb + n2) = tb + n2) ∧ (0 ≤ n3) ∧ (n3 < 9) ∧ (IntKind.i64.wrap (tw - n3) = tw - n3) ∧ (0 ≤ n4) ∧ (n4 < 9) ∧ (IntKind.i64.wrap (tw + n4) = tw + n4) ∧ (0 ≤ n5) ∧ (n5 < 3) ∧ (IntKind.i64.wrap (tq - n5) = tq - n5) ∧ (0 ≤ n6) ∧ (n6 < 3) ∧ (IntKind.i64.wrap (tq + n6) = tq + n6) ∧ (0 ≤ n7) ∧ (n7 < 40) ∧ (IntKind.i64.wrap (ts - n7) = ts - n7) ∧ (0 ≤ n8) ∧ (n8 < 40) ∧ (IntKind.i64.wrap (ts + n8) = ts + n8) ∧ S9 W ∧ Blk W bA #[.int .i64 0, .int .i64 0, .int .i64 0, .int .i64 0, .int .i64 0, .int .i64 0, .int .i64 0, .int .i64 0] 28 ∧ (w1.heap.size ≤ bA) ∧ (bT < bA) ∧ (bX < bA))
 {
 intro X11
 apply share7 (fun (n1 n2 n3 n4 n5 n6 n7 : Int) (bA : Nat) (W : World) => (0 ≤ n1) ∧ (n1 < 20) ∧ (IntKind.i64.wrap (tb - n1) = tb - n1) ∧ (0 ≤ n2) ∧ (n2 < 20) ∧ (IntKind.i64.wrap (tb + n2) = tb + n2) ∧ (0 ≤ n3) ∧ (n3 < 9) ∧ (IntKind.i64.wrap (tw - n3) = tw - n3) ∧ (0 ≤ n4) ∧ (n4 < 9) ∧ (IntKind.i64.wrap (tw + n4) = tw + n4) ∧ (0 ≤ n5) ∧ (n5 < 3) ∧ (IntKind.i64.wrap (tq - n5) = tq - n5) ∧ (0 ≤ n6) ∧ (n6 < 3) ∧ (IntKind.i64.wrap (tq + n6) = tq + n6) ∧ (0 ≤ n7) ∧ (n7 < 40) ∧ (IntKind.i64.wrap (ts - n7) = ts - n7) ∧ S9 W ∧ Blk W bA #[.int .i64 0, .int .i64 0, .int .i64 0, .int .i64 0, .int .i64 0, .int .i64 0, .int .i64 0, .int .i64 0] 28 ∧ (w1.heap.size ≤ bA) ∧ (bT < bA) ∧ (bX < bA))
 {
 intro X10
 apply share6 (fun (n1 n2 n3 n4 n5 n6 : Int) (bA : Nat) (W : World) => (0 ≤ n1) ∧ (n1 < 20) ∧ (IntKind.i64.wrap (tb - n1) = tb - n1) ∧ (0 ≤ n2) ∧ (n2 < 20) ∧ (IntKind.i64.wrap (tb + n2) = tb + n2) ∧ (0 ≤ n3) ∧ (n3 < 9) ∧ (IntKind.i64.wrap (tw - n3) = tw - n3) ∧ (0 ≤ n4) ∧ (n4 < 9) ∧ (IntKind.i64.wrap (tw + n4) = tw + n4) ∧ (0 ≤ n5) ∧ (n5 < 3) ∧ (IntKind.i64.wrap (tq - n5) = tq - n5) ∧ (0 ≤ n6) ∧ (n6 < 3) ∧ (IntKind.i64.wrap (tq + n6) = tq + n6) ∧ S9 W ∧ Blk W bA #[.int .i64 0, .int .i64 0, .int .i64 0, .int .i64 0, .int .i64 0, .int .i64 0, .int .i64 0, .int .i64 0] 28 ∧ (w1.heap.size ≤ bA) ∧ (bT < bA) ∧ (bX < bA))
 {
 intro X9
 apply share6 (fun (n1 n2 n3 n4 n5 n6 : Int) (bA : Nat) (W : World) => (0 ≤ n1) ∧ (n1 < 20) ∧ (IntKind.i64.wrap (tb - n1) = tb - n1) ∧ (0 ≤ n2) ∧ (n2 < 20) ∧ (IntKind.i64.wrap (tb + n2) = tb + n2) ∧ (0 ≤ n3) ∧ (n3 < 9) ∧ (IntKind.i64.wrap (tw - n3) = tw - n3) ∧ (0 ≤ n4) ∧ (n4 < 9) ∧ (IntKind.i64.wrap (tw + n4) = tw + n4) ∧ (0 ≤ n5) ∧ (n5 < 3) ∧ (IntKind.i64.wrap (tq - n5) = tq - n5) ∧ (0 ≤ n6) ∧ (n6 < 3) ∧ (IntKind.i64.wrap (tq + n6) = tq + n6) ∧ S9 W ∧ Blk W bA #[.int .i64 0, .int .i64 0, .int .i64 0, .int .i64 0, .int .i64 0, .int .i64 0, .int .i64 0, .int .i64 0] 28 ∧ (w1.heap.size ≤ bA) ∧ (bT < bA) ∧ (bX < bA))
 {
 intro X8
 apply share5 (fun (n1 n2 n3 n4 n5 : Int) (bA : Nat) (W : World) => (0 ≤ n1) ∧ (n1 < 20) ∧ (IntKind.i64.wrap (tb - n1) = tb - n1) ∧ (0 ≤ n2) ∧ (n2 < 20) ∧ (IntKind.i64.wrap (tb + n2) = tb + n2) ∧ (0 ≤ n3) ∧ (n3 < 9) ∧ (IntKind.i64.wrap (tw - n3) = tw - n3) ∧ (0 ≤ n4) ∧ (n4 < 9) ∧ (IntKind.i64.wrap (tw + n4) = tw + n4) ∧ (0 ≤ n5) ∧ (n5 < 3) ∧ (IntKind.i64.wrap (tq - n5) = tq - n5) ∧ S9 W ∧ Blk W bA #[.int .i64 0, .int .i64 0, .int .i64 0, .int .i64 0, .int .i64 0, .int .i64 0, .int .i64 0, .int .i64 0] 28 ∧ (w1.heap.size ≤ bA) ∧ (bT < bA) ∧ (bX < bA))
 {
 intro X7
 apply share4 (fun (n1 n2 n3 n4 : Int) (bA : Nat) (W : World) => (0 ≤ n1) ∧ (n1 < 20) ∧ (IntKind.i64.wrap (tb - n1) = tb - n1) ∧ (0 ≤ n2) ∧ (n2 < 20) ∧ (IntKind.i64.wrap (tb + n2) = tb + n2) ∧ (0 ≤ n3) ∧ (n3 < 9) ∧ (IntKind.i64.wrap (tw - n3) = tw - n3) ∧ (0 ≤ n4) ∧ (n4 < 9) ∧ (IntKind.i64.wrap (tw + n4) = tw + n4) ∧ S9 W ∧ Blk W bA #[.int .i64 0, .int .i64 0, .int .i64 0, .int .i64 0, .int .i64 0, .int .i64 0, .int .i64 0, .int .i64 0] 28 ∧ (w1.heap.size ≤ bA) ∧ (bT < bA) ∧ (bX < bA))
 {
 intro X6
 apply share4 (fun (n1 n2 n3 n4 : Int) (bA : Nat) (W : World) => (0 ≤ n1) ∧ (n1 < 20) ∧ (IntKind.i64.wrap (tb - n1) = tb - n1) ∧ (0 ≤ n2) ∧ (n2 < 20) ∧ (IntKind.i64.wrap (tb + n2) = tb + n2) ∧ (0 ≤ n3) ∧ (n3 < 9) ∧ (IntKind.i64.wrap (tw - n3) = tw - n3) ∧ (0 ≤ n4) ∧ (n4 < 9) ∧ (IntKind.i64.wrap (tw + n4) = tw + n4) ∧ S9 W ∧ Blk W bA #[.int .i64 0, .int .i64 0, .int .i64 0, .int .i64 0, .int .i64 0, .int .i64 0, .int .i64 0, .int .i64 0] 28 ∧ (w1.heap.size ≤ bA) ∧ (bT < bA) ∧ (bX < bA))
 {
 intro X5
 apply share3 (fun (n1 n2 n3 : Int) (bA : Nat) (W : World) => (0 ≤ n1) ∧ (n1 < 20) ∧ (IntKind.i64.wrap (tb - n1) = tb - n1) ∧ (0 ≤ n2) ∧ (n2 < 20) ∧ (IntKind.i64.wrap (tb + n2) = tb + n2) ∧ (0 ≤ n3) ∧ (n3 < 9) ∧ (IntKind.i64.wrap (tw - n3) = tw - n3) ∧ S9 W ∧ Blk W bA #[.int .i64 0, .int .i64 0, .int .i64 0, .int .i64 0, .int .i64 0, .int .i64 0, .int .i64 0, .int .i64 0] 28 ∧ (w1.heap.size ≤ bA) ∧ (bT < bA) ∧ (bX < bA))
 {
 intro X4
 apply share2 (fun (n1 n2 : Int) (bA : Nat) (W : World) => (0 ≤ n1) ∧ (n1 < 20) ∧ (IntKind.i64.wrap (tb - n1) = tb - n1) ∧ (0 ≤ n2) ∧ (n2 < 20) ∧ (IntKind.i64.wrap (tb + n2) = tb + n2) ∧ S9 W ∧ Blk W bA #[.int .i64 0, .int .i64 0, .int .i64 0, .int .i64 0, .int .i64 0, .int .i64 0, .int .i64 0, .int .i64 0] 28 ∧ (w1.heap.size ≤ bA) ∧ (bT < bA) ∧ (bX < bA))
 {
 intro X3
 apply share2 (fun (n1 n2 : Int) (bA : Nat) (W : World) => (0 ≤ n1) ∧ (n1 < 20) ∧ (IntKind.i64.wrap (tb - n1) = tb - n1) ∧ (0 ≤ n2) ∧ (n2 < 20) ∧ (IntKind.i64.wrap (tb + n2) = tb + n2) ∧ S9 W ∧ Blk W bA #[.int .i64 0, .int .i64 0, .int .i64 0, .int .i64 0, .int .i64 0, .int .i64 0, .int .i64 0, .int .i64 0] 28 ∧ (w1.heap.size ≤ bA) ∧ (bT < bA) ∧ (bX < bA))
 {
 intro X2
 apply share1 (fun (n1 : Int) (bA : Nat) (W : World) => (0 ≤ n1) ∧ (n1 < 20) ∧ (IntKind.i64.wrap (tb - n1) = tb - n1) ∧ S9 W ∧ Blk W bA #[.int .i64 0, .int .i64 0, .int .i64 0, .int .i64 0, .int .i64 0, .int .i64 0, .int .i64 0, .int .i64 0] 28 ∧ (w1.heap.size ≤ bA) ∧ (bT < bA) ∧ (bX < bA))
 {
 intro X1
 apply share0 (fun (bA : Nat) (W : World) => S9 W ∧ Blk W bA #[.int .i64 0, .int .i64 0, .int .i64 0, .int .i64 0, .int .i64 0, .int .i64 0, .int .i64 0, .int .i64 0] 28 ∧ (w1.heap.size ≤ bA) ∧ (bT < bA) ∧ (bX < bA))
 {
 intro X0
 refine tkY 0 (some 20) ?_ ?_ ?_
 rotate_left
 · intro w hS0; (try dsimp only at hS0); obtain ⟨_, _, kT⟩ := hS0; obtain ⟨c0, c1, c2, c3⟩ := kT.c4;go_simp; (try with_reducible rfl)
 (try simp only [cq])
 refine tkY 1 (some 21) ?_ ?_ ?_
 rotate_left
 · intro w hS0; (try dsimp only at hS0); obtain ⟨_, _, kT⟩ := hS0; obtain ⟨c0, c1, c2, c3⟩ := kT.c4;go_simp; (try with_reducible rfl)
 (try simp only [cq])
 refine tkY 2 (some 22) ?_ ?_ ?_
 rotate_left
 · intro w _; go_simp; (try with_reducible rfl)
 (try simp only [cq])
 refine tkY 6 (some 26) ?_ ?_ ?_
 rotate_left
 · intro w hS0; (try dsimp only at hS0); obtain ⟨_, _, kT⟩ := hS0; obtain ⟨c0, c1, c2, c3⟩ := kT.c4;go_simp; (try with_reducible rfl)
 (try simp only [cq])
 refine tkY 7 (some 27) ?_ ?_ ?_
 rotate_left
 · intro w hS0; (try dsimp only at hS0); obtain ⟨_, _, kT⟩ := hS0; obtain ⟨c0, c1, c2, c3⟩ := kT.c4;go_simp; (try with_reducible rfl)
 (try simp only [cq])
 refine tkY 8 (some 28) ?_ ?_ ?_
 rotate_left
 · intro w _; go_simp; (try with_reducible rfl)
 (try simp only [cq])
 refine tkY 12 (some 32) ?_ ?_ ?_
 rotate_left
 · intro w hS0; (try dsimp only at hS0); obtain ⟨_, _, kT⟩ := hS0; obtain ⟨c0, c1, c2, c3⟩ := kT.c4;go_simp; (try with_reducible rfl)
 (try simp only [cq])
 refine tkY 13 (some 33) ?_ ?_ ?_
 rotate_left
 · intro w hS0; (try dsimp only at hS0); obtain ⟨_, _, kT⟩ := hS0; obtain ⟨c0, c1, c2, c3⟩ := kT.c4;go_simp; (try with_reducible rfl)
 (try simp only [cq])
 refine tkY 14 (some 34) ?_ ?_ ?_
 rotate_left
 · intro w _; go_simp; (try with_reducible rfl)
 (try simp only [cq])
 refine tkY 18 (some 38) ?_ ?_ ?_
 rotate_left
 · intro w hS0; (try dsimp only at hS0); obtain ⟨_, _, kT⟩ := hS0; obtain ⟨c0, c1, c2, c3⟩ := kT.c4;go_simp; (try with_reducible rfl)
 (try simp only [cq])
 refine tkY 19 (some 39) ?_ ?_ ?_
 rotate_left
 · intro w hS0; (try dsimp only at hS0); obtain ⟨_, _, kT⟩ := hS0; obtain ⟨c0, c1, c2, c3⟩ := kT.c4;go_simp; (try with_reducible rfl)
 (try simp only [cq])
 refine tkY 20 (some 40) ?_ ?_ ?_
 rotate_left
 · intro w _; go_simp; (try with_reducible rfl)
 (try simp only [cq])
 refine tkY 24 (some 44) ?_ ?_ ?_
 rotate_left
 · intro w hS0; (try dsimp only at hS0); obtain ⟨_, _, kT⟩ := hS0; obtain ⟨c0, c1, c2, c3⟩ := kT.c4;go_simp; (try with_reducible rfl)
 (try simp only [cq])
 refine tkY 25 (some 45) ?_ ?_ ?_
 rotate_left
 · intro w hS0; (try dsimp only at hS0); obtain ⟨_, _, kT⟩ := hS0; obtain ⟨c0, c1, c2, c3⟩ := kT.c4;go_simp; (try with_reducible rfl)
 (try simp only [cq])
 refine tkY 26 (some 46) ?_ ?_ ?_
 rotate_left
 · intro w _; go_simp; (try with_reducible rfl)
 (try simp only [cq])
 refine tkY 30 (some 50) ?_ ?_ ?_
 rotate_left
 · intro w hS0; (try dsimp only at hS0); obtain ⟨_, _, kT⟩ := hS0; obtain ⟨c0, c1, c2, c3⟩ := kT.c4;go_simp; (try with_reducible rfl)
 (try simp only [cq])
 refine tkY 31 (some 51) ?_ ?_ ?_
 rotate_left
 · intro w hS0; (try dsimp only at hS0); obtain ⟨_, _, kT⟩ := hS0; obtain ⟨c0, c1, c2, c3⟩ := kT.c4;go_simp; (try with_reducible rfl)
 (try simp only [cq])
 refine tkY 32 (some 52) ?_ ?_ ?_
 rotate_left
 · intro w _; go_simp; (try with_reducible rfl)
 (try simp only [cq])
 refine tkY 36 (some 56) ?_ ?_ ?_
 rotate_left
 · intro w hS0; (try dsimp only at hS0); obtain ⟨_, _, kT⟩ := hS0; obtain ⟨c0, c1, c2, c3⟩ := kT.c4;go_simp; (try with_reducible rfl)
 (try simp only [cq])
 refine tkY 37 (some 57) ?_ ?_ ?_
 rotate_left
 · intro w hS0; (try dsimp only at hS0); obtain ⟨_, _, kT⟩ := hS0; obtain ⟨c0, c1, c2, c3⟩ := kT.c4;go_simp; (try with_reducible rfl)
 (try simp only [cq])
 refine tkY 38 (some 58) ?_ ?_ ?_
 rotate_left
 · intro w _; go_simp; (try with_reducible rfl)
 (try simp only [cq])
 refine tkY 42 (some 62) ?_ ?_ ?_
 rotate_left
 · intro w hS0; (try dsimp only at hS0); obtain ⟨_, _, kT⟩ := hS0; obtain ⟨c0, c1, c2, c3⟩ := kT.c4;go_simp; (try with_reducible rfl)
 (try simp only [cq])
 refine tkY 43 (some 63) ?_ ?_ ?_
 rotate_left
 · intro w hS0; (try dsimp only at hS0); obtain ⟨_, _, kT⟩ := hS0; obtain ⟨c0, c1, c2, c3⟩ := kT.c4;go_simp; (try with_reducible rfl)
 (try simp only [cq])
 refine tkY 44 (some 64) ?_ ?_ ?_
 rotate_left
 · intro w _; go_simp; (try with_reducible rfl)
 (try simp only [cq])
 refine wpAnyH_ready (rs := [3, 49]) (by kernel_rfl) (by simp) ?_
 refine arc (some 23) (fun K hK => ?_) ?_
 {
 go_simp
 (refine (below_in 20 bs _ hH.1.seed (by decide)).mono ?_; rintro e w' ⟨n1, rfl, n1a, n1b, hd⟩; replace n1b : n1 < 20 := (by omega); have e0 : IntKind.i64.wrap (tb - n1) = tb - n1 := IntWalk.i64_in _ (by omega); (try replace hA := hd.blk hA (by omega)))
 refine hK.out _ _ ?_ ?_
 · (exact ⟨hH.1.trans hd, hd.blk hH.2.1 (by omega), hd.blk hH.2.2 (by omega)⟩)
 (try clear hH); (try clear hd)
 intro hH
 clear hK K
 (try simp only [cq])
 refine tkY 4 (some 24) ?_ ?_ ?_
 rotate_left
 · intro w _; go_simp; (try with_reducible rfl)
 (try simp only [cq])
 refine tkY 5 (some 25) ?_ ?_ ?_
 rotate_left
 · intro w hS0; (try dsimp only at hS0); obtain ⟨_, _, kT⟩ := hS0; obtain ⟨c0, c1, c2, c3⟩ := kT.c4;go_simp; (try with_reducible rfl)
 (try simp only [cq])
 refine wpAnyH_ready (rs := [9, 49]) (by kernel_rfl) (by simp) ?_
 refine arc (some 29) (fun K hK => ?_) ?_
 {
 go_simp
 (refine (below_in 20 bs _ hH.1.seed (by decide)).mono ?_; rintro e w' ⟨n2, rfl, n2a, n2b, hd⟩; replace n2b : n2 < 20 := (by omega); have e1 : IntKind.i64.wrap (tb + n2) = tb + n2 := IntWalk.i64_in _ (by omega); (try replace hA := hd.blk hA (by omega)))
 refine hK.out _ _ ?_ ?_
 · (exact ⟨hH.1.trans hd, hd.blk hH.2.1 (by omega), hd.blk hH.2.2 (by omega)⟩)
 (try clear hH); (try clear hd)
 intro hH
 clear hK K
 (try simp only [cq])
 refine tkY 10 (some 30) ?_ ?_ ?_
 rotate_left
 · intro w _; go_simp; (try with_reducible rfl)
 (try simp only [cq])
 refine wpAnyH_ready (rs := [11, 49]) (by kernel_rfl) (by simp) ?_
 refine arc (some 31) (fun K hK => ?_) ?_
 {
 go_simp
 (refine (lspan_any _ _ _).mono ?_; rintro e w' ⟨rfl, hb⟩; (try replace hA := hA.call hb); have hd := Drawn.after (Drawn.refl hH.1.seed) hb; clear hb)
 refine hK.out _ _ ?_ ?_
 · (exact ⟨hH.1.trans hd, hd.blk hH.2.1 (by omega), hd.blk hH.2.2 (by omega)⟩)
 (try clear hH); (try clear hd)
 intro hH
 clear hK K
 (try simp only [cq])
 refine wpAnyH_ready (rs := [15, 49]) (by kernel_rfl) (by simp) ?_
 refine arc (some 35) (fun K hK => ?_) ?_
 {
 go_simp
 (refine (below_in 9 bs _ hH.1.seed (by decide)).mono ?_; rintro e w' ⟨n3, rfl, n3a, n3b, hd⟩; replace n3b : n3 < 9 := (by omega); have e2 : IntKind.i64.wrap (tw - n3) = tw - n3 := IntWalk.i64_in _ (by omega); (try replace hA := hd.blk hA (by omega)))
 refine hK.out _ _ ?_ ?_
 · (exact ⟨hH.1.trans hd, hd.blk hH.2.1 (by omega), hd.blk hH.2.2 (by omega)⟩)
 (try clear hH); (try clear hd)
 intro hH
 clear hK K
 (try simp only [cq])
 refine tkY 16 (some 36) ?_ ?_ ?_
 rotate_left
 · intro w _; go_simp; (try with_reducible rfl)
 (try simp only [cq])
 refine tkY 17 (some 37) ?_ ?_ ?_
 rotate_left
 · intro w hS0; (try dsimp only at hS0); obtain ⟨_, _, kT⟩ := hS0; obtain ⟨c0, c1, c2, c3⟩ := kT.c4;go_simp; (try with_reducible rfl)
 (try simp only [cq])
 refine wpAnyH_ready (rs := [21, 49]) (by kernel_rfl) (by simp) ?_
 refine arc (some 41) (fun K hK => ?_) ?_
 {
 go_simp
 (refine (below_in 9 bs _ hH.1.seed (by decide)).mono ?_; rintro e w' ⟨n4, rfl, n4a, n4b, hd⟩; replace n4b : n4 < 9 := (by omega); have e3 : IntKind.i64.wrap (tw + n4) = tw + n4 := IntWalk.i64_in _ (by omega); (try replace hA := hd.blk hA (by omega)))
 refine hK.out _ _ ?_ ?_
 · (exact ⟨hH.1.trans hd, hd.blk hH.2.1 (by omega), hd.blk hH.2.2 (by omega)⟩)
 (try clear hH); (try clear hd)
 intro hH
 clear hK K
 (try simp only [cq])
 refine tkY 22 (some 42) ?_ ?_ ?_
 rotate_left
 · intro w _; go_simp; (try with_reducible rfl)
 (try simp only [cq])
 refine wpAnyH_ready (rs := [23, 49]) (by kernel_rfl) (by simp) ?_
 refine arc (some 43) (fun K hK => ?_) ?_
 {
 go_simp
 (refine (lspan_any _ _ _).mono ?_; rintro e w' ⟨rfl, hb⟩; (try replace hA := hA.call hb); have hd := Drawn.after (Drawn.refl hH.1.seed) hb; clear hb)
 refine hK.out _ _ ?_ ?_
 · (exact ⟨hH.1.trans hd, hd.blk hH.2.1 (by omega), hd.blk hH.2.2 (by omega)⟩)
 (try clear hH); (try clear hd)
 intro hH
 clear hK K
 (try simp only [cq])
 refine wpAnyH_ready (rs := [27, 49]) (by kernel_rfl) (by simp) ?_
 refine arc (some 47) (fun K hK => ?_) ?_
 {
 go_simp
 (refine (below_in 3 bs _ hH.1.seed (by decide)).mono ?_; rintro e w' ⟨n5, rfl, n5a, n5b, hd⟩; replace n5b : n5 < 3 := (by omega); have e4 : IntKind.i64.wrap (tq - n5) = tq - n5 := IntWalk.i64_in _ (by omega); (try replace hA := hd.blk hA (by omega)))
 refine hK.out _ _ ?_ ?_
 · (exact ⟨hH.1.trans hd, hd.blk hH.2.1 (by omega), hd.blk hH.2.2 (by omega)⟩)
 (try clear hH); (try clear hd)
 intro hH
 clear hK K
 (try simp only [cq])
 refine tkY 28 (some 48) ?_ ?_ ?_
 rotate_left
 · intro w _; go_simp; (try with_reducible rfl)
 (try simp only [cq])
 refine tkY 29 (some 49) ?_ ?_ ?_
 rotate_left
 · intro w hS0; (try dsimp only at hS0); obtain ⟨_, _, kT⟩ := hS0; obtain ⟨c0, c1, c2, c3⟩ := kT.c4;go_simp; (try with_reducible rfl)
 (try simp only [cq])
 refine wpAnyH_ready (rs := [33, 49]) (by kernel_rfl) (by simp) ?_
 refine arc (some 53) (fun K hK => ?_) ?_
 {
 go_simp
 (refine (below_in 3 bs _ hH.1.seed (by decide)).mono ?_; rintro e w' ⟨n6, rfl, n6a, n6b, hd⟩; replace n6b : n6 < 3 := (by omega); have e5 : IntKind.i64.wrap (tq + n6) = tq + n6 := IntWalk.i64_in _ (by omega); (try replace hA := hd.blk hA (by omega)))
 refine hK.out _ _ ?_ ?_
 · (exact ⟨hH.1.trans hd, hd.blk hH.2.1 (by omega), hd.blk hH.2.2 (by omega)⟩)
 (try clear hH); (try clear hd)
 intro hH
 clear hK K
 (try simp only [cq])
 refine tkY 34 (some 54) ?_ ?_ ?_
 rotate_left
 · intro w _; go_simp; (try with_reducible rfl)
 (try simp only [cq])
 refine wpAnyH_ready (rs := [35, 49]) (by kernel_rfl) (by simp) ?_
 refine arc (some 55) (fun K hK => ?_) ?_
 {
 go_simp
 (refine (lspan_any _ _ _).mono ?_; rintro e w' ⟨rfl, hb⟩; (try replace hA := hA.call hb); have hd := Drawn.after (Drawn.refl hH.1.seed) hb; clear hb)
 refine hK.out _ _ ?_ ?_
 · (exact ⟨hH.1.trans hd, hd.blk hH.2.1 (by omega), hd.blk hH.2.2 (by omega)⟩)
 (try clear hH); (try clear hd)
 intro hH
 clear hK K
 (try simp only [cq])
 refine wpAnyH_ready (rs := [39, 49]) (by kernel_rfl) (by simp) ?_
 refine arc (some 59) (fun K hK => ?_) ?_
 {
 go_simp
 (refine (below_in 40 bs _ hH.1.seed (by decide)).mono ?_; rintro e w' ⟨n7, rfl, n7a, n7b, hd⟩; replace n7b : n7 < 40 := (by omega); have e6 : IntKind.i64.wrap (ts - n7) = ts - n7 := IntWalk.i64_in _ (by omega); (try replace hA := hd.blk hA (by omega)))
 refine hK.out _ _ ?_ ?_
 · (exact ⟨hH.1.trans hd, hd.blk hH.2.1 (by omega), hd.blk hH.2.2 (by omega)⟩)
 (try clear hH); (try clear hd)
 intro hH
 clear hK K
 (try simp only [cq])
 refine tkY 40 (some 60) ?_ ?_ ?_
 rotate_left
 · intro w _; go_simp; (try with_reducible rfl)
 (try simp only [cq])
 refine tkY 41 (some 61) ?_ ?_ ?_
 rotate_left
 · intro w hS0; (try dsimp only at hS0); obtain ⟨_, _, kT⟩ := hS0; obtain ⟨c0, c1, c2, c3⟩ := kT.c4;go_simp; (try with_reducible rfl)
 (try simp only [cq])
 refine wpAnyH_ready (rs := [45, 49]) (by kernel_rfl) (by simp) ?_
 refine arc (some 65) (fun K hK => ?_) ?_
 {
 go_simp
 (refine (below_in 40 bs _ hH.1.seed (by decide)).mono ?_; rintro e w' ⟨n8, rfl, n8a, n8b, hd⟩; replace n8b : n8 < 40 := (by omega); have e7 : IntKind.i64.wrap (ts + n8) = ts + n8 := IntWalk.i64_in _ (by omega); (try replace hA := hd.blk hA (by omega)))
 refine hK.out _ _ ?_ ?_
 · (exact ⟨hH.1.trans hd, hd.blk hH.2.1 (by omega), hd.blk hH.2.2 (by omega)⟩)
 (try clear hH); (try clear hd)
 intro hH
 clear hK K
 (try simp only [cq])
 refine tkY 46 (some 66) ?_ ?_ ?_
 rotate_left
 · intro w _; go_simp; (try with_reducible rfl)
 (try simp only [cq])
 refine wpAnyH_ready (rs := [47, 49]) (by kernel_rfl) (by simp) ?_
 refine arc (some 67) (fun K hK => ?_) ?_
 {
 go_simp
 (refine (lspan_any _ _ _).mono ?_; rintro e w' ⟨rfl, hb⟩; (try replace hA := hA.call hb); have hd := Drawn.after (Drawn.refl hH.1.seed) hb; clear hb)
 refine hK.out _ _ ?_ ?_
 · (exact ⟨hH.1.trans hd, hd.blk hH.2.1 (by omega), hd.blk hH.2.2 (by omega)⟩)
 (try clear hH); (try clear hd)
 intro hH
 clear hK K
 (try simp only [cq])
 refine tkY 48 (some 68) ?_ ?_ ?_
 rotate_left
 · intro w _; go_simp; (try with_reducible rfl)
 (try simp only [cq])
 refine wpAnyH_ready (rs := [49]) (by kernel_rfl) (by simp) ?_
 refine arc1 (some 6) fun K hK => ?_
 (have hN1 := hH.1.2.size; have hN2 := hH.2.2.lt; have hN3 := hH.2.1.lt; (try simp only [World.drew] at hN1 hN2 hN3))
 go_simp
 first | refine oA hK ?_ (fun hH hA => ?_) | refine oD hK ?_ (fun hH hA => ?_)
 · exact ⟨hH.1.new _, hH.2.1.alloc _, hH.2.2.alloc _⟩
 clear hK K
 (try simp only [cq])
 obtain ⟨bA, hbA⟩ : ∃ b, Blk.num hA = b := ⟨_, rfl⟩
 obtain ⟨W, hW⟩ : ∃ V, Blk.wld hA = V := ⟨_, rfl⟩
 simp only [Blk.num] at hbA
 simp only [Blk.wld] at hW
 rw [hW] at hH hA ⊢
 rw [hbA] at hA ⊢
 replace hN1 : w1.heap.size ≤ bA := (by rw [← hbA]; exact hN1)
 replace hN2 : bT < bA := (by rw [← hbA]; exact hN2)
 replace hN3 : bX < bA := (by rw [← hbA]; exact hN3)
 clear hW hbA
 exact X12 n1 n2 n3 n4 n5 n6 n7 n8 bA W ⟨n1a, n1b, e0, n2a, n2b, e1, n3a, n3b, e2, n4a, n4b, e3, n5a, n5b, e4, n6a, n6b, e5, n7a, n7b, e6, n8a, n8b, e7, hH, hA, hN1, hN2, hN3⟩
 }
 refine arc (some 6) (fun K hK => ?_) ?_
 {
 (have hN1 := hH.1.2.size; have hN2 := hH.2.2.lt; have hN3 := hH.2.1.lt; (try simp only [World.drew] at hN1 hN2 hN3))
 go_simp
 first | refine oA hK ?_ (fun hH hA => ?_) | refine oD hK ?_ (fun hH hA => ?_)
 · exact ⟨hH.1.new _, hH.2.1.alloc _, hH.2.2.alloc _⟩
 clear hK K
 (try simp only [cq])
 obtain ⟨bA, hbA⟩ : ∃ b, Blk.num hA = b := ⟨_, rfl⟩
 obtain ⟨W, hW⟩ : ∃ V, Blk.wld hA = V := ⟨_, rfl⟩
 simp only [Blk.num] at hbA
 simp only [Blk.wld] at hW
 rw [hW] at hH hA ⊢
 rw [hbA] at hA ⊢
 replace hN1 : w1.heap.size ≤ bA := (by rw [← hbA]; exact hN1)
 replace hN2 : bT < bA := (by rw [← hbA]; exact hN2)
 replace hN3 : bX < bA := (by rw [← hbA]; exact hN3)
 clear hW hbA
 exact X11 n1 n2 n3 n4 n5 n6 n7 n8 bA W ⟨n1a, n1b, e0, n2a, n2b, e1, n3a, n3b, e2, n4a, n4b, e3, n5a, n5b, e4, n6a, n6b, e5, n7a, n7b, e6, n8a, n8b, e7, hH, hA, hN1, hN2, hN3⟩
 }
 exact AllReadyH.nil
 }
 refine arc (some 6) (fun K hK => ?_) ?_
 {
 (have hN1 := hH.1.2.size; have hN2 := hH.2.2.lt; have hN3 := hH.2.1.lt; (try simp only [World.drew] at hN1 hN2 hN3))
 go_simp
 first | refine oA hK ?_ (fun hH hA => ?_) | refine oD hK ?_ (fun hH hA => ?_)
 · exact ⟨hH.1.new _, hH.2.1.alloc _, hH.2.2.alloc _⟩
 clear hK K
 (try simp only [cq])
 obtain ⟨bA, hbA⟩ : ∃ b, Blk.num hA = b := ⟨_, rfl⟩
 obtain ⟨W, hW⟩ : ∃ V, Blk.wld hA = V := ⟨_, rfl⟩
 simp only [Blk.num] at hbA
 simp only [Blk.wld] at hW
 rw [hW] at hH hA ⊢
 rw [hbA] at hA ⊢
 replace hN1 : w1.heap.size ≤ bA := (by rw [← hbA]; exact hN1)
 replace hN2 : bT < bA := (by rw [← hbA]; exact hN2)
 replace hN3 : bX < bA := (by rw [← hbA]; exact hN3)
 clear hW hbA
 exact X10 n1 n2 n3 n4 n5 n6 n7 bA W ⟨n1a, n1b, e0, n2a, n2b, e1, n3a, n3b, e2, n4a, n4b, e3, n5a, n5b, e4, n6a, n6b, e5, n7a, n7b, e6, hH, hA, hN1, hN2, hN3⟩
 }
 exact AllReadyH.nil
 }
 refine arc (some 6) (fun K hK => ?_) ?_
 {
 (have hN1 := hH.1.2.size; have hN2 := hH.2.2.lt; have hN3 := hH.2.1.lt; (try simp only [World.drew] at hN1 hN2 hN3))
 go_simp
 first | refine oA hK ?_ (fun hH hA => ?_) | refine oD hK ?_ (fun hH hA => ?_)
 · exact ⟨hH.1.new _, hH.2.1.alloc _, hH.2.2.alloc _⟩
 clear hK K
 (try simp only [cq])
 obtain ⟨bA, hbA⟩ : ∃ b, Blk.num hA = b := ⟨_, rfl⟩
 obtain ⟨W, hW⟩ : ∃ V, Blk.wld hA = V := ⟨_, rfl⟩
 simp only [Blk.num] at hbA
 simp only [Blk.wld] at hW
 rw [hW] at hH hA ⊢
 rw [hbA] at hA ⊢
 replace hN1 : w1.heap.size ≤ bA := (by rw [← hbA]; exact hN1)
 replace hN2 : bT < bA := (by rw [← hbA]; exact hN2)
 replace hN3 : bX < bA := (by rw [← hbA]; exact hN3)
 clear hW hbA
 exact X9 n1 n2 n3 n4 n5 n6 bA W ⟨n1a, n1b, e0, n2a, n2b, e1, n3a, n3b, e2, n4a, n4b, e3, n5a, n5b, e4, n6a, n6b, e5, hH, hA, hN1, hN2, hN3⟩
 }
 exact AllReadyH.nil
 }
 refine arc (some 6) (fun K hK => ?_) ?_
 {
 (have hN1 := hH.1.2.size; have hN2 := hH.2.2.lt; have hN3 := hH.2.1.lt; (try simp only [World.drew] at hN1 hN2 hN3))
 go_simp
 first | refine oA hK ?_ (fun hH hA => ?_) | refine oD hK ?_ (fun hH hA => ?_)
 · exact ⟨hH.1.new _, hH.2.1.alloc _, hH.2.2.alloc _⟩
 clear hK K
 (try simp only [cq])
 obtain ⟨bA, hbA⟩ : ∃ b, Blk.num hA = b := ⟨_, rfl⟩
 obtain ⟨W, hW⟩ : ∃ V, Blk.wld hA = V := ⟨_, rfl⟩
 simp only [Blk.num] at hbA
 simp only [Blk.wld] at hW
 rw [hW] at hH hA ⊢
 rw [hbA] at hA ⊢
 replace hN1 : w1.heap.size ≤ bA := (by rw [← hbA]; exact hN1)
 replace hN2 : bT < bA := (by rw [← hbA]; exact hN2)
 replace hN3 : bX < bA := (by rw [← hbA]; exact hN3)
 clear hW hbA
 exact X8 n1 n2 n3 n4 n5 n6 bA W ⟨n1a, n1b, e0, n2a, n2b, e1, n3a, n3b, e2, n4a, n4b, e3, n5a, n5b, e4, n6a, n6b, e5, hH, hA, hN1, hN2, hN3⟩
 }
 exact AllReadyH.nil
 }
 refine arc (some 6) (fun K hK => ?_) ?_
 {
 (have hN1 := hH.1.2.size; have hN2 := hH.2.2.lt; have hN3 := hH.2.1.lt; (try simp only [World.drew] at hN1 hN2 hN3))
 go_simp
 first | refine oA hK ?_ (fun hH hA => ?_) | refine oD hK ?_ (fun hH hA => ?_)
 · exact ⟨hH.1.new _, hH.2.1.alloc _, hH.2.2.alloc _⟩
 clear hK K
 (try simp only [cq])
 obtain ⟨bA, hbA⟩ : ∃ b, Blk.num hA = b := ⟨_, rfl⟩
 obtain ⟨W, hW⟩ : ∃ V, Blk.wld hA = V := ⟨_, rfl⟩
 simp only [Blk.num] at hbA
 simp only [Blk.wld] at hW
 rw [hW] at hH hA ⊢
 rw [hbA] at hA ⊢
 replace hN1 : w1.heap.size ≤ bA := (by rw [← hbA]; exact hN1)
 replace hN2 : bT < bA := (by rw [← hbA]; exact hN2)
 replace hN3 : bX < bA := (by rw [← hbA]; exact hN3)
 clear hW hbA
 exact X7 n1 n2 n3 n4 n5 bA W ⟨n1a, n1b, e0, n2a, n2b, e1, n3a, n3b, e2, n4a, n4b, e3, n5a, n5b, e4, hH, hA, hN1, hN2, hN3⟩
 }
 exact AllReadyH.nil
 }
 refine arc (some 6) (fun K hK => ?_) ?_
 {
 (have hN1 := hH.1.2.size; have hN2 := hH.2.2.lt; have hN3 := hH.2.1.lt; (try simp only [World.drew] at hN1 hN2 hN3))
 go_simp
 first | refine oA hK ?_ (fun hH hA => ?_) | refine oD hK ?_ (fun hH hA => ?_)
 · exact ⟨hH.1.new _, hH.2.1.alloc _, hH.2.2.alloc _⟩
 clear hK K
 (try simp only [cq])
 obtain ⟨bA, hbA⟩ : ∃ b, Blk.num hA = b := ⟨_, rfl⟩
 obtain ⟨W, hW⟩ : ∃ V, Blk.wld hA = V := ⟨_, rfl⟩
 simp only [Blk.num] at hbA
 simp only [Blk.wld] at hW
 rw [hW] at hH hA ⊢
 rw [hbA] at hA ⊢
 replace hN1 : w1.heap.size ≤ bA := (by rw [← hbA]; exact hN1)
 replace hN2 : bT < bA := (by rw [← hbA]; exact hN2)
 replace hN3 : bX < bA := (by rw [← hbA]; exact hN3)
 clear hW hbA
 exact X6 n1 n2 n3 n4 bA W ⟨n1a, n1b, e0, n2a, n2b, e1, n3a, n3b, e2, n4a, n4b, e3, hH, hA, hN1, hN2, hN3⟩
 }
 exact AllReadyH.nil
 }
 refine arc (some 6) (fun K hK => ?_) ?_
 {
 (have hN1 := hH.1.2.size; have hN2 := hH.2.2.lt; have hN3 := hH.2.1.lt; (try simp only [World.drew] at hN1 hN2 hN3))
 go_simp
 first | refine oA hK ?_ (fun hH hA => ?_) | refine oD hK ?_ (fun hH hA => ?_)
 · exact ⟨hH.1.new _, hH.2.1.alloc _, hH.2.2.alloc _⟩
 clear hK K
 (try simp only [cq])
 obtain ⟨bA, hbA⟩ : ∃ b, Blk.num hA = b := ⟨_, rfl⟩
 obtain ⟨W, hW⟩ : ∃ V, Blk.wld hA = V := ⟨_, rfl⟩
 simp only [Blk.num] at hbA
 simp only [Blk.wld] at hW
 rw [hW] at hH hA ⊢
 rw [hbA] at hA ⊢
 replace hN1 : w1.heap.size ≤ bA := (by rw [← hbA]; exact hN1)
 replace hN2 : bT < bA := (by rw [← hbA]; exact hN2)
 replace hN3 : bX < bA := (by rw [← hbA]; exact hN3)
 clear hW hbA
 exact X5 n1 n2 n3 n4 bA W ⟨n1a, n1b, e0, n2a, n2b, e1, n3a, n3b, e2, n4a, n4b, e3, hH, hA, hN1, hN2, hN3⟩
 }
 exact AllReadyH.nil
 }
 refine arc (some 6) (fun K hK => ?_) ?_
 {
 (have hN1 := hH.1.2.size; have hN2 := hH.2.2.lt; have hN3 := hH.2.1.lt; (try simp only [World.drew] at hN1 hN2 hN3))
 go_simp
 first | refine oA hK ?_ (fun hH hA => ?_) | refine oD hK ?_ (fun hH hA => ?_)
 · exact ⟨hH.1.new _, hH.2.1.alloc _, hH.2.2.alloc _⟩
 clear hK K
 (try simp only [cq])
 obtain ⟨bA, hbA⟩ : ∃ b, Blk.num hA = b := ⟨_, rfl⟩
 obtain ⟨W, hW⟩ : ∃ V, Blk.wld hA = V := ⟨_, rfl⟩
 simp only [Blk.num] at hbA
 simp only [Blk.wld] at hW
 rw [hW] at hH hA ⊢
 rw [hbA] at hA ⊢
 replace hN1 : w1.heap.size ≤ bA := (by rw [← hbA]; exact hN1)
 replace hN2 : bT < bA := (by rw [← hbA]; exact hN2)
 replace hN3 : bX < bA := (by rw [← hbA]; exact hN3)
 clear hW hbA
 exact X4 n1 n2 n3 bA W ⟨n1a, n1b, e0, n2a, n2b, e1, n3a, n3b, e2, hH, hA, hN1, hN2, hN3⟩
 }
 exact AllReadyH.nil
 }
 refine arc (some 6) (fun K hK => ?_) ?_
 {
 (have hN1 := hH.1.2.size; have hN2 := hH.2.2.lt; have hN3 := hH.2.1.lt; (try simp only [World.drew] at hN1 hN2 hN3))
 go_simp
 first | refine oA hK ?_ (fun hH hA => ?_) | refine oD hK ?_ (fun hH hA => ?_)
 · exact ⟨hH.1.new _, hH.2.1.alloc _, hH.2.2.alloc _⟩
 clear hK K
 (try simp only [cq])
 obtain ⟨bA, hbA⟩ : ∃ b, Blk.num hA = b := ⟨_, rfl⟩
 obtain ⟨W, hW⟩ : ∃ V, Blk.wld hA = V := ⟨_, rfl⟩
 simp only [Blk.num] at hbA
 simp only [Blk.wld] at hW
 rw [hW] at hH hA ⊢
 rw [hbA] at hA ⊢
 replace hN1 : w1.heap.size ≤ bA := (by rw [← hbA]; exact hN1)
 replace hN2 : bT < bA := (by rw [← hbA]; exact hN2)
 replace hN3 : bX < bA := (by rw [← hbA]; exact hN3)
 clear hW hbA
 exact X3 n1 n2 bA W ⟨n1a, n1b, e0, n2a, n2b, e1, hH, hA, hN1, hN2, hN3⟩
 }
 exact AllReadyH.nil
 }
 refine arc (some 6) (fun K hK => ?_) ?_
 {
 (have hN1 := hH.1.2.size; have hN2 := hH.2.2.lt; have hN3 := hH.2.1.lt; (try simp only [World.drew] at hN1 hN2 hN3))
 go_simp
 first | refine oA hK ?_ (fun hH hA => ?_) | refine oD hK ?_ (fun hH hA => ?_)
 · exact ⟨hH.1.new _, hH.2.1.alloc _, hH.2.2.alloc _⟩
 clear hK K
 (try simp only [cq])
 obtain ⟨bA, hbA⟩ : ∃ b, Blk.num hA = b := ⟨_, rfl⟩
 obtain ⟨W, hW⟩ : ∃ V, Blk.wld hA = V := ⟨_, rfl⟩
 simp only [Blk.num] at hbA
 simp only [Blk.wld] at hW
 rw [hW] at hH hA ⊢
 rw [hbA] at hA ⊢
 replace hN1 : w1.heap.size ≤ bA := (by rw [← hbA]; exact hN1)
 replace hN2 : bT < bA := (by rw [← hbA]; exact hN2)
 replace hN3 : bX < bA := (by rw [← hbA]; exact hN3)
 clear hW hbA
 exact X2 n1 n2 bA W ⟨n1a, n1b, e0, n2a, n2b, e1, hH, hA, hN1, hN2, hN3⟩
 }
 exact AllReadyH.nil
 }
 refine arc (some 6) (fun K hK => ?_) ?_
 {
 (have hN1 := hH.1.2.size; have hN2 := hH.2.2.lt; have hN3 := hH.2.1.lt; (try simp only [World.drew] at hN1 hN2 hN3))
 go_simp
 first | refine oA hK ?_ (fun hH hA => ?_) | refine oD hK ?_ (fun hH hA => ?_)
 · exact ⟨hH.1.new _, hH.2.1.alloc _, hH.2.2.alloc _⟩
 clear hK K
 (try simp only [cq])
 obtain ⟨bA, hbA⟩ : ∃ b, Blk.num hA = b := ⟨_, rfl⟩
 obtain ⟨W, hW⟩ : ∃ V, Blk.wld hA = V := ⟨_, rfl⟩
 simp only [Blk.num] at hbA
 simp only [Blk.wld] at hW
 rw [hW] at hH hA ⊢
 rw [hbA] at hA ⊢
 replace hN1 : w1.heap.size ≤ bA := (by rw [← hbA]; exact hN1)
 replace hN2 : bT < bA := (by rw [← hbA]; exact hN2)
 replace hN3 : bX < bA := (by rw [← hbA]; exact hN3)
 clear hW hbA
 exact X1 n1 bA W ⟨n1a, n1b, e0, hH, hA, hN1, hN2, hN3⟩
 }
 exact AllReadyH.nil
 }
 refine arc (some 6) (fun K hK => ?_) ?_
 {
 (have hN1 := hH.1.2.size; have hN2 := hH.2.2.lt; have hN3 := hH.2.1.lt; (try simp only [World.drew] at hN1 hN2 hN3))
 go_simp
 first | refine oA hK ?_ (fun hH hA => ?_) | refine oD hK ?_ (fun hH hA => ?_)
 · exact ⟨hH.1.new _, hH.2.1.alloc _, hH.2.2.alloc _⟩
 clear hK K
 (try simp only [cq])
 obtain ⟨bA, hbA⟩ : ∃ b, Blk.num hA = b := ⟨_, rfl⟩
 obtain ⟨W, hW⟩ : ∃ V, Blk.wld hA = V := ⟨_, rfl⟩
 simp only [Blk.num] at hbA
 simp only [Blk.wld] at hW
 rw [hW] at hH hA ⊢
 rw [hbA] at hA ⊢
 replace hN1 : w1.heap.size ≤ bA := (by rw [← hbA]; exact hN1)
 replace hN2 : bT < bA := (by rw [← hbA]; exact hN2)
 replace hN3 : bX < bA := (by rw [← hbA]; exact hN3)
 clear hW hbA
 exact X0  bA W ⟨hH, hA, hN1, hN2, hN3⟩
 }
 exact AllReadyH.nil
 }
 {
 intro bA W hall
 obtain ⟨hH, hA, hN1, hN2, hN3⟩ := hall
 (try dsimp only at hH)
 (try clear X2 X3 X4 X5 X6 X7 X8 X9 X10 X11 X12)
 refine wpAnyH_ready (rs := [3]) (by kernel_rfl) (by simp) ?_
 refine arc1 (some 23) fun K hK => ?_
 go_simp
 (refine (below_in 20 bs _ hH.1.seed (by decide)).mono ?_; rintro e w' ⟨n1, rfl, n1a, n1b, hd⟩; replace n1b : n1 < 20 := (by omega); have e0 : IntKind.i64.wrap (tb - n1) = tb - n1 := IntWalk.i64_in _ (by omega); (try replace hA := hd.blk hA (by omega)))
 refine hK.out _ _ ?_ ?_
 · (exact ⟨hH.1.trans hd, hd.blk hH.2.1 (by omega), hd.blk hH.2.2 (by omega)⟩)
 (try clear hH); (try clear hd)
 intro hH
 clear hK K
 (try simp only [cq])
 refine tkY 4 (some 24) ?_ ?_ ?_
 rotate_left
 · intro w _; go_simp; (try with_reducible rfl)
 (try simp only [cq])
 refine tkY 5 (some 25) ?_ ?_ ?_
 rotate_left
 · intro w hS0; (try dsimp only at hS0); obtain ⟨_, _, kT⟩ := hS0; obtain ⟨c0, c1, c2, c3⟩ := kT.c4;go_simp; (try with_reducible rfl)
 (try simp only [cq])
 exact X1 n1 bA w' ⟨n1a, n1b, e0, hH, hA, hN1, hN2, hN3⟩
 }
 }
 {
 intro n1 bA W hall
 obtain ⟨n1a, n1b, e0, hH, hA, hN1, hN2, hN3⟩ := hall
 (try dsimp only at hH)
 (try clear X3 X4 X5 X6 X7 X8 X9 X10 X11 X12)
 refine wpAnyH_ready (rs := [9]) (by kernel_rfl) (by simp) ?_
 refine arc1 (some 29) fun K hK => ?_
 go_simp
 (refine (below_in 20 bs _ hH.1.seed (by decide)).mono ?_; rintro e w' ⟨n2, rfl, n2a, n2b, hd⟩; replace n2b : n2 < 20 := (by omega); have e1 : IntKind.i64.wrap (tb + n2) = tb + n2 := IntWalk.i64_in _ (by omega); (try replace hA := hd.blk hA (by omega)))
 refine hK.out _ _ ?_ ?_
 · (exact ⟨hH.1.trans hd, hd.blk hH.2.1 (by omega), hd.blk hH.2.2 (by omega)⟩)
 (try clear hH); (try clear hd)
 intro hH
 clear hK K
 (try simp only [cq])
 refine tkY 10 (some 30) ?_ ?_ ?_
 rotate_left
 · intro w _; go_simp; (try with_reducible rfl)
 (try simp only [cq])
 exact X2 n1 n2 bA w' ⟨n1a, n1b, e0, n2a, n2b, e1, hH, hA, hN1, hN2, hN3⟩
 }
 }
 {
 intro n1 n2 bA W hall
 obtain ⟨n1a, n1b, e0, n2a, n2b, e1, hH, hA, hN1, hN2, hN3⟩ := hall
 (try dsimp only at hH)
 (try clear X4 X5 X6 X7 X8 X9 X10 X11 X12)
 refine wpAnyH_ready (rs := [11]) (by kernel_rfl) (by simp) ?_
 refine arc1 (some 31) fun K hK => ?_
 go_simp
 (refine (lspan_any _ _ _).mono ?_; rintro e w' ⟨rfl, hb⟩; (try replace hA := hA.call hb); have hd := Drawn.after (Drawn.refl hH.1.seed) hb; clear hb)
 refine hK.out _ _ ?_ ?_
 · (exact ⟨hH.1.trans hd, hd.blk hH.2.1 (by omega), hd.blk hH.2.2 (by omega)⟩)
 (try clear hH); (try clear hd)
 intro hH
 clear hK K
 (try simp only [cq])
 exact X3 n1 n2 bA w' ⟨n1a, n1b, e0, n2a, n2b, e1, hH, hA, hN1, hN2, hN3⟩
 }
 }
 {
 intro n1 n2 bA W hall
 obtain ⟨n1a, n1b, e0, n2a, n2b, e1, hH, hA, hN1, hN2, hN3⟩ := hall
 (try dsimp only at hH)
 (try clear X5 X6 X7 X8 X9 X10 X11 X12)
 refine wpAnyH_ready (rs := [15]) (by kernel_rfl) (by simp) ?_
 refine arc1 (some 35) fun K hK => ?_
 go_simp
 (refine (below_in 9 bs _ hH.1.seed (by decide)).mono ?_; rintro e w' ⟨n3, rfl, n3a, n3b, hd⟩; replace n3b : n3 < 9 := (by omega); have e2 : IntKind.i64.wrap (tw - n3) = tw - n3 := IntWalk.i64_in _ (by omega); (try replace hA := hd.blk hA (by omega)))
 refine hK.out _ _ ?_ ?_
 · (exact ⟨hH.1.trans hd, hd.blk hH.2.1 (by omega), hd.blk hH.2.2 (by omega)⟩)
 (try clear hH); (try clear hd)
 intro hH
 clear hK K
 (try simp only [cq])
 refine tkY 16 (some 36) ?_ ?_ ?_
 rotate_left
 · intro w _; go_simp; (try with_reducible rfl)
 (try simp only [cq])
 refine tkY 17 (some 37) ?_ ?_ ?_
 rotate_left
 · intro w hS0; (try dsimp only at hS0); obtain ⟨_, _, kT⟩ := hS0; obtain ⟨c0, c1, c2, c3⟩ := kT.c4;go_simp; (try with_reducible rfl)
 (try simp only [cq])
 exact X4 n1 n2 n3 bA w' ⟨n1a, n1b, e0, n2a, n2b, e1, n3a, n3b, e2, hH, hA, hN1, hN2, hN3⟩
 }
 }
 {
 intro n1 n2 n3 bA W hall
 obtain ⟨n1a, n1b, e0, n2a, n2b, e1, n3a, n3b, e2, hH, hA, hN1, hN2, hN3⟩ := hall
 (try dsimp only at hH)
 (try clear X6 X7 X8 X9 X10 X11 X12)
 refine wpAnyH_ready (rs := [21]) (by kernel_rfl) (by simp) ?_
 refine arc1 (some 41) fun K hK => ?_
 go_simp
 (refine (below_in 9 bs _ hH.1.seed (by decide)).mono ?_; rintro e w' ⟨n4, rfl, n4a, n4b, hd⟩; replace n4b : n4 < 9 := (by omega); have e3 : IntKind.i64.wrap (tw + n4) = tw + n4 := IntWalk.i64_in _ (by omega); (try replace hA := hd.blk hA (by omega)))
 refine hK.out _ _ ?_ ?_
 · (exact ⟨hH.1.trans hd, hd.blk hH.2.1 (by omega), hd.blk hH.2.2 (by omega)⟩)
 (try clear hH); (try clear hd)
 intro hH
 clear hK K
 (try simp only [cq])
 refine tkY 22 (some 42) ?_ ?_ ?_
 rotate_left
 · intro w _; go_simp; (try with_reducible rfl)
 (try simp only [cq])
 exact X5 n1 n2 n3 n4 bA w' ⟨n1a, n1b, e0, n2a, n2b, e1, n3a, n3b, e2, n4a, n4b, e3, hH, hA, hN1, hN2, hN3⟩
 }
 }
 {
 intro n1 n2 n3 n4 bA W hall
 obtain ⟨n1a, n1b, e0, n2a, n2b, e1, n3a, n3b, e2, n4a, n4b, e3, hH, hA, hN1, hN2, hN3⟩ := hall
 (try dsimp only at hH)
 (try clear X7 X8 X9 X10 X11 X12)
 refine wpAnyH_ready (rs := [23]) (by kernel_rfl) (by simp) ?_
 refine arc1 (some 43) fun K hK => ?_
 go_simp
 (refine (lspan_any _ _ _).mono ?_; rintro e w' ⟨rfl, hb⟩; (try replace hA := hA.call hb); have hd := Drawn.after (Drawn.refl hH.1.seed) hb; clear hb)
 refine hK.out _ _ ?_ ?_
 · (exact ⟨hH.1.trans hd, hd.blk hH.2.1 (by omega), hd.blk hH.2.2 (by omega)⟩)
 (try clear hH); (try clear hd)
 intro hH
 clear hK K
 (try simp only [cq])
 exact X6 n1 n2 n3 n4 bA w' ⟨n1a, n1b, e0, n2a, n2b, e1, n3a, n3b, e2, n4a, n4b, e3, hH, hA, hN1, hN2, hN3⟩
 }
 }
 {
 intro n1 n2 n3 n4 bA W hall
 obtain ⟨n1a, n1b, e0, n2a, n2b, e1, n3a, n3b, e2, n4a, n4b, e3, hH, hA, hN1, hN2, hN3⟩ := hall
 (try dsimp only at hH)
 (try clear X8 X9 X10 X11 X12)
 refine wpAnyH_ready (rs := [27]) (by kernel_rfl) (by simp) ?_
 refine arc1 (some 47) fun K hK => ?_
 go_simp
 (refine (below_in 3 bs _ hH.1.seed (by decide)).mono ?_; rintro e w' ⟨n5, rfl, n5a, n5b, hd⟩; replace n5b : n5 < 3 := (by omega); have e4 : IntKind.i64.wrap (tq - n5) = tq - n5 := IntWalk.i64_in _ (by omega); (try replace hA := hd.blk hA (by omega)))
 refine hK.out _ _ ?_ ?_
 · (exact ⟨hH.1.trans hd, hd.blk hH.2.1 (by omega), hd.blk hH.2.2 (by omega)⟩)
 (try clear hH); (try clear hd)
 intro hH
 clear hK K
 (try simp only [cq])
 refine tkY 28 (some 48) ?_ ?_ ?_
 rotate_left
 · intro w _; go_simp; (try with_reducible rfl)
 (try simp only [cq])
 refine tkY 29 (some 49) ?_ ?_ ?_
 rotate_left
 · intro w hS0; (try dsimp only at hS0); obtain ⟨_, _, kT⟩ := hS0; obtain ⟨c0, c1, c2, c3⟩ := kT.c4;go_simp; (try with_reducible rfl)
 (try simp only [cq])
 exact X7 n1 n2 n3 n4 n5 bA w' ⟨n1a, n1b, e0, n2a, n2b, e1, n3a, n3b, e2, n4a, n4b, e3, n5a, n5b, e4, hH, hA, hN1, hN2, hN3⟩
 }
 }
 {
 intro n1 n2 n3 n4 n5 bA W hall
 obtain ⟨n1a, n1b, e0, n2a, n2b, e1, n3a, n3b, e2, n4a, n4b, e3, n5a, n5b, e4, hH, hA, hN1, hN2, hN3⟩ := hall
 (try dsimp only at hH)
 (try clear X9 X10 X11 X12)
 refine wpAnyH_ready (rs := [33]) (by kernel_rfl) (by simp) ?_
 refine arc1 (some 53) fun K hK => ?_
 go_simp
 (refine (below_in 3 bs _ hH.1.seed (by decide)).mono ?_; rintro e w' ⟨n6, rfl, n6a, n6b, hd⟩; replace n6b : n6 < 3 := (by omega); have e5 : IntKind.i64.wrap (tq + n6) = tq + n6 := IntWalk.i64_in _ (by omega); (try replace hA := hd.blk hA (by omega)))
 refine hK.out _ _ ?_ ?_
 · (exact ⟨hH.1.trans hd, hd.blk hH.2.1 (by omega), hd.blk hH.2.2 (by omega)⟩)
 (try clear hH); (try clear hd)
 intro hH
 clear hK K
 (try simp only [cq])
 refine tkY 34 (some 54) ?_ ?_ ?_
 rotate_left
 · intro w _; go_simp; (try with_reducible rfl)
 (try simp only [cq])
 exact X8 n1 n2 n3 n4 n5 n6 bA w' ⟨n1a, n1b, e0, n2a, n2b, e1, n3a, n3b, e2, n4a, n4b, e3, n5a, n5b, e4, n6a, n6b, e5, hH, hA, hN1, hN2, hN3⟩
 }
 }
 {
 intro n1 n2 n3 n4 n5 n6 bA W hall
 obtain ⟨n1a, n1b, e0, n2a, n2b, e1, n3a, n3b, e2, n4a, n4b, e3, n5a, n5b, e4, n6a, n6b, e5, hH, hA, hN1, hN2, hN3⟩ := hall
 (try dsimp only at hH)
 (try clear X10 X11 X12)
 refine wpAnyH_ready (rs := [35]) (by kernel_rfl) (by simp) ?_
 refine arc1 (some 55) fun K hK => ?_
 go_simp
 (refine (lspan_any _ _ _).mono ?_; rintro e w' ⟨rfl, hb⟩; (try replace hA := hA.call hb); have hd := Drawn.after (Drawn.refl hH.1.seed) hb; clear hb)
 refine hK.out _ _ ?_ ?_
 · (exact ⟨hH.1.trans hd, hd.blk hH.2.1 (by omega), hd.blk hH.2.2 (by omega)⟩)
 (try clear hH); (try clear hd)
 intro hH
 clear hK K
 (try simp only [cq])
 exact X9 n1 n2 n3 n4 n5 n6 bA w' ⟨n1a, n1b, e0, n2a, n2b, e1, n3a, n3b, e2, n4a, n4b, e3, n5a, n5b, e4, n6a, n6b, e5, hH, hA, hN1, hN2, hN3⟩
 }
 }
 {
 intro n1 n2 n3 n4 n5 n6 bA W hall
 obtain ⟨n1a, n1b, e0, n2a, n2b, e1, n3a, n3b, e2, n4a, n4b, e3, n5a, n5b, e4, n6a, n6b, e5, hH, hA, hN1, hN2, hN3⟩ := hall
 (try dsimp only at hH)
 (try clear X11 X12)
 refine wpAnyH_ready (rs := [39]) (by kernel_rfl) (by simp) ?_
 refine arc1 (some 59) fun K hK => ?_
 go_simp
 (refine (below_in 40 bs _ hH.1.seed (by decide)).mono ?_; rintro e w' ⟨n7, rfl, n7a, n7b, hd⟩; replace n7b : n7 < 40 := (by omega); have e6 : IntKind.i64.wrap (ts - n7) = ts - n7 := IntWalk.i64_in _ (by omega); (try replace hA := hd.blk hA (by omega)))
 refine hK.out _ _ ?_ ?_
 · (exact ⟨hH.1.trans hd, hd.blk hH.2.1 (by omega), hd.blk hH.2.2 (by omega)⟩)
 (try clear hH); (try clear hd)
 intro hH
 clear hK K
 (try simp only [cq])
 refine tkY 40 (some 60) ?_ ?_ ?_
 rotate_left
 · intro w _; go_simp; (try with_reducible rfl)
 (try simp only [cq])
 refine tkY 41 (some 61) ?_ ?_ ?_
 rotate_left
 · intro w hS0; (try dsimp only at hS0); obtain ⟨_, _, kT⟩ := hS0; obtain ⟨c0, c1, c2, c3⟩ := kT.c4;go_simp; (try with_reducible rfl)
 (try simp only [cq])
 exact X10 n1 n2 n3 n4 n5 n6 n7 bA w' ⟨n1a, n1b, e0, n2a, n2b, e1, n3a, n3b, e2, n4a, n4b, e3, n5a, n5b, e4, n6a, n6b, e5, n7a, n7b, e6, hH, hA, hN1, hN2, hN3⟩
 }
 }
 {
 intro n1 n2 n3 n4 n5 n6 n7 bA W hall
 obtain ⟨n1a, n1b, e0, n2a, n2b, e1, n3a, n3b, e2, n4a, n4b, e3, n5a, n5b, e4, n6a, n6b, e5, n7a, n7b, e6, hH, hA, hN1, hN2, hN3⟩ := hall
 (try dsimp only at hH)
 (try clear X12)
 refine wpAnyH_ready (rs := [45]) (by kernel_rfl) (by simp) ?_
 refine arc1 (some 65) fun K hK => ?_
 go_simp
 (refine (below_in 40 bs _ hH.1.seed (by decide)).mono ?_; rintro e w' ⟨n8, rfl, n8a, n8b, hd⟩; replace n8b : n8 < 40 := (by omega); have e7 : IntKind.i64.wrap (ts + n8) = ts + n8 := IntWalk.i64_in _ (by omega); (try replace hA := hd.blk hA (by omega)))
 refine hK.out _ _ ?_ ?_
 · (exact ⟨hH.1.trans hd, hd.blk hH.2.1 (by omega), hd.blk hH.2.2 (by omega)⟩)
 (try clear hH); (try clear hd)
 intro hH
 clear hK K
 (try simp only [cq])
 refine tkY 46 (some 66) ?_ ?_ ?_
 rotate_left
 · intro w _; go_simp; (try with_reducible rfl)
 (try simp only [cq])
 exact X11 n1 n2 n3 n4 n5 n6 n7 n8 bA w' ⟨n1a, n1b, e0, n2a, n2b, e1, n3a, n3b, e2, n4a, n4b, e3, n5a, n5b, e4, n6a, n6b, e5, n7a, n7b, e6, n8a, n8b, e7, hH, hA, hN1, hN2, hN3⟩
 }
 }
 {
 intro n1 n2 n3 n4 n5 n6 n7 n8 bA W hall
 obtain ⟨n1a, n1b, e0, n2a, n2b, e1, n3a, n3b, e2, n4a, n4b, e3, n5a, n5b, e4, n6a, n6b, e5, n7a, n7b, e6, n8a, n8b, e7, hH, hA, hN1, hN2, hN3⟩ := hall
 (try dsimp only at hH)
 refine wpAnyH_ready (rs := [47]) (by kernel_rfl) (by simp) ?_
 refine arc1 (some 67) fun K hK => ?_
 go_simp
 (refine (lspan_any _ _ _).mono ?_; rintro e w' ⟨rfl, hb⟩; (try replace hA := hA.call hb); have hd := Drawn.after (Drawn.refl hH.1.seed) hb; clear hb)
 refine hK.out _ _ ?_ ?_
 · (exact ⟨hH.1.trans hd, hd.blk hH.2.1 (by omega), hd.blk hH.2.2 (by omega)⟩)
 (try clear hH); (try clear hd)
 intro hH
 clear hK K
 (try simp only [cq])
 refine tkY 48 (some 68) ?_ ?_ ?_
 rotate_left
 · intro w _; go_simp; (try with_reducible rfl)
 (try simp only [cq])
 exact X12 n1 n2 n3 n4 n5 n6 n7 n8 bA w' ⟨n1a, n1b, e0, n2a, n2b, e1, n3a, n3b, e2, n4a, n4b, e3, n5a, n5b, e4, n6a, n6b, e5, n7a, n7b, e6, n8a, n8b, e7, hH, hA, hN1, hN2, hN3⟩
 }
 }
 {
 intro n1 n2 n3 n4 n5 n6 n7 n8 bA W hall
 obtain ⟨n1a, n1b, e0, n2a, n2b, e1, n3a, n3b, e2, n4a, n4b, e3, n5a, n5b, e4, n6a, n6b, e5, n7a, n7b, e6, n8a, n8b, e7, hH, hA, hN1, hN2, hN3⟩ := hall
 (try dsimp only at hH)
 refine wpAnyH_ready (rs := [50]) (by kernel_rfl) (by simp) ?_
 refine arc1 none fun K hK => ?_
 obtain ⟨hD, hXX, hTT⟩ := hH
 obtain ⟨r0, r1, r2, r3, r4, r5, r6, r7⟩ := hA.c8
 have fr0 := hA.free 0
 have fr1 := hA.free 1
 have fr2 := hA.free 2
 have fr3 := hA.free 3
 have fr4 := hA.free 4
 have fr5 := hA.free 5
 have fr6 := hA.free 6
 have fr7 := hA.free 7
 have zR := hA.lt
 have HS := Lib.hid (hA.set8 (.int .i64 (max 0 (tb - n1))) (.int .i64 (tb + n2)) (.int .i64 (max 0 (tw - n3))) (.int .i64 (tw + n4)) (.int .i64 (max 0 (tq - n5))) (.int .i64 (tq + n6)) (.int .i64 (max 0 (ts - n7))) (.int .i64 (ts + n8)))
 have HD := Lib.hid (hD.set8 hN1 hb1 (.int .i64 (max 0 (tb - n1))) (.int .i64 (tb + n2)) (.int .i64 (max 0 (tw - n3))) (.int .i64 (tw + n4)) (.int .i64 (max 0 (tq - n5))) (.int .i64 (tq + n6)) (.int .i64 (max 0 (ts - n7))) (.int .i64 (ts + n8)))
 go_simp
 refine hK.out _ _ ?_ ?_
 · with_reducible exact ⟨HD.out, hXX.other8 (by omega) _ _ _ _ _ _ _ _, hTT.other8 (by omega) _ _ _ _ _ _ _ _⟩
 (try clear hH); (try clear hd)
 intro hH
 clear hK K
 (try simp only [cq])
 refine wpAnyH_done (by kernel_rfl) ?_ _
 (try dsimp only [Act.put])
 (try simp only [cq])
 clear hA r0 r1 r2 r3 r4 r5 r6 r7 fr0 fr1 fr2 fr3 fr4 fr5 fr6 fr7 zR hD hXX hTT e0 e1 e2 e3 e4 e5 e6 e7
 have hC := drill_c tb tw tq ts n1 n2 n3 n4 n5 n6 n7 n8 t0 t1 t2 t3 t4 t5 t6 t7 n1a n1b n2a n2b n3a n3b n4a n4b n5a n5b n6a n6b n7a n7b n8a n8b
 clear n1a n1b n2a n2b n3a n3b n4a n4b n5a n5b n6a n6b n7a n7b n8a n8b t0 t1 t2 t3 t4 t5 t6 t7
 go_wp2_with fail
 go_meet
 exact ⟨⟨max 0 (tb - n1), tb + n2, max 0 (tw - n3), tw + n4, max 0 (tq - n5), tq + n6, max 0 (ts - n7), ts + n8⟩, _, rfl, hN2, HS.out, hH.2.1, hH.2.2, hH.1, hC.1, hC.2⟩
 } )
  case rest =>
    obtain ⟨c, bc, rfl, zc, jC, jX, jT, hA, hcv, hct⟩ := hcut
    have hxv := hx.val
    have ht0 := coT_of hT hct
    obtain ⟨y, hy⟩ : ∃ y, coI x c = y := ⟨_, rfl⟩
    have K1 := Lib.hid (fun W => core_ok x c y hxv hcv ht0 hy W)
    have K2 := Lib.hid (fun W => core_ok c x y hcv hxv (coT_comm ht0) ((coI_comm c x).trans hy) W)
    have hyv : y.Val := hy ▸ coI_val hxv hcv ht0
    have hyt : TrIn tb tw tq ts y := hy ▸ coI_in hT hct
    have K3 := Lib.hid (fun W => core_ok y c y hyv hcv (coT_of hyt hct) (by rw [← hy]; exact coI_again x c) W)
    have K4 : Hid (∀ W, Calls Try.prog 46 #[.agg #[.int .i64 y.b0, .int .i64 y.b1, .int .i64 y.w0, .int .i64 y.w1, .int .i64 y.q0, .int .i64 y.q1, .int .i64 y.s0, .int .i64 y.s1], .agg #[.int .i64 x.b0, .int .i64 x.b1, .int .i64 x.w0, .int .i64 x.w1, .int .i64 x.q0, .int .i64 x.q1, .int .i64 x.s0, .int .i64 x.s1]] W fun e w' => e = .returned (.bool true) ∧ Below W.heap.size W w') := fun W => kinside_yes y x (hy ▸ coI_sub x c) W
    have K5 : Hid (∀ W, Calls Try.prog 46 #[.agg #[.int .i64 y.b0, .int .i64 y.b1, .int .i64 y.w0, .int .i64 y.w1, .int .i64 y.q0, .int .i64 y.q1, .int .i64 y.s0, .int .i64 y.s1], .agg #[.int .i64 c.b0, .int .i64 c.b1, .int .i64 c.w0, .int .i64 c.w1, .int .i64 c.q0, .int .i64 c.q1, .int .i64 c.s0, .int .i64 c.s1]] W fun e w' => e = .returned (.bool true) ∧ Below W.heap.size W w') := fun W => kinside_yes y c (hy ▸ coI_sub2 x c) W
    have K6 : Hid (∀ W, Calls Try.prog 33 #[.agg #[.int .i64 tb, .int .i64 tw, .int .i64 tq, .int .i64 ts], .agg #[.int .i64 y.b0, .int .i64 y.b1, .int .i64 y.w0, .int .i64 y.w1, .int .i64 y.q0, .int .i64 y.q1, .int .i64 y.s0, .int .i64 y.s1]] W fun e w' => e = .returned (.bool true) ∧ Below W.heap.size W w') := fun W => kinice_yes tb tw tq ts y hyt W
    clear hy hyv hyt ht0 hct hcv hxv hT hx
    obtain ⟨p0, p1, p2, p3, p4, p5, p6, p7⟩ := jX.c8
    have zp := jX.lt
    obtain ⟨q0, q1, q2, q3, q4, q5, q6, q7⟩ := jC.c8
    have zq := jC.lt
    go_wp2_with fail
    refine (K1.out _).mono ?_
    rintro e w5 ⟨rfl, hb⟩
    replace jX := jX.call hb
    replace jC := jC.call hb
    replace jT := jT.call hb
    replace hA := hA.after hb
    clear hb
    clear p0 p1 p2 p3 p4 p5 p6 p7 zp q0 q1 q2 q3 q4 q5 q6 q7 zq
    have jY := Blk.new w5 #[.int .i64 y.b0, .int .i64 y.b1, .int .i64 y.w0, .int .i64 y.w1, .int .i64 y.q0, .int .i64 y.q1, .int .i64 y.s0, .int .i64 y.s1] 28
    replace jX := jX.alloc (.cells #[.int .i64 y.b0, .int .i64 y.b1, .int .i64 y.w0, .int .i64 y.w1, .int .i64 y.q0, .int .i64 y.q1, .int .i64 y.s0, .int .i64 y.s1] 28)
    replace jC := jC.alloc (.cells #[.int .i64 y.b0, .int .i64 y.b1, .int .i64 y.w0, .int .i64 y.w1, .int .i64 y.q0, .int .i64 y.q1, .int .i64 y.s0, .int .i64 y.s1] 28)
    replace jT := jT.alloc (.cells #[.int .i64 y.b0, .int .i64 y.b1, .int .i64 y.w0, .int .i64 y.w1, .int .i64 y.q0, .int .i64 y.q1, .int .i64 y.s0, .int .i64 y.s1] 28)
    replace hA := hA.new (.cells #[.int .i64 y.b0, .int .i64 y.b1, .int .i64 y.w0, .int .i64 y.w1, .int .i64 y.q0, .int .i64 y.q1, .int .i64 y.s0, .int .i64 y.s1] 28)
    obtain ⟨p0, p1, p2, p3, p4, p5, p6, p7⟩ := jX.c8
    have zp := jX.lt
    obtain ⟨q0, q1, q2, q3, q4, q5, q6, q7⟩ := jC.c8
    have zq := jC.lt
    go_wp2_with fail
    refine (K2.out _).mono ?_
    rintro e w6 ⟨rfl, hb⟩
    replace jX := jX.call hb
    replace jC := jC.call hb
    replace jT := jT.call hb
    replace jY := jY.call hb
    replace hA := hA.after hb
    clear hb
    clear p0 p1 p2 p3 p4 p5 p6 p7 zp q0 q1 q2 q3 q4 q5 q6 q7 zq
    have jZ := Blk.new w6 #[.int .i64 y.b0, .int .i64 y.b1, .int .i64 y.w0, .int .i64 y.w1, .int .i64 y.q0, .int .i64 y.q1, .int .i64 y.s0, .int .i64 y.s1] 28
    replace jX := jX.alloc (.cells #[.int .i64 y.b0, .int .i64 y.b1, .int .i64 y.w0, .int .i64 y.w1, .int .i64 y.q0, .int .i64 y.q1, .int .i64 y.s0, .int .i64 y.s1] 28)
    replace jC := jC.alloc (.cells #[.int .i64 y.b0, .int .i64 y.b1, .int .i64 y.w0, .int .i64 y.w1, .int .i64 y.q0, .int .i64 y.q1, .int .i64 y.s0, .int .i64 y.s1] 28)
    replace jT := jT.alloc (.cells #[.int .i64 y.b0, .int .i64 y.b1, .int .i64 y.w0, .int .i64 y.w1, .int .i64 y.q0, .int .i64 y.q1, .int .i64 y.s0, .int .i64 y.s1] 28)
    replace jY := jY.alloc (.cells #[.int .i64 y.b0, .int .i64 y.b1, .int .i64 y.w0, .int .i64 y.w1, .int .i64 y.q0, .int .i64 y.q1, .int .i64 y.s0, .int .i64 y.s1] 28)
    replace hA := hA.new (.cells #[.int .i64 y.b0, .int .i64 y.b1, .int .i64 y.w0, .int .i64 y.w1, .int .i64 y.q0, .int .i64 y.q1, .int .i64 y.s0, .int .i64 y.s1] 28)
    obtain ⟨p0, p1, p2, p3, p4, p5, p6, p7⟩ := jY.c8
    have zp := jY.lt
    obtain ⟨q0, q1, q2, q3, q4, q5, q6, q7⟩ := jC.c8
    have zq := jC.lt
    go_wp2_with fail
    refine (K3.out _).mono ?_
    rintro e w7 ⟨rfl, hb⟩
    replace jX := jX.call hb
    replace jC := jC.call hb
    replace jT := jT.call hb
    replace jY := jY.call hb
    replace jZ := jZ.call hb
    replace hA := hA.after hb
    clear hb
    clear p0 p1 p2 p3 p4 p5 p6 p7 zp q0 q1 q2 q3 q4 q5 q6 q7 zq
    have jG := Blk.new w7 #[.int .i64 y.b0, .int .i64 y.b1, .int .i64 y.w0, .int .i64 y.w1, .int .i64 y.q0, .int .i64 y.q1, .int .i64 y.s0, .int .i64 y.s1] 28
    replace jX := jX.alloc (.cells #[.int .i64 y.b0, .int .i64 y.b1, .int .i64 y.w0, .int .i64 y.w1, .int .i64 y.q0, .int .i64 y.q1, .int .i64 y.s0, .int .i64 y.s1] 28)
    replace jC := jC.alloc (.cells #[.int .i64 y.b0, .int .i64 y.b1, .int .i64 y.w0, .int .i64 y.w1, .int .i64 y.q0, .int .i64 y.q1, .int .i64 y.s0, .int .i64 y.s1] 28)
    replace jT := jT.alloc (.cells #[.int .i64 y.b0, .int .i64 y.b1, .int .i64 y.w0, .int .i64 y.w1, .int .i64 y.q0, .int .i64 y.q1, .int .i64 y.s0, .int .i64 y.s1] 28)
    replace jY := jY.alloc (.cells #[.int .i64 y.b0, .int .i64 y.b1, .int .i64 y.w0, .int .i64 y.w1, .int .i64 y.q0, .int .i64 y.q1, .int .i64 y.s0, .int .i64 y.s1] 28)
    replace jZ := jZ.alloc (.cells #[.int .i64 y.b0, .int .i64 y.b1, .int .i64 y.w0, .int .i64 y.w1, .int .i64 y.q0, .int .i64 y.q1, .int .i64 y.s0, .int .i64 y.s1] 28)
    replace hA := hA.new (.cells #[.int .i64 y.b0, .int .i64 y.b1, .int .i64 y.w0, .int .i64 y.w1, .int .i64 y.q0, .int .i64 y.q1, .int .i64 y.s0, .int .i64 y.s1] 28)
    obtain ⟨p0, p1, p2, p3, p4, p5, p6, p7⟩ := jY.c8
    have zp := jY.lt
    obtain ⟨q0, q1, q2, q3, q4, q5, q6, q7⟩ := jZ.c8
    have zq := jZ.lt
    obtain ⟨r0, r1, r2, r3, r4, r5, r6, r7⟩ := jG.c8
    have zr := jG.lt
    obtain ⟨s0, s1, s2, s3, s4, s5, s6, s7⟩ := jX.c8
    have zs := jX.lt
    go_wp2_with fail
    refine (K4.out _).mono ?_
    rintro e w8 ⟨rfl, hb⟩
    replace jX := jX.call hb
    replace jC := jC.call hb
    replace jT := jT.call hb
    replace jY := jY.call hb
    replace jZ := jZ.call hb
    replace jG := jG.call hb
    replace hA := hA.after hb
    clear hb
    clear p0 p1 p2 p3 p4 p5 p6 p7 zp q0 q1 q2 q3 q4 q5 q6 q7 zq r0 r1 r2 r3 r4 r5 r6 r7 zr s0 s1 s2 s3 s4 s5 s6 s7 zs
    obtain ⟨p0, p1, p2, p3, p4, p5, p6, p7⟩ := jY.c8
    have zp := jY.lt
    obtain ⟨q0, q1, q2, q3, q4, q5, q6, q7⟩ := jC.c8
    have zq := jC.lt
    go_wp2_with fail
    refine (K5.out _).mono ?_
    rintro e w9 ⟨rfl, hb⟩
    replace jX := jX.call hb
    replace jC := jC.call hb
    replace jT := jT.call hb
    replace jY := jY.call hb
    replace jZ := jZ.call hb
    replace jG := jG.call hb
    replace hA := hA.after hb
    clear hb
    clear p0 p1 p2 p3 p4 p5 p6 p7 zp q0 q1 q2 q3 q4 q5 q6 q7 zq
    obtain ⟨p0, p1, p2, p3, p4, p5, p6, p7⟩ := jY.c8
    have zp := jY.lt
    obtain ⟨q0, q1, q2, q3⟩ := jT.c4
    have zq := jT.lt
    go_wp2_with fail
    refine (K6.out _).mono ?_
    rintro e w10 ⟨rfl, hb⟩
    replace jX := jX.call hb
    replace jC := jC.call hb
    replace jT := jT.call hb
    replace jY := jY.call hb
    replace jZ := jZ.call hb
    replace jG := jG.call hb
    replace hA := hA.after hb
    clear hb
    clear p0 p1 p2 p3 p4 p5 p6 p7 zp q0 q1 q2 q3 zq
    go_wp2_with fail
    refine (awake_any _).mono ?_
    rintro e w11 ⟨rfl, hb⟩
    replace hA := hA.after hb
    go_wp2
    go_ret
    exact ⟨rfl, Drawn.below HB.out.2 hA hle⟩
end Go.Proofs.Ytkldjaofgdklbaa
