/-
  Does the last day leave no water: the test that frost.Flood makes, which writes its water into a captured day.
  More water never leaves less of it: the greatest water that leaves none. Speaks of no program.
-/
import Derived.Test.YtdbiijldincoiaaGreatTail
import Derived.Test.YtdbiijldincoiaaGreatLast
import Derived.Test.YtdbiijldincoiaaGreatRef11
import Derived.Test.YtdbiijldincoiaaGreatBig
set_option linter.unusedVariables false
set_option linter.unusedSimpArgs false
namespace Go.Proofs.YtdbiijldincoiaaGreat
open Go.RowKit

@[go_sem] theorem Tryz.field_iceWet (w : World) (b0 b1 w0 w1 q0 q1 s0 s1 : Int) : (Instr.field 28 (.agg #[.int .i64 b0, .int .i64 b1, .int .i64 w0, .int .i64 w1, .int .i64 q0, .int .i64 q1, .int .i64 s0, .int .i64 s1]) 2).run Tryz.prog w = .ok (.agg #[.int .i64 q0, .int .i64 q1]) w := by kernel_rfl
@[go_sem] theorem Tryz.field_spanHi (w : World) (a b : Int) : (Instr.field 24 (.agg #[.int .i64 a, .int .i64 b]) 1).run Tryz.prog w = .ok (.int .i64 b) w := by kernel_rfl

def wet (d : Nat → Dy) (k : Nat) (water : Int) : Nat → Dy := updD d k ⟨(d k).c0, (d k).c1, (d k).f0, (d k).f1, water, (d k).cl⟩
theorem wet_at (d : Nat → Dy) (k : Nat) (water : Int) : wet d k water k = ⟨(d k).c0, (d k).c1, (d k).f0, (d k).f1, water, (d k).cl⟩ := if_pos rfl
theorem wet_ne (d : Nat → Dy) {k i : Nat} (h : i ≠ k) (water : Int) : wet d k water i = d i := if_neg h
theorem wet_ok {d : Nat → Dy} {n k : Nat} {water : Int} (hd : ∀ i, i < n → (d i).Ok) (h0 : 0 ≤ water) (h1 : water ≤ 200) : ∀ i, i < n → (wet d k water i).Ok := by
  intro i hi
  by_cases e : i = k
  · subst e
    rw [wet_at]
    obtain ⟨a1, a2, a3, a4, a5, a6, a7, a8⟩ := hd i hi
    exact ⟨a1, a2, a3, a4, a5, a6, h0, h1⟩
  · rw [wet_ne d e]
    exact hd i hi
theorem iceAt_congr (l : Lw) {d e : Nat → Dy} (x : Ic) : ∀ k, (∀ i, i < k → d i = e i) → iceAt l d x k = iceAt l e x k
  | 0, _ => rfl
  | k + 1, h => by
    show stepI l (iceAt l d x k) (d k) = stepI l (iceAt l e x k) (e k)
    rw [iceAt_congr l x k (fun i hi => h i (by omega)), h k (by omega)]
theorem wet_ice (l : Lw) (d : Nat → Dy) (x : Ic) (j n : Nat) (water : Int) (h : j < n) :
    iceAt l (fun i => d (j + 1 + i)) (stepI l (iceAt l d x j) ⟨(d j).c0, (d j).c1, (d j).f0, (d j).f1, water, (d j).cl⟩) (n - (j + 1)) = iceAt l (wet d j water) x n := by
  rw [← wet_at, iceAt_congr l (d := d) (e := wet d j water) x j (fun i hi => (wet_ne d (by omega) water).symm)]
  rw [show (fun i => d (j + 1 + i)) = (fun i => wet d j water (j + 1 + i)) from funext fun i => (wet_ne d (by omega) water).symm]
  have q := iceAt_part l (wet d j water) x (j + 1) (n - (j + 1))
  rw [show j + 1 + (n - (j + 1)) = n by omega] at q
  exact q

theorem last_kit (l : Lw) (v : Value) (z : Ic) (vd : Value) (m : Nat) (d : Nat → Dy) (w : World) (hl : l.Ok) (hv : CovAt w v l.n l.D l.P0 l.P1) (hz : ∀ k, k < m → (iceAt l d z k).In 400000000) (hd : DaysAt w vd m d) (hk : ∀ i, i < m → (d i).Ok) (hw : 0 < w.heap.size) :
    Calls Tryz.prog 53 #[.agg #[.int .i64 l.gr, .int .i64 l.la, v, .int .i64 l.m0, .int .i64 l.m1, .int .i64 l.so, .int .i64 l.h0, .int .i64 l.h1], .agg #[.int .i64 z.b0, .int .i64 z.b1, .int .i64 z.w0, .int .i64 z.w1, .int .i64 z.q0, .int .i64 z.q1, .int .i64 z.s0, .int .i64 z.s1], vd] w
      fun e w' => e = .returned (.agg #[.int .i64 (iceAt l d z m).b0, .int .i64 (iceAt l d z m).b1, .int .i64 (iceAt l d z m).w0, .int .i64 (iceAt l d z m).w1, .int .i64 (iceAt l d z m).q0, .int .i64 (iceAt l d z m).q1, .int .i64 (iceAt l d z m).s0, .int .i64 (iceAt l d z m).s1]) ∧ Below w.heap.size w w' := by
  have hS : ∀ k W, k < m → Below w.heap.size w W → Calls Tryz.prog 55 #[.agg #[.int .i64 l.gr, .int .i64 l.la, v, .int .i64 l.m0, .int .i64 l.m1, .int .i64 l.so, .int .i64 l.h0, .int .i64 l.h1], .agg #[.int .i64 (iceAt l d z k).b0, .int .i64 (iceAt l d z k).b1, .int .i64 (iceAt l d z k).w0, .int .i64 (iceAt l d z k).w1, .int .i64 (iceAt l d z k).q0, .int .i64 (iceAt l d z k).q1, .int .i64 (iceAt l d z k).s0, .int .i64 (iceAt l d z k).s1], .agg #[.int .i64 (d k).c0, .int .i64 (d k).c1, .int .i64 (d k).f0, .int .i64 (d k).f1, .int .i64 (d k).wa, .bool (d k).cl]] W
      fun e w' => e = .returned (.agg #[.int .i64 (iceAt l d z (k + 1)).b0, .int .i64 (iceAt l d z (k + 1)).b1, .int .i64 (iceAt l d z (k + 1)).w0, .int .i64 (iceAt l d z (k + 1)).w1, .int .i64 (iceAt l d z (k + 1)).q0, .int .i64 (iceAt l d z (k + 1)).q1, .int .i64 (iceAt l d z (k + 1)).s0, .int .i64 (iceAt l d z (k + 1)).s1]) ∧ Below W.heap.size W w' := fun k W h hW => by
    obtain ⟨va, cap, rfl, z1, z2, z3⟩ := hv
    exact step_any l (iceAt l d z k) (d k) va cap W (CovAt.later ⟨va, cap, rfl, z1, z2, z3⟩ hW) hl (hz k h) (hk k h) _ rfl
  obtain ⟨va, cap, rfl, z1, z2, z3⟩ := hv
  obtain ⟨a, dcap, rfl, y1, y2, y3⟩ := hd
  by_cases h0 : 0 < m
  · obtain ⟨b, o, rfl, hc⟩ := y3 h0
    exact last_ok (some ⟨b, o, none⟩) b o dcap l.gr l.la va l.n cap l.m0 l.m1 l.so l.h0 l.h1 d (iceAt l d z) w m (by omega) (fun _ => rfl) (World.block_lt_of_cell? _ _ (hc 0 h0).1) hc hS
  · exact last_ok a 0 0 dcap l.gr l.la va l.n cap l.m0 l.m1 l.so l.h0 l.h1 d (iceAt l d z) w m (by omega) (fun h => absurd h h0) hw (fun i hi => by omega) hS

structure FlAt (w0 : World) (l : Lw) (va : Option Addr) (vcap : Nat) (da : Option Addr) (n dcap : Nat) (j : Nat) (z : Ic) (c0 c1 f0 f1 : Int) (cl : Bool) (bL bB bD bV bA : Nat) (W : World) : Prop where
  old : Below w0.heap.size w0 W
  law : Blk W bL #[.int .i64 l.gr, .int .i64 l.la, .slice va l.n vcap, .int .i64 l.m0, .int .i64 l.m1, .int .i64 l.so, .int .i64 l.h0, .int .i64 l.h1] 26
  ice : Blk W bB #[.int .i64 z.b0, .int .i64 z.b1, .int .i64 z.w0, .int .i64 z.w1, .int .i64 z.q0, .int .i64 z.q1, .int .i64 z.s0, .int .i64 z.s1] 28
  day : ∃ wa, Blk W bD #[.int .i64 c0, .int .i64 c1, .int .i64 f0, .int .i64 f1, .int .i64 wa, .bool cl] 58
  days : Blk W bV #[.slice da n dcap] 29
  at_ : Blk W bA #[.int .i64 ((j : Int) + 1)] 3

set_option maxRecDepth 100000 in
set_option maxHeartbeats 8000000 in
theorem dries_in (w0 : World) (l : Lw) (va : Option Addr) (vcap : Nat) (da : Option Addr) (n dcap : Nat) (d : Nat → Dy) (x : Ic) (j : Nat) (bL bB bD bV bA : Nat) (hl : l.Ok) (hv : CovAt w0 (.slice va l.n vcap) l.n l.D l.P0 l.P1) (hx : x.Val) (hd : DaysAt w0 (.slice da n dcap) n d) (hn : n ≤ 400) (hj : j < n) (hk : ∀ i, i < n → (d i).Ok)
    (z1 : w0.heap.size ≤ bD) (z2 : bL ≠ bD) (z3 : bB ≠ bD) (z4 : bV ≠ bD) (z5 : bA ≠ bD) (water : Int) (g0 : 0 ≤ water) (g1 : water ≤ 200) (W : World)
    (h : FlAt w0 l va vcap da n dcap j (iceAt l d x j) (d j).c0 (d j).c1 (d j).f0 (d j).f1 (d j).cl bL bB bD bV bA W) :
    Calls Tryz.prog 54 #[.int .i64 water, .pointer (some ⟨bD, 0, none⟩), .pointer (some ⟨bL, 0, none⟩), .pointer (some ⟨bB, 0, none⟩), .pointer (some ⟨bV, 0, none⟩), .pointer (some ⟨bA, 0, none⟩)] W
      fun e w' => e = .returned (.bool ((iceAt l (wet d j water) x n).q1 == 0)) ∧ FlAt w0 l va vcap da n dcap j (iceAt l d x j) (d j).c0 (d j).c1 (d j).f0 (d j).f1 (d j).cl bL bB bD bV bA w' ∧ (∀ (c : Nat) (C : Array Value) (t : TypeId), c ≠ bD → Blk W c C t → Blk w' c C t) := by
  obtain ⟨hold, hL, hB, ⟨wa, hD⟩, hV, hA⟩ := h
  have hwk := wet_ok (k := j) hk g0 g1
  have hIn := fun k (hk1 : k ≤ n) => (iceAt_bd (j := 0) hl hx.bd n hwk k hk1 (by omega)).in (by omega) (by omega)
  have hIn0 := (iceAt_bd (j := 0) hl hx.bd n hk j (by omega) (by omega)).in (by omega) (by omega)
  have hw := wet_ice l d x j n water hj
  have hq : ∀ k, k < n - (j + 1) → (iceAt l (fun i => d (j + 1 + i)) (stepI l (iceAt l d x j) ⟨(d j).c0, (d j).c1, (d j).f0, (d j).f1, water, (d j).cl⟩) k).In 400000000 := fun k hk1 => by
    have q := wet_ice l d x j (j + 1 + k) water (by omega)
    rw [show j + 1 + k - (j + 1) = k by omega] at q
    rw [q]
    exact hIn (j + 1 + k) (by omega)
  have hdk : Dy.Ok ⟨(d j).c0, (d j).c1, (d j).f0, (d j).f1, water, (d j).cl⟩ := by
    have q := hwk j hj
    rw [wet_at] at q
    exact q
  obtain ⟨aU, cU, hU⟩ : ∃ q c, sliced da (j + 1) n dcap 6 = .slice q (n - (j + 1)) c := ⟨_, _, rfl⟩
  have S2 : ∀ W, (Instr.slice 29 (.slice da n dcap) (some (.int .i64 ((j : Int) + 1))) none none).run Tryz.prog W = .ok (.slice aU (n - (j + 1)) cU) W := fun W => by
    have q := slice_day2 da n dcap (j + 1) (by omega) W
    rw [hU] at q
    exact q
  have HT := Lib.hid (show ∀ V, Below w0.heap.size w0 V → Calls Tryz.prog 53 #[.agg #[.int .i64 l.gr, .int .i64 l.la, (.slice va l.n vcap), .int .i64 l.m0, .int .i64 l.m1, .int .i64 l.so, .int .i64 l.h0, .int .i64 l.h1], .agg #[.int .i64 (stepI l (iceAt l d x j) ⟨(d j).c0, (d j).c1, (d j).f0, (d j).f1, water, (d j).cl⟩).b0, .int .i64 (stepI l (iceAt l d x j) ⟨(d j).c0, (d j).c1, (d j).f0, (d j).f1, water, (d j).cl⟩).b1, .int .i64 (stepI l (iceAt l d x j) ⟨(d j).c0, (d j).c1, (d j).f0, (d j).f1, water, (d j).cl⟩).w0, .int .i64 (stepI l (iceAt l d x j) ⟨(d j).c0, (d j).c1, (d j).f0, (d j).f1, water, (d j).cl⟩).w1, .int .i64 (stepI l (iceAt l d x j) ⟨(d j).c0, (d j).c1, (d j).f0, (d j).f1, water, (d j).cl⟩).q0, .int .i64 (stepI l (iceAt l d x j) ⟨(d j).c0, (d j).c1, (d j).f0, (d j).f1, water, (d j).cl⟩).q1, .int .i64 (stepI l (iceAt l d x j) ⟨(d j).c0, (d j).c1, (d j).f0, (d j).f1, water, (d j).cl⟩).s0, .int .i64 (stepI l (iceAt l d x j) ⟨(d j).c0, (d j).c1, (d j).f0, (d j).f1, water, (d j).cl⟩).s1], .slice aU (n - (j + 1)) cU] V
      fun e w' => ∃ y : Ic, y = iceAt l (wet d j water) x n ∧ e = .returned (.agg #[.int .i64 y.b0, .int .i64 y.b1, .int .i64 y.w0, .int .i64 y.w1, .int .i64 y.q0, .int .i64 y.q1, .int .i64 y.s0, .int .i64 y.s1]) ∧ Below V.heap.size V w' from fun V hV => by
    have kDu : DaysAt V (.slice aU (n - (j + 1)) cU) (n - (j + 1)) (fun i => d (j + 1 + i)) := by
      have q := (hd.later hV).sl (j + 1) n (by omega) (Nat.le_refl _)
      rw [hU] at q
      exact q
    have hb : 0 < V.heap.size := by
      obtain ⟨a, cap, hv', _, _, h3⟩ := hd
      obtain ⟨b, o, _, hc⟩ := h3 (by omega)
      have q := World.block_lt_of_cell? _ _ (hc 0 (by omega)).1
      have := hV.size
      omega
    refine (last_kit l (.slice va l.n vcap) _ (.slice aU (n - (j + 1)) cU) (n - (j + 1)) (fun i => d (j + 1 + i)) V hl (hv.later hV) hq kDu (fun i hi => hk _ (by omega)) hb).mono ?_
    rintro e w' ⟨rfl, hb⟩
    exact ⟨_, rfl, by rw [hw], hb⟩)
  have HSt := Lib.hid (show ∀ V, Below w0.heap.size w0 V → Calls Tryz.prog 55 #[.agg #[.int .i64 l.gr, .int .i64 l.la, (.slice va l.n vcap), .int .i64 l.m0, .int .i64 l.m1, .int .i64 l.so, .int .i64 l.h0, .int .i64 l.h1], .agg #[.int .i64 (iceAt l d x j).b0, .int .i64 (iceAt l d x j).b1, .int .i64 (iceAt l d x j).w0, .int .i64 (iceAt l d x j).w1, .int .i64 (iceAt l d x j).q0, .int .i64 (iceAt l d x j).q1, .int .i64 (iceAt l d x j).s0, .int .i64 (iceAt l d x j).s1], .agg #[.int .i64 (d j).c0, .int .i64 (d j).c1, .int .i64 (d j).f0, .int .i64 (d j).f1, .int .i64 water, .bool (d j).cl]] V
      fun e w' => ∃ y : Ic, y = stepI l (iceAt l d x j) ⟨(d j).c0, (d j).c1, (d j).f0, (d j).f1, water, (d j).cl⟩ ∧ e = .returned (.agg #[.int .i64 y.b0, .int .i64 y.b1, .int .i64 y.w0, .int .i64 y.w1, .int .i64 y.q0, .int .i64 y.q1, .int .i64 y.s0, .int .i64 y.s1]) ∧ Below V.heap.size V w' from fun V hV =>
    (step_any l (iceAt l d x j) ⟨(d j).c0, (d j).c1, (d j).f0, (d j).f1, water, (d j).cl⟩ va vcap V (hv.later hV) hl hIn0 hdk _ rfl).mono fun e w' ⟨he, hb⟩ => ⟨_, rfl, he, hb⟩)
  clear hwk hIn hIn0 hw hq hdk hU hv hd hk hx
  generalize iceAt l (wet d j water) x n = yN at HT ⊢
  generalize stepI l (iceAt l d x j) ⟨(d j).c0, (d j).c1, (d j).f0, (d j).f1, water, (d j).cl⟩ = yS at HT HSt
  generalize iceAt l d x j = z at HSt hB ⊢
  generalize (d j).c0 = c0 at HSt hD ⊢
  generalize (d j).c1 = c1 at HSt hD ⊢
  generalize (d j).f0 = f0 at HSt hD ⊢
  generalize (d j).f1 = f1 at HSt hD ⊢
  generalize (d j).cl = cl at HSt hD ⊢
  obtain ⟨q0, q1, q2, q3, q4, q5⟩ := hD.c6
  have zD := hD.lt
  have fr4 := hD.free 4
  go_enter Tryz.func54, Tryz.ntmps54
  go_upto_region 2 with fail
  have hold2 := hold.setCell (p := ⟨bD, 4, none⟩) z1 (.int .i64 water)
  replace hL := hL.other ⟨bD, 4, none⟩ (.int .i64 water) z2
  replace hB := hB.other ⟨bD, 4, none⟩ (.int .i64 water) z3
  replace hV := hV.other ⟨bD, 4, none⟩ (.int .i64 water) z4
  replace hA := hA.other ⟨bD, 4, none⟩ (.int .i64 water) z5
  replace hD : Blk _ bD #[.int .i64 c0, .int .i64 c1, .int .i64 f0, .int .i64 f1, .int .i64 water, .bool cl] _ := hD.set 4 (.int .i64 water)
  clear q0 q1 q2 q3 q4 q5 zD fr4 hold
  have hO : ∀ (c : Nat) (C : Array Value) (t : TypeId), c ≠ bD → Blk W c C t → Blk (W.setCell ⟨bD, 4, none⟩ (.int .i64 water)) c C t := fun c C t hc h => h.other ⟨bD, 4, none⟩ (.int .i64 water) hc
  generalize W.setCell ⟨bD, 4, none⟩ (.int .i64 water) = V at hold2 hL hB hV hA hD hO ⊢
  have HOt := Lib.hid hO
  clear hO
  have HO := Lib.hid hold2
  have zV := hold2.size
  clear hold2
  refine wp_region_held_drew (S := (fun w' => Below V.heap.size V w')) (by kernel_rfl) ?_ (fun hH => ?_)
  · (try dsimp only); (exact (Below.refl _ _).drew)
  refine tkY 0 (some 10) ?_ ?_ ?_
  rotate_left
  · intro w hS0; (try dsimp only at hS0); have kl := hL.call hS0; have ki := hB.call hS0; have kd := hD.call hS0; have kv := hV.call hS0; have ka := hA.call hS0; obtain ⟨l0, l1, l2, l3, l4, l5, l6, l7⟩ := kl.c8; obtain ⟨i0, i1, i2, i3, i4, i5, i6, i7⟩ := ki.c8; obtain ⟨q0, q1, q2, q3, q4, q5⟩ := kd.c6; have v0 := kv.cell1; have a0 := ka.cell1; have y1 := kl.lt; have y2 := ki.lt; have y3 := kd.lt; have y4 := kv.lt; have y5 := ka.lt;go_simp; (try with_reducible rfl)
  (try simp only [cq])
  refine tkY 1 (some 11) ?_ ?_ ?_
  rotate_left
  · intro w hS0; (try dsimp only at hS0); have kl := hL.call hS0; have ki := hB.call hS0; have kd := hD.call hS0; have kv := hV.call hS0; have ka := hA.call hS0; obtain ⟨l0, l1, l2, l3, l4, l5, l6, l7⟩ := kl.c8; obtain ⟨i0, i1, i2, i3, i4, i5, i6, i7⟩ := ki.c8; obtain ⟨q0, q1, q2, q3, q4, q5⟩ := kd.c6; have v0 := kv.cell1; have a0 := ka.cell1; have y1 := kl.lt; have y2 := ki.lt; have y3 := kd.lt; have y4 := kv.lt; have y5 := ka.lt;go_simp; (try with_reducible rfl)
  (try simp only [cq])
  refine tkY 2 (some 12) ?_ ?_ ?_
  rotate_left
  · intro w hS0; (try dsimp only at hS0); have kl := hL.call hS0; have ki := hB.call hS0; have kd := hD.call hS0; have kv := hV.call hS0; have ka := hA.call hS0; obtain ⟨l0, l1, l2, l3, l4, l5, l6, l7⟩ := kl.c8; obtain ⟨i0, i1, i2, i3, i4, i5, i6, i7⟩ := ki.c8; obtain ⟨q0, q1, q2, q3, q4, q5⟩ := kd.c6; have v0 := kv.cell1; have a0 := ka.cell1; have y1 := kl.lt; have y2 := ki.lt; have y3 := kd.lt; have y4 := kv.lt; have y5 := ka.lt;go_simp; (try with_reducible rfl)
  (try simp only [cq])
  refine tkY 3 (some 13) ?_ ?_ ?_
  rotate_left
  · intro w hS0; (try dsimp only at hS0); have kl := hL.call hS0; have ki := hB.call hS0; have kd := hD.call hS0; have kv := hV.call hS0; have ka := hA.call hS0; obtain ⟨l0, l1, l2, l3, l4, l5, l6, l7⟩ := kl.c8; obtain ⟨i0, i1, i2, i3, i4, i5, i6, i7⟩ := ki.c8; obtain ⟨q0, q1, q2, q3, q4, q5⟩ := kd.c6; have v0 := kv.cell1; have a0 := ka.cell1; have y1 := kl.lt; have y2 := ki.lt; have y3 := kd.lt; have y4 := kv.lt; have y5 := ka.lt;go_simp; (try with_reducible rfl)
  (try simp only [cq])
  refine tkY 5 (some 15) ?_ ?_ ?_
  rotate_left
  · intro w hS0; (try dsimp only at hS0); have kl := hL.call hS0; have ki := hB.call hS0; have kd := hD.call hS0; have kv := hV.call hS0; have ka := hA.call hS0; obtain ⟨l0, l1, l2, l3, l4, l5, l6, l7⟩ := kl.c8; obtain ⟨i0, i1, i2, i3, i4, i5, i6, i7⟩ := ki.c8; obtain ⟨q0, q1, q2, q3, q4, q5⟩ := kd.c6; have v0 := kv.cell1; have a0 := ka.cell1; have y1 := kl.lt; have y2 := ki.lt; have y3 := kd.lt; have y4 := kv.lt; have y5 := ka.lt;go_simp; (try with_reducible rfl)
  (try simp only [cq])
  refine tkY 6 (some 16) ?_ ?_ ?_
  rotate_left
  · intro w hS0; (try dsimp only at hS0); have kl := hL.call hS0; have ki := hB.call hS0; have kd := hD.call hS0; have kv := hV.call hS0; have ka := hA.call hS0; obtain ⟨l0, l1, l2, l3, l4, l5, l6, l7⟩ := kl.c8; obtain ⟨i0, i1, i2, i3, i4, i5, i6, i7⟩ := ki.c8; obtain ⟨q0, q1, q2, q3, q4, q5⟩ := kd.c6; have v0 := kv.cell1; have a0 := ka.cell1; have y1 := kl.lt; have y2 := ki.lt; have y3 := kd.lt; have y4 := kv.lt; have y5 := ka.lt;go_simp; (try with_reducible rfl)
  (try simp only [cq])
  refine tkY 7 (some 17) ?_ ?_ ?_
  rotate_left
  · intro w hS0; (try dsimp only at hS0); have kl := hL.call hS0; have ki := hB.call hS0; have kd := hD.call hS0; have kv := hV.call hS0; have ka := hA.call hS0; obtain ⟨l0, l1, l2, l3, l4, l5, l6, l7⟩ := kl.c8; obtain ⟨i0, i1, i2, i3, i4, i5, i6, i7⟩ := ki.c8; obtain ⟨q0, q1, q2, q3, q4, q5⟩ := kd.c6; have v0 := kv.cell1; have a0 := ka.cell1; have y1 := kl.lt; have y2 := ki.lt; have y3 := kd.lt; have y4 := kv.lt; have y5 := ka.lt;go_simp; (try with_reducible rfl)
  (try simp only [cq])
  refine wpAnyH_ready (rs := [4]) (by kernel_rfl) (by simp) ?_
  refine arc1 (some 14) fun K hK => ?_
  go_simp
  (refine (HSt.out _ (HO.out.trans (hH.mono zV))).mono ?_; rintro e w' ⟨_, rfl, rfl, hb⟩)
  refine hK.out _ _ ?_ ?_
  · (exact bwS hH (Nat.le_refl _) hb)
  (try clear hH); (try clear hb)
  intro hH
  clear hK K
  (try simp only [cq])
  refine wpAnyH_ready (rs := [8]) (by kernel_rfl) (by simp) ?_
  refine arc1 (some 18) fun K hK => ?_
  go_simp
  (refine (HT.out _ (HO.out.trans (hH.mono zV))).mono ?_; rintro e w' ⟨_, rfl, rfl, hb⟩)
  refine hK.out _ _ ?_ ?_
  · (exact bwS hH (Nat.le_refl _) hb)
  (try clear hH); (try clear hb)
  intro hH
  clear hK K
  (try simp only [cq])
  refine tkY 9 (some 19) ?_ ?_ ?_
  rotate_left
  · intro w _; go_simp; (try with_reducible rfl)
  (try simp only [cq])
  refine tkY 10 (some 20) ?_ ?_ ?_
  rotate_left
  · intro w _; go_simp; (try with_reducible rfl)
  (try simp only [cq])
  refine tkY 11 (some 21) ?_ ?_ ?_
  rotate_left
  · intro w _; go_simp; (try with_reducible rfl)
  (try simp only [cq])
  refine tkY 12 (some 7) ?_ ?_ ?_
  rotate_left
  · intro w _; go_simp; (try with_reducible rfl)
  (try simp only [cq])
  refine wpAnyH_done (by kernel_rfl) ?_ _
  (try dsimp only [Act.put])
  (try simp only [cq])
  have HR := Lib.hid (FlAt.mk (w0 := w0) (l := l) (va := va) (vcap := vcap) (da := da) (n := n) (dcap := dcap) (j := j) (z := z) (c0 := c0) (c1 := c1) (f0 := f0) (f1 := f1) (cl := cl) (HO.out.trans (hH.mono zV)) (hL.call hH) (hB.call hH) ⟨_, hD.call hH⟩ (hV.call hH) (hA.call hH))
  have HO2 := Lib.hid (fun (c : Nat) (C : Array Value) (t : TypeId) hc h => (HOt.out c C t hc h).call hH)
  clear hH hL hB hD hV hA HOt
  go_wp2
  go_ret
  exact ⟨rfl, HR.out, HO2.out⟩
end Go.Proofs.YtdbiijldincoiaaGreat

namespace Go.Proofs.YtdbiijldincoiaaGreat
open Go.RowKit

def Qs (x y : Ic) : Prop := x.s1 = y.s1 ∧ x.q1 ≤ y.q1
theorem Qs.refl (x : Ic) : Qs x x := ⟨rfl, Int.le_refl _⟩
theorem Qs.cold {x y : Ic} (h : Qs x y) (l : Lw) (c0 c1 : Int) : Qs (coldI l x c0 c1) (coldI l y c0 c1) := by
  obtain ⟨hs, hq⟩ := h
  unfold Qs coldI
  dsimp only
  rw [hs]
  generalize gotL c0 (lastP l.D l.P0 y.s1 l.n) / l.la = g
  exact ⟨rfl, by omega⟩
theorem Qs.warm {x y : Ic} (h : Qs x y) (l : Lw) (f t : Int) : Qs (warmI l x f t) (warmI l y f t) := by
  obtain ⟨hs, hq⟩ := h
  unfold Qs warmI meltI
  dsimp only
  rw [hs]
  exact ⟨rfl, hq⟩
theorem Qs.join {x y z u : Ic} (h : Qs x y) (k : Qs z u) : Qs (joinI x z) (joinI y u) := by
  obtain ⟨h1, h2⟩ := h
  obtain ⟨k1, k2⟩ := k
  unfold Qs joinI
  dsimp only
  rw [h1, k1]
  exact ⟨rfl, by omega⟩
theorem Qs.after {x y : Ic} {l : Lw} {d e : Dy} (c0 : d.c0 = e.c0) (c1 : d.c1 = e.c1) (h : Qs (openI l x d) (openI l y e)) : Qs (stepI l x d) (stepI l y e) := by
  unfold stepI
  rw [c0, c1]
  by_cases h0 : 0 ≤ e.c0
  · rw [if_pos h0, if_pos h0]
    exact h.cold l _ _
  · rw [if_neg h0, if_neg h0]
    by_cases h1 : e.c1 < 0
    · rw [if_pos h1, if_pos h1]
      exact h.warm l _ _
    · rw [if_neg h1, if_neg h1]
      exact (h.cold l _ _).join (h.warm l _ _)
theorem Qs.step {x y : Ic} (h : Qs x y) (l : Lw) (d : Dy) : Qs (stepI l x d) (stepI l y d) := by
  refine Qs.after rfl rfl ?_
  obtain ⟨hs, hq⟩ := h
  unfold Qs openI wetP
  dsimp only
  rw [hs]
  exact ⟨rfl, by split <;> omega⟩
theorem Qs.days {x y : Ic} (h : Qs x y) (l : Lw) (d : Nat → Dy) : ∀ k, Qs (iceAt l d x k) (iceAt l d y k)
  | 0 => h
  | k + 1 => (Qs.days h l d k).step l (d k)
theorem more_wet (l : Lw) (d : Nat → Dy) (x : Ic) {j n : Nat} (hj : j < n) {a b : Int} (ha : 1 ≤ a) (hab : a ≤ b) : (iceAt l (wet d j a) x n).q1 ≤ (iceAt l (wet d j b) x n).q1 := by
  rw [← wet_ice l d x j n a hj, ← wet_ice l d x j n b hj]
  have h : Qs (stepI l (iceAt l d x j) ⟨(d j).c0, (d j).c1, (d j).f0, (d j).f1, a, (d j).cl⟩) (stepI l (iceAt l d x j) ⟨(d j).c0, (d j).c1, (d j).f0, (d j).f1, b, (d j).cl⟩) := by
    refine Qs.after rfl rfl ?_
    unfold Qs openI wetP leftP
    dsimp only
    rw [if_pos (show 0 < a by omega), if_pos (show 0 < b by omega), if_pos (show 0 < a by omega), if_pos (show 0 < b by omega)]
    exact ⟨rfl, by omega⟩
  exact (h.days l (fun i => d (j + 1 + i)) (n - (j + 1))).2
def gstV (f : Nat → Bool) : Nat → Int
  | 0 => if f 0 then 0 else -1
  | k + 1 => if f (k + 1) then ((k + 1 : Nat) : Int) else gstV f k
theorem gst_skip {f : Nat → Bool} {q : Nat} : ∀ m, q ≤ m → (∀ j, q < j → j ≤ m → f j = false) → gstV f m = gstV f q
  | 0, h, _ => by rw [show q = 0 by omega]
  | m + 1, h, hf => by
    by_cases e : q = m + 1
    · rw [e]
    · rw [gstV, hf (m + 1) (by omega) (Nat.le_refl _)]
      exact gst_skip m (by omega) (fun j h1 h2 => hf j h1 (by omega))
theorem gst_of {f : Nat → Bool} {m : Nat} (anti : ∀ a b, 1 ≤ a → a ≤ b → b ≤ m → f b = true → f a = true) {k : Int}
    (h : (k = -1 ∧ f 0 = false ∧ (0 < m → f 1 = false)) ∨ ∃ q : Nat, k = q ∧ q ≤ m ∧ f q = true ∧ (q < m → f (q + 1) = false)) : gstV f m = k := by
  rcases h with ⟨rfl, h0, h1⟩ | ⟨q, rfl, hq, h0, h1⟩
  · rw [gst_skip (q := 0) m (by omega) (fun j a b => by
      cases e : f j with
      | false => rfl
      | true => have := anti 1 j (by omega) (by omega) b e; rw [h1 (by omega)] at this; exact absurd this (by decide)), gstV, h0]
    rfl
  · rw [gst_skip (q := q) m hq (fun j a b => by
      cases e : f j with
      | false => rfl
      | true => have := anti (q + 1) j (by omega) (by omega) b e; rw [h1 (by omega)] at this; exact absurd this (by decide))]
    cases q with
    | zero => rw [gstV, h0]; rfl
    | succ q => rw [gstV, h0]; rfl
end Go.Proofs.YtdbiijldincoiaaGreat
