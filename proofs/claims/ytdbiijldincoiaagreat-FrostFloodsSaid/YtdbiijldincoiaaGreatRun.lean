/-
  What is known after each day: the contract of frost.Run where all is valid.
-/
import Derived.Test.YtdbiijldincoiaaGreatTail
import Derived.RangeFuncBox
import Derived.Test.YtdbiijldincoiaaGreatIter
import Derived.Test.YtdbiijldincoiaaGreatRange
set_option linter.unusedVariables false
set_option linter.unusedSimpArgs false
namespace Go.Proofs.YtdbiijldincoiaaGreat
open Go.RowKit Go.Shelf
attribute [local go_sem] Oper.semAt_some

theorem Tryz.infoIce : (Tryz.prog.info? 28).map (fun i => (i.zero, i.size, i.bytes)) = some (some (.agg #[.int .i64 0, .int .i64 0, .int .i64 0, .int .i64 0, .int .i64 0, .int .i64 0, .int .i64 0, .int .i64 0]), 8, 64) := by kernel_rfl

def ic8 (y : Ic) : List Value := [.int .i64 y.b0, .int .i64 y.b1, .int .i64 y.w0, .int .i64 y.w1, .int .i64 y.q0, .int .i64 y.q1, .int .i64 y.s0, .int .i64 y.s1]
def rowsC (x : Nat → Ic) : Nat → List Value
  | 0 => []
  | k + 1 => rowsC x k ++ ic8 (x (k + 1))

theorem news8 (W : World) (y : Ic) : ∀ (j : Nat) (u : Value), (ic8 y)[j]? = some u → (W.alloc (.cells #[.int .i64 y.b0, .int .i64 y.b1, .int .i64 y.w0, .int .i64 y.w1, .int .i64 y.q0, .int .i64 y.q1, .int .i64 y.s0, .int .i64 y.s1] 28)).cell? ((⟨W.heap.size, 0, none⟩ : Addr).add j) = some u := by
  intro j u h
  have hk := Blk.new W #[.int .i64 y.b0, .int .i64 y.b1, .int .i64 y.w0, .int .i64 y.w1, .int .i64 y.q0, .int .i64 y.q1, .int .i64 y.s0, .int .i64 y.s1] 28
  have e : (⟨W.heap.size, 0, none⟩ : Addr).add j = ⟨W.heap.size, j, none⟩ := by simp [Addr.add]; intro hj; exact hj.symm
  rw [e]
  exact hk.cell j (by simpa [ic8] using h)
theorem one8 (y : Ic) : ∀ u ∈ ic8 y, u.oneCell' = true := by
  intro u h
  simp only [ic8, List.mem_cons, List.not_mem_nil, or_false] at h
  rcases h with rfl | rfl | rfl | rfl | rfl | rfl | rfl | rfl <;> rfl

theorem after_any (gr la : Int) (va : Option Addr) (nc vcap : Nat) (m0 m1 so h0 h1 : Int) (b0 b1 w0 w1 q0 q1 s0 s1 : Int) (a : Option Addr) (m cap : Nat) (w : World) :
    Calls Tryz.prog 37 #[.agg #[.int .i64 gr, .int .i64 la, (.slice va nc vcap), .int .i64 m0, .int .i64 m1, .int .i64 so, .int .i64 h0, .int .i64 h1], .agg #[.int .i64 b0, .int .i64 b1, .int .i64 w0, .int .i64 w1, .int .i64 q0, .int .i64 q1, .int .i64 s0, .int .i64 s1], .slice a m cap] w
      fun e w' => e = .returned (.func (.func 61) #[] #[.pointer (some ⟨w.heap.size + 1 + 1, 0, none⟩), .pointer (some ⟨w.heap.size, 0, none⟩), .pointer (some ⟨w.heap.size + 1, 0, none⟩)]) ∧
        ((w.alloc (.cells #[.int .i64 gr, .int .i64 la, .slice va nc vcap, .int .i64 m0, .int .i64 m1, .int .i64 so, .int .i64 h0, .int .i64 h1] 26)).alloc (.cells #[.int .i64 b0, .int .i64 b1, .int .i64 w0, .int .i64 w1, .int .i64 q0, .int .i64 q1, .int .i64 s0, .int .i64 s1] 28)).alloc (.cells #[.slice a m cap] 29) = w' := by
  go_enter Tryz.func37, Tryz.ntmps37
  go_wp2
  go_ret
  exact ⟨rfl, rfl⟩

theorem grown_of_below {w w' : World} (h : Below w.heap.size w w') : w.grownBy w' none := ⟨h.os, h.tape, h.output, h.size, fun k hk _ => h.block k hk⟩
theorem ownsRow_base {w : World} {b1 b2 : Nat} {e : TypeId} {size : Nat} {v : Value} {n : Nat} {xs : List Value} (h : w.ownsRow b2 e size v n xs) (hb : b1 ≤ b2) : w.ownsRow b1 e size v n xs := by
  obtain ⟨h1, h2⟩ := h
  rcases h2 with h2 | ⟨g, cap, cur, hv, hg, r⟩
  · exact ⟨h1, .inl h2⟩
  · exact ⟨h1, .inr ⟨g, cap, cur, hv, Nat.le_trans hb hg, r⟩⟩
theorem ItAt.below {w0 : World} {c s B : Nat} {LC : Array Value} {dv : Value} {x : Ic} {W W' : World} (h : ItAt w0 c s LC dv x W) (hb : Below B W W') (hB : s + 1 + 1 < B) : ItAt w0 c s LC dv x W' :=
  ⟨h.le, h.old.trans (hb.mono (by have := h.le; omega)), h.law.below hb (by omega), h.days.below hb (by omega), h.ice.below hb (by omega)⟩
theorem below_put {B : Nat} (W : World) (l : Nat) (o : Obj) (hl : B ≤ l) : Below B W (W.putObj l o) := ⟨rfl, rfl, rfl, by simp, fun k hk => World.putObj_heap_other (by omega)⟩

structure RunAt (B base l : Nat) (ll dl : Obj) (x : Nat → Ic) (k : Nat) (V : World) : Prop where
  row : ∃ v, Boxed V B 38 v ∧ V.ownsRow base 28 8 v k (rowsC x k)
  loop : V.heap[l]? = some ll
  dfr : V.heap[base]? = some dl

theorem RunAt.call {B base l : Nat} {ll dl : Obj} {x : Nat → Ic} {k : Nat} {V V' : World} (h : RunAt B base l ll dl x k V) (hb : Below V.heap.size V V') : RunAt B base l ll dl x k V' := by
  obtain ⟨⟨v, h1, h2⟩, h3, h4⟩ := h
  exact ⟨⟨v, (hb.block _ h1.lt).trans h1, h2.kept (grown_of_below hb) (by
    rcases h2.2 with ⟨rfl, _⟩ | ⟨g, cap, cur, rfl, _⟩
    · exact .inl rfl
    · exact .inr (by simp [Value.ownBlock]))⟩, (hb.block _ (Array.getElem?_eq_some_iff.1 h3).1).trans h3, (hb.block _ (Array.getElem?_eq_some_iff.1 h4).1).trans h4⟩

theorem RunAt.set {B base l : Nat} {ll dl : Obj} {x : Nat → Ic} {k : Nat} {V : World} (h : RunAt B base l ll dl x k V) (p : Addr) (u : Value) (hp : p.block < base) (hB : B ≠ p.block) (hl : l ≠ p.block) : RunAt B base l ll dl x k (V.setCell p u) := by
  obtain ⟨⟨v, h1, h2⟩, h3, h4⟩ := h
  exact ⟨⟨v, (Below.heap_setCell V p u B hB).trans h1, ownsRow_setCell_below h2 hp u⟩, (Below.heap_setCell V p u l hl).trans h3, (Below.heap_setCell V p u base (by omega)).trans h4⟩

set_option maxRecDepth 100000 in
set_option maxHeartbeats 2000000 in
theorem run_ok (a : Option Addr) (b o cap : Nat) (gr la : Int) (va : Option Addr) (nc vcap : Nat) (m0 m1 so h0 h1 : Int) (d : Nat → Dy) (x : Nat → Ic) (w : World) (m : Nat) (hm : m ≤ 400) (ha : 0 < m → a = some ⟨b, o, none⟩) (hb : b < w.heap.size)
    (hd : ∀ i, i < m → w.cell? ⟨b, o + i * 6, none⟩ = some (.int .i64 (d i).c0) ∧ w.cell? ⟨b, o + i * 6 + 1, none⟩ = some (.int .i64 (d i).c1) ∧ w.cell? ⟨b, o + i * 6 + 2, none⟩ = some (.int .i64 (d i).f0) ∧
      w.cell? ⟨b, o + i * 6 + 3, none⟩ = some (.int .i64 (d i).f1) ∧ w.cell? ⟨b, o + i * 6 + 4, none⟩ = some (.int .i64 (d i).wa) ∧ w.cell? ⟨b, o + i * 6 + 5, none⟩ = some (.bool (d i).cl))
    (hA : ∀ W, Below w.heap.size w W → Calls Tryz.prog 36 #[.agg #[.int .i64 gr, .int .i64 la, (.slice va nc vcap), .int .i64 m0, .int .i64 m1, .int .i64 so, .int .i64 h0, .int .i64 h1], .agg #[.int .i64 (x 0).b0, .int .i64 (x 0).b1, .int .i64 (x 0).w0, .int .i64 (x 0).w1, .int .i64 (x 0).q0, .int .i64 (x 0).q1, .int .i64 (x 0).s0, .int .i64 (x 0).s1], .slice a m cap] W fun e w' => e = .returned (.int .i64 0) ∧ Below W.heap.size W w')
    (hS : ∀ k W, k < m → Below w.heap.size w W → Calls Tryz.prog 55 #[.agg #[.int .i64 gr, .int .i64 la, (.slice va nc vcap), .int .i64 m0, .int .i64 m1, .int .i64 so, .int .i64 h0, .int .i64 h1], .agg #[.int .i64 (x k).b0, .int .i64 (x k).b1, .int .i64 (x k).w0, .int .i64 (x k).w1, .int .i64 (x k).q0, .int .i64 (x k).q1, .int .i64 (x k).s0, .int .i64 (x k).s1], .agg #[.int .i64 (d k).c0, .int .i64 (d k).c1, .int .i64 (d k).f0, .int .i64 (d k).f1, .int .i64 (d k).wa, .bool (d k).cl]] W
      fun e w' => e = .returned (.agg #[.int .i64 (x (k + 1)).b0, .int .i64 (x (k + 1)).b1, .int .i64 (x (k + 1)).w0, .int .i64 (x (k + 1)).w1, .int .i64 (x (k + 1)).q0, .int .i64 (x (k + 1)).q1, .int .i64 (x (k + 1)).s0, .int .i64 (x (k + 1)).s1]) ∧ Below W.heap.size W w') :
    Calls Tryz.prog 12 #[.agg #[.int .i64 gr, .int .i64 la, (.slice va nc vcap), .int .i64 m0, .int .i64 m1, .int .i64 so, .int .i64 h0, .int .i64 h1], .agg #[.int .i64 (x 0).b0, .int .i64 (x 0).b1, .int .i64 (x 0).w0, .int .i64 (x 0).w1, .int .i64 (x 0).q0, .int .i64 (x 0).q1, .int .i64 (x 0).s0, .int .i64 (x 0).s1], .slice a m cap] w
      fun e w' => ∃ v, e = .returned (.tuple #[v, .int .i64 0]) ∧ w'.ownsRow w.heap.size 28 8 v m (rowsC x m) ∧ Below w.heap.size w w' := by
  have HD := Lib.hid hd
  have HS := Lib.hid hS
  have HA := Lib.hid hA
  clear hd hS hA
  refine (callsIn_wide (n := 5)).1 ?_
  refine callsIn_of_wp_marks Tryz.func12 rfl trivial ?_ rfl
  simp only [Tryz.ntmps12, List.size_toArray, List.length_cons, List.length_nil, Nat.reduceAdd, Nat.reduceSub, Array.replicate_succ, Array.replicate_zero, List.push_toArray, List.append_toArray, List.nil_append, List.cons_append]
  gi_wp2_with fail
  refine ⟨trivial, ?_⟩
  refine (callsIn_wide.2 (HA.out _ ?_)).mono ?_
  · (repeat (first | exact Below.refl _ _ | assumption | refine Below.drew ?_ | refine Below.drewN ?_ _ | refine blT ?_ | refine blU ?_))
  rintro e w1 ⟨rfl, hb1⟩
  have jL := ((Blk.new w #[.int .i64 gr, .int .i64 la, .slice va nc vcap, .int .i64 m0, .int .i64 m1, .int .i64 so, .int .i64 h0, .int .i64 h1] 26).alloc _).call hb1
  have jI := (Blk.new1 w _ #[.int .i64 (x 0).b0, .int .i64 (x 0).b1, .int .i64 (x 0).w0, .int .i64 (x 0).w1, .int .i64 (x 0).q0, .int .i64 (x 0).q1, .int .i64 (x 0).s0, .int .i64 (x 0).s1] 28).call hb1
  have jB : Below w.heap.size w w1 := bwS (by (repeat (first | exact Below.refl _ _ | assumption | refine Below.drew ?_ | refine Below.drewN ?_ _ | refine blT ?_ | refine blU ?_))) (Nat.le_refl _) hb1
  clear hb1
  obtain ⟨l0, l1, l2, l3, l4, l5, l6, l7⟩ := jL.c8
  obtain ⟨i0, i1, i2, i3, i4, i5, i6, i7⟩ := jI.c8
  have zL := jL.lt
  have zI := jI.lt
  gi_wp2_with fail
  refine ⟨trivial, ?_⟩
  refine (callsIn_wide.2 (after_any _ _ _ _ _ _ _ _ _ _ _ _ _ _ _ _ _ _ _ _ _ _)).mono ?_
  rintro e w2 ⟨rfl, hw2⟩
  gi_wp2_with fail
  have hs2 : w2.heap.size = w1.heap.size + 1 + 1 + 1 + 1 := by rw [← hw2]; simp
  have gL := ((Blk.new1 w1 (.cells #[.slice none 0 0] 38) #[.int .i64 gr, .int .i64 la, .slice va nc vcap, .int .i64 m0, .int .i64 m1, .int .i64 so, .int .i64 h0, .int .i64 h1] 26).alloc (.cells #[.int .i64 (x 0).b0, .int .i64 (x 0).b1, .int .i64 (x 0).w0, .int .i64 (x 0).w1, .int .i64 (x 0).q0, .int .i64 (x 0).q1, .int .i64 (x 0).s0, .int .i64 (x 0).s1] 28)).alloc (.cells #[.slice a m cap] 29)
  have gX := (Blk.new2 w1 (.cells #[.slice none 0 0] 38) (.cells #[.int .i64 gr, .int .i64 la, .slice va nc vcap, .int .i64 m0, .int .i64 m1, .int .i64 so, .int .i64 h0, .int .i64 h1] 26) #[.int .i64 (x 0).b0, .int .i64 (x 0).b1, .int .i64 (x 0).w0, .int .i64 (x 0).w1, .int .i64 (x 0).q0, .int .i64 (x 0).q1, .int .i64 (x 0).s0, .int .i64 (x 0).s1] 28).alloc (.cells #[.slice a m cap] 29)
  have gD := Blk.new3 w1 (.cells #[.slice none 0 0] 38) (.cells #[.int .i64 gr, .int .i64 la, .slice va nc vcap, .int .i64 m0, .int .i64 m1, .int .i64 so, .int .i64 h0, .int .i64 h1] 26) (.cells #[.int .i64 (x 0).b0, .int .i64 (x 0).b1, .int .i64 (x 0).w0, .int .i64 (x 0).w1, .int .i64 (x 0).q0, .int .i64 (x 0).q1, .int .i64 (x 0).s0, .int .i64 (x 0).s1] 28) #[.slice a m cap] 29
  have gB : Boxed w2 w1.heap.size 38 (.slice none 0 0) := by rw [← hw2]; exact (((Boxed.new w1 38 (.slice none 0 0)).alloc _).alloc _).alloc _
  have gW : Below w.heap.size w w2 := by
    rw [← hw2]
    exact bwA (bwA (bwA (bwA jB (Nat.le_refl _) _) (Nat.le_refl _) _) (Nat.le_refl _) _) (Nat.le_refl _) _
  rw [hw2] at gL gX gD
  have zz : w.heap.size ≤ w1.heap.size := jB.size
  clear hw2 l0 l1 l2 l3 l4 l5 l6 l7 i0 i1 i2 i3 i4 i5 i6 i7 jL jI zL zI
  refine range_raw rfl (by omega) (gf := 61) (lb := #[.pointer (some ⟨w1.heap.size + 1 + 1 + 1, 0, none⟩), .pointer (some ⟨w1.heap.size + 1, 0, none⟩), .pointer (some ⟨w1.heap.size + 1 + 1, 0, none⟩)]) rfl trivial (enters_of Tryz.func61 (by kernel_rfl) rfl) (fun fn hfn rec hrec => ?_)
  have e1 : ((w2.alloc (.deferred (some []))).alloc (.loop (rec .ready none))).heap[w2.heap.size + 1]? = some (.loop (rec .ready none)) := by
    have := World.alloc_heap_new (w2.alloc (.deferred (some []))) (.loop (rec .ready none))
    simpa using this
  have e2 : ((w2.alloc (.deferred (some []))).alloc (.loop (rec .ready none))).heap[w2.heap.size]? = some (.deferred (some [])) := (Below.heap_alloc _ _ _ (by simp)).trans (World.alloc_heap_new w2 _)
  have e3 : Below w2.heap.size w2 ((w2.alloc (.deferred (some []))).alloc (.loop (rec .ready none))) := by (repeat (first | exact Below.refl _ _ | assumption | refine Below.drew ?_ | refine Below.drewN ?_ _ | refine blT ?_ | refine blU ?_))
  obtain ⟨W1, hW1⟩ : ∃ W, (w2.alloc (.deferred (some []))).alloc (.loop (rec .ready none)) = W := ⟨_, rfl⟩
  rw [hW1] at e1 e2 e3 ⊢
  clear hW1
  have hI0 : ItAt w2 w1.heap.size (w1.heap.size + 1) #[.int .i64 gr, .int .i64 la, .slice va nc vcap, .int .i64 m0, .int .i64 m1, .int .i64 so, .int .i64 h0, .int .i64 h1] (.slice a m cap) (x 0) W1 := ⟨by omega, e3.mono (by omega), gL.below e3 (by omega), gD.below e3 (by omega), gX.below e3 (by omega)⟩
  have hR0 : RunAt w1.heap.size w2.heap.size (w2.heap.size + 1) (.loop (rec .ready none)) (.deferred (some [])) x 0 W1 := ⟨⟨_, (e3.block _ (by omega)).trans gB, World.ownsRow_nil _ _ _ _⟩, e1, e2⟩
  refine (after1_in 4 (w2.heap.size + 1) w1.heap.size (w1.heap.size + 1) a b o cap gr la va nc vcap m0 m1 so h0 h1 d x w2 m (by omega) (by omega) ha ?hd ?hS (RunAt w1.heap.size w2.heap.size (w2.heap.size + 1) (.loop (rec .ready none)) (.deferred (some [])) x) ?hJb ?hJs ?hY W1 hR0 hI0).mono ?post
  case hd =>
    intro i hi
    obtain ⟨a0, a1, a2, a3, a4, a5⟩ := HD.out i hi
    have hcb : ∀ j, w2.cell? ⟨b, j, none⟩ = w.cell? ⟨b, j, none⟩ := fun j => gW.cell (p := ⟨b, j, none⟩) hb
    exact ⟨(hcb _).trans a0, (hcb _).trans a1, (hcb _).trans a2, (hcb _).trans a3, (hcb _).trans a4, (hcb _).trans a5⟩
  case hS =>
    intro k W hk hW
    exact HS.out k W hk (gW.trans (hW.mono (by omega)))
  case hJb => exact fun k W W' h hb => h.call hb
  case hJs => exact fun k W j v h => h.set _ _ (by simp; omega) (by simp; omega) (by simp; omega)
  case hY =>
    intro k V hk hJ hI
    refine round_raw (R := fun W' => RunAt w1.heap.size w2.heap.size (w2.heap.size + 1) (.loop (rec .ready none)) (.deferred (some [])) x (k + 1) W' ∧ ItAt w2 w1.heap.size (w1.heap.size + 1) #[.int .i64 gr, .int .i64 la, .slice va nc vcap, .int .i64 m0, .int .i64 m1, .int .i64 so, .int .i64 h0, .int .i64 h1] (.slice a m cap) (x (k + 1)) W') trivial hrec hJ.loop rfl ?_
    have z2 : w1.heap.size + 1 + 1 + 1 < w2.heap.size := by omega
    clear hs2 hrec HD HS HA e1 e2 e3 hI0 hR0 gL gX gD gB
    gi_wp2
    have g1 := (Below.heap_alloc V (.cells #[.int .i64 (x (k + 1)).b0, .int .i64 (x (k + 1)).b1, .int .i64 (x (k + 1)).w0, .int .i64 (x (k + 1)).w1, .int .i64 (x (k + 1)).q0, .int .i64 (x (k + 1)).q1, .int .i64 (x (k + 1)).s0, .int .i64 (x (k + 1)).s1] 28) _ (Array.getElem?_eq_some_iff.1 hJ.loop).1).trans hJ.loop
    refine ⟨g1, ?_⟩
    obtain ⟨⟨v, hv, hrow⟩, hl, hdf⟩ := hJ
    have hll : w2.heap.size + 1 < V.heap.size := (Array.getElem?_eq_some_iff.1 hl).1
    obtain ⟨C, hC⟩ : ∃ C : Obj, .cells #[.int .i64 (x (k + 1)).b0, .int .i64 (x (k + 1)).b1, .int .i64 (x (k + 1)).w0, .int .i64 (x (k + 1)).w1, .int .i64 (x (k + 1)).q0, .int .i64 (x (k + 1)).q1, .int .i64 (x (k + 1)).s0, .int .i64 (x (k + 1)).s1] 28 = C := ⟨_, rfl⟩
    have bV : Below w2.heap.size V ((V.alloc C).putObj (w2.heap.size + 1) (.loop (rec .busy none))) := ((Below.refl _ V).alloc (by omega) C).trans (below_put _ _ _ (by omega))
    have v1 : Boxed ((V.alloc C).putObj (w2.heap.size + 1) (.loop (rec .busy none))) w1.heap.size 38 v := (bV.block _ (by omega)).trans hv
    rw [hC] at g1 ⊢
    have v2 := ownsRow_putObj (hrow.alloc C) (.loop (rec .busy none)) g1 rfl
    have v3 : Blk ((V.alloc C).putObj (w2.heap.size + 1) (.loop (rec .busy none))) V.heap.size #[.int .i64 (x (k + 1)).b0, .int .i64 (x (k + 1)).b1, .int .i64 (x (k + 1)).w0, .int .i64 (x (k + 1)).w1, .int .i64 (x (k + 1)).q0, .int .i64 (x (k + 1)).q1, .int .i64 (x (k + 1)).s0, .int .i64 (x (k + 1)).s1] 28 :=
      (World.putObj_heap_other (by omega)).trans (by rw [← hC]; exact Blk.new V _ _)
    have v4 : ((V.alloc C).putObj (w2.heap.size + 1) (.loop (rec .busy none))).heap[w2.heap.size + 1]? = some (.loop (rec .busy none)) := World.putObj_heap_same (by simp; omega)
    have v5 : ((V.alloc C).putObj (w2.heap.size + 1) (.loop (rec .busy none))).heap[w2.heap.size]? = some (.deferred (some [])) := (World.putObj_heap_other (by omega)).trans ((Below.heap_alloc V C _ (by omega)).trans hdf)
    have v6 := hI.below bV (by omega)
    obtain ⟨V2, hV2⟩ : ∃ V2, (V.alloc C).putObj (w2.heap.size + 1) (.loop (rec .busy none)) = V2 := ⟨_, rfl⟩
    rw [hV2] at bV v1 v2 v3 v4 v5 v6 ⊢
    clear hV2 g1 hC hrow hv hl hdf hI
    obtain ⟨c0, c1, c2, c3, c4, c5, c6, c7⟩ := v3.c8
    have cb := v1.cell
    have zb := v1.lt
    have z3 := v3.lt
    have z4 : w2.heap.size ≤ V2.heap.size := by have := bV.size; omega
    clear ha hb jB gW
    obtain ⟨i0, hi, hz0, hz1, hz2⟩ := info_parts Tryz.infoIce
    gi_wp2_with (gi_at_builtin; refine wpListIn_append_own _ rfl _ _ 38 rfl w2.heap.size 28 i0 (.agg #[.int .i64 0, .int .i64 0, .int .i64 0, .int .i64 0, .int .i64 0, .int .i64 0, .int .i64 0, .int .i64 0]) 8 64 Tryz.underlying38 hi hz0 hz1 hz2 rfl (by decide) _ _ _ rfl (v2.alloc _) ⟨V2.heap.size, 0, none⟩ 1 1 (ic8 (x (k + 1))) rfl rfl (news8 _ _) (one8 _) (by unfold maxLen; omega) (by omega) (by simp; omega) ?_; intro v' w4 hown' hgrow _; obtain ⟨g', cap', rfl⟩ := ownsRow_succ hown'; obtain ⟨hv1, hv2, _, hk2, _⟩ := v1.appended (n₀ := w1.heap.size) (by decide) (ownsRow_base v2 (by omega)) (by omega) (Nat.le_refl _) (ownsRow_base hown' (by omega)) hgrow; have hc1 := hv1.cell; have hf1 := hv1.frozen)
    have y1 : Below w2.heap.size V2 w4 := (Below.alloc (Below.refl _ V2) z4 _).grown hgrow (by simp; omega) (fun j ej => ((v2.lt _ ej)).1)
    have y2 : Blk w4 _ _ _ := v6.law.below y1 (by omega)
    have y3 : Blk w4 _ _ _ := v6.days.below y1 (by omega)
    have y4 : Blk w4 _ _ _ := v6.ice.below y1 (by omega)
    have y5 : Below w1.heap.size w2 w4 := v6.old.trans (y1.mono (by omega))
    have t1 := hk2.same _ _ v4 rfl
    have t2 := hk2.same _ _ v5 rfl
    have t3 := ownsRow_putObj (ownsRow_setCell_below hown' (a := ⟨w1.heap.size, 0, none⟩) (by simp; omega) (.slice (some ⟨g', 0, none⟩) (k + 1) cap')) (.loop (rec .ready none)) t1 rfl
    have t4 : w2.heap.size + 1 < (w4.setCell ⟨w1.heap.size, 0, none⟩ (.slice (some ⟨g', 0, none⟩) (k + 1) cap')).heap.size := (Array.getElem?_eq_some_iff.1 t1).1
    refine ⟨t1, ⟨⟨_, (World.putObj_heap_other (by omega)).trans hv2, t3⟩, World.putObj_heap_same t4, (World.putObj_heap_other (by omega)).trans t2⟩, ?_⟩
    exact ⟨by omega, (y5.setCell (by simp) _).trans (below_put _ _ _ (by omega)), (World.putObj_heap_other (by omega)).trans (y2.other _ _ (by simp)), (World.putObj_heap_other (by omega)).trans (y3.other _ _ (by simp; omega)), (World.putObj_heap_other (by omega)).trans (y4.other _ _ (by simp; omega))⟩
  case post =>
    rintro e W3 ⟨⟨v, rfl⟩, hJ, hI⟩
    obtain ⟨⟨u, hu, hrow⟩, hl, hdf⟩ := hJ
    refine post_raw hrec hl v ?_
    have p1 : Boxed (W3.putObj (w2.heap.size + 1) (.loop { rec .ready none with state := .exhausted })) w1.heap.size 38 u := (World.putObj_heap_other (by omega)).trans hu
    have p2 := ownsRow_putObj hrow (.loop { rec .ready none with state := .exhausted }) hl rfl
    have p3 : (W3.putObj (w2.heap.size + 1) (.loop { rec .ready none with state := .exhausted })).heap[w2.heap.size]? = some (.deferred (some [])) := (World.putObj_heap_other (by omega)).trans hdf
    have p4 : Below w.heap.size w (W3.putObj (w2.heap.size + 1) (.loop { rec .ready none with state := .exhausted })) := (gW.trans (hI.old.mono (by omega))).trans (below_put _ _ _ (by omega))
    obtain ⟨W4, hW4⟩ : ∃ W, W3.putObj (w2.heap.size + 1) (.loop { rec .ready none with state := .exhausted }) = W := ⟨_, rfl⟩
    rw [hW4] at p1 p2 p3 p4 ⊢
    clear hW4 hl hdf hu hrow hI hrec e1 e2 e3 hI0 hR0 gL gX gD gB HD HS HA
    have pc := p1.cell
    have zw : w.heap.size ≤ w2.heap.size := by omega
    clear hs2
    gi_wp2
    refine ⟨by simp, .inl ⟨_, _, rfl, run_takeDeferred p3, ?_⟩⟩
    refine ⟨.tuple #[u, .int .i64 0], by simp [results, Tryz.results12, go_sem], u, rfl, ownsRow_base (ownsRow_putObj p2 _ p3 rfl) zw, p4.trans (below_put _ _ _ zw)⟩
end Go.Proofs.YtdbiijldincoiaaGreat
