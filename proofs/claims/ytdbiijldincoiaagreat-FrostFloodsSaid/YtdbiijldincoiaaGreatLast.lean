/-
  What is known after the last day: the contract of frost.last.
-/
import Derived.Test.YtdbiijldincoiaaGreatTail
import Derived.Test.YtdbiijldincoiaaGreatRun
import Derived.Test.YtdbiijldincoiaaGreatStep2
set_option linter.unusedVariables false
set_option linter.unusedSimpArgs false
namespace Go.Proofs.YtdbiijldincoiaaGreat
open Go.RowKit Go.Shelf
attribute [local go_sem] Oper.semAt_some

theorem heap_set8 (w : World) {b k : Nat} (h : k ≠ b) (y0 y1 y2 y3 y4 y5 y6 y7 : Value) :
    ((((((((w.setCell ⟨b, 0, none⟩ y0).setCell ⟨b, 1, none⟩ y1).setCell ⟨b, 2, none⟩ y2).setCell ⟨b, 3, none⟩ y3).setCell ⟨b, 4, none⟩ y4).setCell ⟨b, 5, none⟩ y5).setCell ⟨b, 6, none⟩ y6).setCell ⟨b, 7, none⟩ y7).heap[k]? = w.heap[k]? := by
  iterate 8 rw [Below.heap_setCell _ _ _ _ h]
theorem Eight.below {w w' : World} {b B : Nat} {t : TypeId} (h : Eight w b t) (hb : Below B w w') (hB : b < B) : Eight w' b t := by
  obtain ⟨x0, x1, x2, x3, x4, x5, x6, x7, h⟩ := h
  exact ⟨x0, x1, x2, x3, x4, x5, x6, x7, h.below hb hB⟩
theorem Eight.put {w : World} {b l : Nat} {t : TypeId} (h : Eight w b t) (hne : b ≠ l) (o : Obj) : Eight (w.putObj l o) b t := by
  obtain ⟨x0, x1, x2, x3, x4, x5, x6, x7, h⟩ := h
  exact ⟨x0, x1, x2, x3, x4, x5, x6, x7, (World.putObj_heap_other (by omega)).trans h⟩

structure LastAt (bX base l : Nat) (ll dl : Obj) (x : Nat → Ic) (k : Nat) (V : World) : Prop where
  ice : Blk V bX #[.int .i64 (x k).b0, .int .i64 (x k).b1, .int .i64 (x k).w0, .int .i64 (x k).w1, .int .i64 (x k).q0, .int .i64 (x k).q1, .int .i64 (x k).s0, .int .i64 (x k).s1] 28
  res : Eight V (bX + 1) 28
  loop : V.heap[l]? = some ll
  dfr : V.heap[base]? = some dl
theorem LastAt.call {bX base l : Nat} {ll dl : Obj} {x : Nat → Ic} {k : Nat} {V V' : World} (h : LastAt bX base l ll dl x k V) (hb : Below V.heap.size V V') : LastAt bX base l ll dl x k V' :=
  ⟨h.ice.call hb, h.res.call hb, (hb.block _ (Array.getElem?_eq_some_iff.1 h.loop).1).trans h.loop, (hb.block _ (Array.getElem?_eq_some_iff.1 h.dfr).1).trans h.dfr⟩
theorem LastAt.set {bX base l : Nat} {ll dl : Obj} {x : Nat → Ic} {k : Nat} {V : World} (h : LastAt bX base l ll dl x k V) (p : Addr) (u : Value) (h1 : bX ≠ p.block) (h2 : bX + 1 ≠ p.block) (h3 : l ≠ p.block) (h4 : base ≠ p.block) : LastAt bX base l ll dl x k (V.setCell p u) :=
  ⟨h.ice.other _ _ h1, h.res.other _ _ h2, (Below.heap_setCell V p u l h3).trans h.loop, (Below.heap_setCell V p u base h4).trans h.dfr⟩

set_option maxRecDepth 100000 in
set_option maxHeartbeats 1000000 in
theorem last_ok (a : Option Addr) (b o cap : Nat) (gr la : Int) (va : Option Addr) (nc vcap : Nat) (m0 m1 so h0 h1 : Int) (d : Nat → Dy) (x : Nat → Ic) (w : World) (m : Nat) (hm : m ≤ 9223372036854775807) (ha : 0 < m → a = some ⟨b, o, none⟩) (hb : b < w.heap.size)
    (hd : ∀ i, i < m → w.cell? ⟨b, o + i * 6, none⟩ = some (.int .i64 (d i).c0) ∧ w.cell? ⟨b, o + i * 6 + 1, none⟩ = some (.int .i64 (d i).c1) ∧ w.cell? ⟨b, o + i * 6 + 2, none⟩ = some (.int .i64 (d i).f0) ∧
      w.cell? ⟨b, o + i * 6 + 3, none⟩ = some (.int .i64 (d i).f1) ∧ w.cell? ⟨b, o + i * 6 + 4, none⟩ = some (.int .i64 (d i).wa) ∧ w.cell? ⟨b, o + i * 6 + 5, none⟩ = some (.bool (d i).cl))
    (hS : ∀ k W, k < m → Below w.heap.size w W → Calls Tryz.prog 55 #[.agg #[.int .i64 gr, .int .i64 la, (.slice va nc vcap), .int .i64 m0, .int .i64 m1, .int .i64 so, .int .i64 h0, .int .i64 h1], .agg #[.int .i64 (x k).b0, .int .i64 (x k).b1, .int .i64 (x k).w0, .int .i64 (x k).w1, .int .i64 (x k).q0, .int .i64 (x k).q1, .int .i64 (x k).s0, .int .i64 (x k).s1], .agg #[.int .i64 (d k).c0, .int .i64 (d k).c1, .int .i64 (d k).f0, .int .i64 (d k).f1, .int .i64 (d k).wa, .bool (d k).cl]] W
      fun e w' => e = .returned (.agg #[.int .i64 (x (k + 1)).b0, .int .i64 (x (k + 1)).b1, .int .i64 (x (k + 1)).w0, .int .i64 (x (k + 1)).w1, .int .i64 (x (k + 1)).q0, .int .i64 (x (k + 1)).q1, .int .i64 (x (k + 1)).s0, .int .i64 (x (k + 1)).s1]) ∧ Below W.heap.size W w') :
    Calls Tryz.prog 53 #[.agg #[.int .i64 gr, .int .i64 la, (.slice va nc vcap), .int .i64 m0, .int .i64 m1, .int .i64 so, .int .i64 h0, .int .i64 h1], .agg #[.int .i64 (x 0).b0, .int .i64 (x 0).b1, .int .i64 (x 0).w0, .int .i64 (x 0).w1, .int .i64 (x 0).q0, .int .i64 (x 0).q1, .int .i64 (x 0).s0, .int .i64 (x 0).s1], .slice a m cap] w
      fun e w' => e = .returned (.agg #[.int .i64 (x m).b0, .int .i64 (x m).b1, .int .i64 (x m).w0, .int .i64 (x m).w1, .int .i64 (x m).q0, .int .i64 (x m).q1, .int .i64 (x m).s0, .int .i64 (x m).s1]) ∧ Below w.heap.size w w' := by
  have HD := Lib.hid hd
  have HS := Lib.hid hS
  clear hd hS
  refine (callsIn_wide (n := 5)).1 ?_
  refine callsIn_of_wp_marks Tryz.func53 rfl trivial ?_ rfl
  simp only [Tryz.ntmps53, List.size_toArray, List.length_cons, List.length_nil, Nat.reduceAdd, Nat.reduceSub, Array.replicate_succ, Array.replicate_zero, List.push_toArray, List.append_toArray, List.nil_append, List.cons_append]
  have jX := (Blk.new1 w (.cells #[.int .i64 gr, .int .i64 la, .slice va nc vcap, .int .i64 m0, .int .i64 m1, .int .i64 so, .int .i64 h0, .int .i64 h1] 26) #[.int .i64 (x 0).b0, .int .i64 (x 0).b1, .int .i64 (x 0).w0, .int .i64 (x 0).w1, .int .i64 (x 0).q0, .int .i64 (x 0).q1, .int .i64 (x 0).s0, .int .i64 (x 0).s1] 28).alloc (.cells #[.int .i64 0, .int .i64 0, .int .i64 0, .int .i64 0, .int .i64 0, .int .i64 0, .int .i64 0, .int .i64 0] 28)
  have jR := Blk.new2 w (.cells #[.int .i64 gr, .int .i64 la, .slice va nc vcap, .int .i64 m0, .int .i64 m1, .int .i64 so, .int .i64 h0, .int .i64 h1] 26) (.cells #[.int .i64 (x 0).b0, .int .i64 (x 0).b1, .int .i64 (x 0).w0, .int .i64 (x 0).w1, .int .i64 (x 0).q0, .int .i64 (x 0).q1, .int .i64 (x 0).s0, .int .i64 (x 0).s1] 28) #[.int .i64 0, .int .i64 0, .int .i64 0, .int .i64 0, .int .i64 0, .int .i64 0, .int .i64 0, .int .i64 0] 28
  have jB : Below w.heap.size w (((w.alloc (.cells #[.int .i64 gr, .int .i64 la, .slice va nc vcap, .int .i64 m0, .int .i64 m1, .int .i64 so, .int .i64 h0, .int .i64 h1] 26)).alloc (.cells #[.int .i64 (x 0).b0, .int .i64 (x 0).b1, .int .i64 (x 0).w0, .int .i64 (x 0).w1, .int .i64 (x 0).q0, .int .i64 (x 0).q1, .int .i64 (x 0).s0, .int .i64 (x 0).s1] 28)).alloc (.cells #[.int .i64 0, .int .i64 0, .int .i64 0, .int .i64 0, .int .i64 0, .int .i64 0, .int .i64 0, .int .i64 0] 28)) := by (repeat (first | exact Below.refl _ _ | assumption | refine Below.drew ?_ | refine Below.drewN ?_ _ | refine blT ?_ | refine blU ?_))
  gi_wp2_with fail
  refine ⟨trivial, ?_⟩
  refine (callsIn_wide.2 (after_any _ _ _ _ _ _ _ _ _ _ _ _ _ _ _ _ _ _ _ _ _ _)).mono ?_
  rintro e w2 ⟨rfl, hw2⟩
  have hs2 : w2.heap.size = w.heap.size + 1 + 1 + 1 + 1 + 1 + 1 := by rw [← hw2]; simp
  have gL := ((Blk.new (((w.alloc (.cells #[.int .i64 gr, .int .i64 la, .slice va nc vcap, .int .i64 m0, .int .i64 m1, .int .i64 so, .int .i64 h0, .int .i64 h1] 26)).alloc (.cells #[.int .i64 (x 0).b0, .int .i64 (x 0).b1, .int .i64 (x 0).w0, .int .i64 (x 0).w1, .int .i64 (x 0).q0, .int .i64 (x 0).q1, .int .i64 (x 0).s0, .int .i64 (x 0).s1] 28)).alloc (.cells #[.int .i64 0, .int .i64 0, .int .i64 0, .int .i64 0, .int .i64 0, .int .i64 0, .int .i64 0, .int .i64 0] 28)) #[.int .i64 gr, .int .i64 la, .slice va nc vcap, .int .i64 m0, .int .i64 m1, .int .i64 so, .int .i64 h0, .int .i64 h1] 26).alloc (.cells #[.int .i64 (x 0).b0, .int .i64 (x 0).b1, .int .i64 (x 0).w0, .int .i64 (x 0).w1, .int .i64 (x 0).q0, .int .i64 (x 0).q1, .int .i64 (x 0).s0, .int .i64 (x 0).s1] 28)).alloc (.cells #[.slice a m cap] 29)
  have gX := (Blk.new1 (((w.alloc (.cells #[.int .i64 gr, .int .i64 la, .slice va nc vcap, .int .i64 m0, .int .i64 m1, .int .i64 so, .int .i64 h0, .int .i64 h1] 26)).alloc (.cells #[.int .i64 (x 0).b0, .int .i64 (x 0).b1, .int .i64 (x 0).w0, .int .i64 (x 0).w1, .int .i64 (x 0).q0, .int .i64 (x 0).q1, .int .i64 (x 0).s0, .int .i64 (x 0).s1] 28)).alloc (.cells #[.int .i64 0, .int .i64 0, .int .i64 0, .int .i64 0, .int .i64 0, .int .i64 0, .int .i64 0, .int .i64 0] 28)) (.cells #[.int .i64 gr, .int .i64 la, .slice va nc vcap, .int .i64 m0, .int .i64 m1, .int .i64 so, .int .i64 h0, .int .i64 h1] 26) #[.int .i64 (x 0).b0, .int .i64 (x 0).b1, .int .i64 (x 0).w0, .int .i64 (x 0).w1, .int .i64 (x 0).q0, .int .i64 (x 0).q1, .int .i64 (x 0).s0, .int .i64 (x 0).s1] 28).alloc (.cells #[.slice a m cap] 29)
  have gD := Blk.new2 (((w.alloc (.cells #[.int .i64 gr, .int .i64 la, .slice va nc vcap, .int .i64 m0, .int .i64 m1, .int .i64 so, .int .i64 h0, .int .i64 h1] 26)).alloc (.cells #[.int .i64 (x 0).b0, .int .i64 (x 0).b1, .int .i64 (x 0).w0, .int .i64 (x 0).w1, .int .i64 (x 0).q0, .int .i64 (x 0).q1, .int .i64 (x 0).s0, .int .i64 (x 0).s1] 28)).alloc (.cells #[.int .i64 0, .int .i64 0, .int .i64 0, .int .i64 0, .int .i64 0, .int .i64 0, .int .i64 0, .int .i64 0] 28)) (.cells #[.int .i64 gr, .int .i64 la, .slice va nc vcap, .int .i64 m0, .int .i64 m1, .int .i64 so, .int .i64 h0, .int .i64 h1] 26) (.cells #[.int .i64 (x 0).b0, .int .i64 (x 0).b1, .int .i64 (x 0).w0, .int .i64 (x 0).w1, .int .i64 (x 0).q0, .int .i64 (x 0).q1, .int .i64 (x 0).s0, .int .i64 (x 0).s1] 28) #[.slice a m cap] 29
  have gW : Below w.heap.size w w2 := by
    rw [← hw2]
    exact bwA (bwA (bwA jB (Nat.le_refl _) _) (Nat.le_refl _) _) (Nat.le_refl _) _
  replace jX := ((jX.alloc (.cells #[.int .i64 gr, .int .i64 la, .slice va nc vcap, .int .i64 m0, .int .i64 m1, .int .i64 so, .int .i64 h0, .int .i64 h1] 26)).alloc (.cells #[.int .i64 (x 0).b0, .int .i64 (x 0).b1, .int .i64 (x 0).w0, .int .i64 (x 0).w1, .int .i64 (x 0).q0, .int .i64 (x 0).q1, .int .i64 (x 0).s0, .int .i64 (x 0).s1] 28)).alloc (.cells #[.slice a m cap] 29)
  replace jR := ((jR.alloc (.cells #[.int .i64 gr, .int .i64 la, .slice va nc vcap, .int .i64 m0, .int .i64 m1, .int .i64 so, .int .i64 h0, .int .i64 h1] 26)).alloc (.cells #[.int .i64 (x 0).b0, .int .i64 (x 0).b1, .int .i64 (x 0).w0, .int .i64 (x 0).w1, .int .i64 (x 0).q0, .int .i64 (x 0).q1, .int .i64 (x 0).s0, .int .i64 (x 0).s1] 28)).alloc (.cells #[.slice a m cap] 29)
  simp at gL gX gD
  rw [hw2] at gL gX gD jX jR
  clear hw2 jB
  gi_wp2_with fail
  refine range_raw rfl (by omega) (gf := 61) (lb := #[.pointer (some ⟨w.heap.size + 1 + 1 + 1 + 1 + 1, 0, none⟩), .pointer (some ⟨w.heap.size + 1 + 1 + 1, 0, none⟩), .pointer (some ⟨w.heap.size + 1 + 1 + 1 + 1, 0, none⟩)]) rfl trivial (enters_of Tryz.func61 (by kernel_rfl) rfl) (fun fn hfn rec hrec => ?_)
  have e1 : ((w2.alloc (.deferred (some []))).alloc (.loop (rec .ready none))).heap[w2.heap.size + 1]? = some (.loop (rec .ready none)) := by
    have := World.alloc_heap_new (w2.alloc (.deferred (some []))) (.loop (rec .ready none))
    simpa using this
  have e2 : ((w2.alloc (.deferred (some []))).alloc (.loop (rec .ready none))).heap[w2.heap.size]? = some (.deferred (some [])) := (Below.heap_alloc _ _ _ (by simp)).trans (World.alloc_heap_new w2 _)
  have e3 : Below w2.heap.size w2 ((w2.alloc (.deferred (some []))).alloc (.loop (rec .ready none))) := by (repeat (first | exact Below.refl _ _ | assumption | refine Below.drew ?_ | refine Below.drewN ?_ _ | refine blT ?_ | refine blU ?_))
  obtain ⟨W1, hW1⟩ : ∃ W, (w2.alloc (.deferred (some []))).alloc (.loop (rec .ready none)) = W := ⟨_, rfl⟩
  rw [hW1] at e1 e2 e3 ⊢
  clear hW1
  have hI0 : ItAt w2 (w.heap.size) (w.heap.size + 1 + 1 + 1) #[.int .i64 gr, .int .i64 la, .slice va nc vcap, .int .i64 m0, .int .i64 m1, .int .i64 so, .int .i64 h0, .int .i64 h1] (.slice a m cap) (x 0) W1 := ⟨by omega, e3.mono (by omega), gL.below e3 (by omega), gD.below e3 (by omega), gX.below e3 (by omega)⟩
  have hR0 : LastAt (w.heap.size + 1) w2.heap.size (w2.heap.size + 1) (.loop (rec .ready none)) (.deferred (some [])) x 0 W1 := ⟨jX.below e3 (by omega), ⟨_, _, _, _, _, _, _, _, jR.below e3 (by omega)⟩, e1, e2⟩
  refine (after1_in 4 (w2.heap.size + 1) w.heap.size (w.heap.size + 1 + 1 + 1) a b o cap gr la va nc vcap m0 m1 so h0 h1 d x w2 m hm (by omega) ha ?hd ?hS (LastAt (w.heap.size + 1) w2.heap.size (w2.heap.size + 1) (.loop (rec .ready none)) (.deferred (some [])) x) ?hJb ?hJs ?hY W1 hR0 hI0).mono ?post
  case hd =>
    intro i hi
    obtain ⟨a0, a1, a2, a3, a4, a5⟩ := HD.out i hi
    have hcb : ∀ j, w2.cell? ⟨b, j, none⟩ = w.cell? ⟨b, j, none⟩ := fun j => gW.cell (p := ⟨b, j, none⟩) hb
    exact ⟨(hcb _).trans a0, (hcb _).trans a1, (hcb _).trans a2, (hcb _).trans a3, (hcb _).trans a4, (hcb _).trans a5⟩
  case hS =>
    intro k W hk hW
    exact HS.out k W hk (gW.trans hW)
  case hJb => exact fun k W W' h hb => h.call hb
  case hJs => exact fun k W j v h => h.set _ _ (by first | (simp; done) | (simp; omega)) (by first | (simp; done) | (simp; omega)) (by first | (simp; done) | (simp; omega)) (by first | (simp; done) | (simp; omega))
  case hY =>
    intro k V hk hJ hI
    refine round_raw (R := fun W' => LastAt (w.heap.size + 1) w2.heap.size (w2.heap.size + 1) (.loop (rec .ready none)) (.deferred (some [])) x (k + 1) W' ∧ ItAt w2 (w.heap.size) (w.heap.size + 1 + 1 + 1) #[.int .i64 gr, .int .i64 la, .slice va nc vcap, .int .i64 m0, .int .i64 m1, .int .i64 so, .int .i64 h0, .int .i64 h1] (.slice a m cap) (x (k + 1)) W') trivial hrec hJ.loop rfl ?_
    have z2 : w.heap.size + 1 + 1 + 1 + 1 + 1 < w2.heap.size := by omega
    clear hs2 hrec HD HS e1 e2 e3 hI0 hR0 gL gX gD jX jR
    obtain ⟨bX, hbX⟩ : ∃ q, w.heap.size + 1 = q := ⟨_, rfl⟩
    have y1 : w.heap.size < bX := by omega
    rw [hbX] at hJ hI z2
    simp only [hbX]
    clear hbX
    generalize hP1 : LastAt bX w2.heap.size (w2.heap.size + 1) (.loop (rec .ready none)) (.deferred (some [])) x (k + 1) = P1
    generalize hP2 : ItAt w2 w.heap.size (bX + 1 + 1) #[.int .i64 gr, .int .i64 la, .slice va nc vcap, .int .i64 m0, .int .i64 m1, .int .i64 so, .int .i64 h0, .int .i64 h1] (.slice a m cap) (x (k + 1)) = P2
    have HP := Lib.hid (And.intro hP1 hP2)
    clear hP1 hP2
    gi_wp2
    have g1 := (Below.heap_alloc V (.cells #[.int .i64 (x (k + 1)).b0, .int .i64 (x (k + 1)).b1, .int .i64 (x (k + 1)).w0, .int .i64 (x (k + 1)).w1, .int .i64 (x (k + 1)).q0, .int .i64 (x (k + 1)).q1, .int .i64 (x (k + 1)).s0, .int .i64 (x (k + 1)).s1] 28) _ (Array.getElem?_eq_some_iff.1 hJ.loop).1).trans hJ.loop
    refine ⟨g1, ?_⟩
    obtain ⟨hX, hRs, hl, hdf⟩ := hJ
    have hll : w2.heap.size + 1 < V.heap.size := (Array.getElem?_eq_some_iff.1 hl).1
    obtain ⟨C, hC⟩ : ∃ C : Obj, .cells #[.int .i64 (x (k + 1)).b0, .int .i64 (x (k + 1)).b1, .int .i64 (x (k + 1)).w0, .int .i64 (x (k + 1)).w1, .int .i64 (x (k + 1)).q0, .int .i64 (x (k + 1)).q1, .int .i64 (x (k + 1)).s0, .int .i64 (x (k + 1)).s1] 28 = C := ⟨_, rfl⟩
    have bV : Below w2.heap.size V ((V.alloc C).putObj (w2.heap.size + 1) (.loop (rec .busy none))) := ((Below.refl _ V).alloc (by omega) C).trans (below_put _ _ _ (by omega))
    have v1 : Blk ((V.alloc C).putObj (w2.heap.size + 1) (.loop (rec .busy none))) (bX) #[.int .i64 (x k).b0, .int .i64 (x k).b1, .int .i64 (x k).w0, .int .i64 (x k).w1, .int .i64 (x k).q0, .int .i64 (x k).q1, .int .i64 (x k).s0, .int .i64 (x k).s1] 28 := hX.below bV (by omega)
    have v2 : Eight ((V.alloc C).putObj (w2.heap.size + 1) (.loop (rec .busy none))) (bX + 1) 28 := hRs.below bV (by omega)
    have v3 : Blk ((V.alloc C).putObj (w2.heap.size + 1) (.loop (rec .busy none))) V.heap.size #[.int .i64 (x (k + 1)).b0, .int .i64 (x (k + 1)).b1, .int .i64 (x (k + 1)).w0, .int .i64 (x (k + 1)).w1, .int .i64 (x (k + 1)).q0, .int .i64 (x (k + 1)).q1, .int .i64 (x (k + 1)).s0, .int .i64 (x (k + 1)).s1] 28 :=
      (World.putObj_heap_other (by omega)).trans (by rw [← hC]; exact Blk.new V _ _)
    rw [hC] at g1 ⊢
    have v4 : ((V.alloc C).putObj (w2.heap.size + 1) (.loop (rec .busy none))).heap[w2.heap.size + 1]? = some (.loop (rec .busy none)) := World.putObj_heap_same (by simp; omega)
    have v5 : ((V.alloc C).putObj (w2.heap.size + 1) (.loop (rec .busy none))).heap[w2.heap.size]? = some (.deferred (some [])) := (World.putObj_heap_other (by omega)).trans ((Below.heap_alloc V C _ (by omega)).trans hdf)
    have v6 := hI.below bV (by omega)
    obtain ⟨V2, hV2⟩ : ∃ V2, (V.alloc C).putObj (w2.heap.size + 1) (.loop (rec .busy none)) = V2 := ⟨_, rfl⟩
    rw [hV2] at bV v1 v2 v3 v4 v5 v6 ⊢
    clear hV2 g1 hC hRs hX hl hdf hI
    obtain ⟨c0, c1, c2, c3, c4, c5, c6, c7⟩ := v3.c8
    obtain ⟨i0, i1, i2, i3, i4, i5, i6, i7⟩ := v1.c8
    have f0 := v1.free 0
    have f1 := v1.free 1
    have f2 := v1.free 2
    have f3 := v1.free 3
    have f4 := v1.free 4
    have f5 := v1.free 5
    have f6 := v1.free 6
    have f7 := v1.free 7
    have zb := v1.lt
    have z3 := v3.lt
    have z4 : w2.heap.size ≤ V2.heap.size := by have := bV.size; omega
    have zl : w2.heap.size + 1 < V2.heap.size := (Array.getElem?_eq_some_iff.1 v4).1
    clear ha hb gW
    have s1 := v1.set8 (.int .i64 (x (k + 1)).b0) (.int .i64 (x (k + 1)).b1) (.int .i64 (x (k + 1)).w0) (.int .i64 (x (k + 1)).w1) (.int .i64 (x (k + 1)).q0) (.int .i64 (x (k + 1)).q1) (.int .i64 (x (k + 1)).s0) (.int .i64 (x (k + 1)).s1)
    have s2 := v2.other8 (c := bX) (by omega) (.int .i64 (x (k + 1)).b0) (.int .i64 (x (k + 1)).b1) (.int .i64 (x (k + 1)).w0) (.int .i64 (x (k + 1)).w1) (.int .i64 (x (k + 1)).q0) (.int .i64 (x (k + 1)).q1) (.int .i64 (x (k + 1)).s0) (.int .i64 (x (k + 1)).s1)
    have s3 := (heap_set8 V2 (b := bX) (k := w2.heap.size + 1) (by omega) (.int .i64 (x (k + 1)).b0) (.int .i64 (x (k + 1)).b1) (.int .i64 (x (k + 1)).w0) (.int .i64 (x (k + 1)).w1) (.int .i64 (x (k + 1)).q0) (.int .i64 (x (k + 1)).q1) (.int .i64 (x (k + 1)).s0) (.int .i64 (x (k + 1)).s1)).trans v4
    have s4 := (heap_set8 V2 (b := bX) (k := w2.heap.size) (by omega) (.int .i64 (x (k + 1)).b0) (.int .i64 (x (k + 1)).b1) (.int .i64 (x (k + 1)).w0) (.int .i64 (x (k + 1)).w1) (.int .i64 (x (k + 1)).q0) (.int .i64 (x (k + 1)).q1) (.int .i64 (x (k + 1)).s0) (.int .i64 (x (k + 1)).s1)).trans v5
    have s5 := below_set8 (c := bX) v6.old (by omega) (.int .i64 (x (k + 1)).b0) (.int .i64 (x (k + 1)).b1) (.int .i64 (x (k + 1)).w0) (.int .i64 (x (k + 1)).w1) (.int .i64 (x (k + 1)).q0) (.int .i64 (x (k + 1)).q1) (.int .i64 (x (k + 1)).s0) (.int .i64 (x (k + 1)).s1)
    have s6 := v6.law.other8 (c := bX) (by omega) (.int .i64 (x (k + 1)).b0) (.int .i64 (x (k + 1)).b1) (.int .i64 (x (k + 1)).w0) (.int .i64 (x (k + 1)).w1) (.int .i64 (x (k + 1)).q0) (.int .i64 (x (k + 1)).q1) (.int .i64 (x (k + 1)).s0) (.int .i64 (x (k + 1)).s1)
    have s7 := v6.days.other8 (c := bX) (by omega) (.int .i64 (x (k + 1)).b0) (.int .i64 (x (k + 1)).b1) (.int .i64 (x (k + 1)).w0) (.int .i64 (x (k + 1)).w1) (.int .i64 (x (k + 1)).q0) (.int .i64 (x (k + 1)).q1) (.int .i64 (x (k + 1)).s0) (.int .i64 (x (k + 1)).s1)
    have s8 := v6.ice.other8 (c := bX) (by omega) (.int .i64 (x (k + 1)).b0) (.int .i64 (x (k + 1)).b1) (.int .i64 (x (k + 1)).w0) (.int .i64 (x (k + 1)).w1) (.int .i64 (x (k + 1)).q0) (.int .i64 (x (k + 1)).q1) (.int .i64 (x (k + 1)).s0) (.int .i64 (x (k + 1)).s1)
    have HS := Lib.hid (And.intro s1 (And.intro s2 (And.intro s3 (And.intro s4 (And.intro s5 (And.intro s6 (And.intro s7 s8)))))))
    clear s1 s2 s3 s4 s5 s6 s7 s8 v1 v2 v3 v4 v5 v6
    repeat gi_step
    obtain ⟨s1, s2, s3, s4, s5, s6, s7, s8⟩ := HS.out
    have zq := (Array.getElem?_eq_some_iff.1 s3).1
    refine ⟨rfl, s3, ?_, ?_⟩
    · rw [← HP.out.1]
      exact ⟨(World.putObj_heap_other (by omega)).trans s1, s2.put (by omega) _, World.putObj_heap_same zq, (World.putObj_heap_other (by omega)).trans s4⟩
    · rw [← HP.out.2]
      exact ⟨by omega, s5.trans (below_put _ _ _ (by omega)), (World.putObj_heap_other (by omega)).trans s6, (World.putObj_heap_other (by omega)).trans s7, (World.putObj_heap_other (by omega)).trans s8⟩
  case post =>
    rintro e W3 ⟨⟨v, rfl⟩, hJ, hI⟩
    obtain ⟨hX, hRs, hl, hdf⟩ := hJ
    refine post_raw hrec hl v ?_
    have p1 : Blk (W3.putObj (w2.heap.size + 1) (.loop { rec .ready none with state := .exhausted })) (w.heap.size + 1) #[.int .i64 (x m).b0, .int .i64 (x m).b1, .int .i64 (x m).w0, .int .i64 (x m).w1, .int .i64 (x m).q0, .int .i64 (x m).q1, .int .i64 (x m).s0, .int .i64 (x m).s1] 28 := (World.putObj_heap_other (by omega)).trans hX
    have p2 := hRs.put (l := w2.heap.size + 1) (by omega) (.loop { rec .ready none with state := .exhausted })
    have p3 : (W3.putObj (w2.heap.size + 1) (.loop { rec .ready none with state := .exhausted })).heap[w2.heap.size]? = some (.deferred (some [])) := (World.putObj_heap_other (by omega)).trans hdf
    have p4 : Below w.heap.size w (W3.putObj (w2.heap.size + 1) (.loop { rec .ready none with state := .exhausted })) := (gW.trans hI.old).trans (below_put _ _ _ (by omega))
    obtain ⟨W4, hW4⟩ : ∃ W, W3.putObj (w2.heap.size + 1) (.loop { rec .ready none with state := .exhausted }) = W := ⟨_, rfl⟩
    rw [hW4] at p1 p2 p3 p4 ⊢
    clear hW4 hl hdf hX hRs hI hrec e1 e2 e3 hI0 hR0 gL gX gD jX jR HD HS
    have z2 : w.heap.size + 1 + 1 + 1 + 1 + 1 < w2.heap.size := by omega
    clear hs2
    obtain ⟨i0, i1, i2, i3, i4, i5, i6, i7⟩ := p1.c8
    obtain ⟨y0, y1, y2, y3, y4, y5, y6, y7, p2⟩ := p2
    obtain ⟨j0, j1, j2, j3, j4, j5, j6, j7⟩ := p2.c8
    have f0 := p2.free 0
    have f1 := p2.free 1
    have f2 := p2.free 2
    have f3 := p2.free 3
    have f4 := p2.free 4
    have f5 := p2.free 5
    have f6 := p2.free 6
    have f7 := p2.free 7
    have zb := p1.lt
    have zr := p2.lt
    have q2 := p2.set8 (.int .i64 (x m).b0) (.int .i64 (x m).b1) (.int .i64 (x m).w0) (.int .i64 (x m).w1) (.int .i64 (x m).q0) (.int .i64 (x m).q1) (.int .i64 (x m).s0) (.int .i64 (x m).s1)
    have q3 := (heap_set8 W4 (b := w.heap.size + 1 + 1) (k := w2.heap.size) (by omega) (.int .i64 (x m).b0) (.int .i64 (x m).b1) (.int .i64 (x m).w0) (.int .i64 (x m).w1) (.int .i64 (x m).q0) (.int .i64 (x m).q1) (.int .i64 (x m).s0) (.int .i64 (x m).s1)).trans p3
    have q4 := below_set8 (c := w.heap.size + 1 + 1) p4 (by omega) (.int .i64 (x m).b0) (.int .i64 (x m).b1) (.int .i64 (x m).w0) (.int .i64 (x m).w1) (.int .i64 (x m).q0) (.int .i64 (x m).q1) (.int .i64 (x m).s0) (.int .i64 (x m).s1)
    have HQ := Lib.hid (And.intro q2 (And.intro q3 q4))
    clear q2 q3 q4 p1 p2 p3 p4
    repeat gi_step
    have hQ := HQ.out
    clear HQ
    generalize ((((((((W4.setCell ⟨w.heap.size + 1 + 1, 0, none⟩ (.int .i64 (x m).b0)).setCell ⟨w.heap.size + 1 + 1, 1, none⟩ (.int .i64 (x m).b1)).setCell ⟨w.heap.size + 1 + 1, 2, none⟩ (.int .i64 (x m).w0)).setCell ⟨w.heap.size + 1 + 1, 3, none⟩ (.int .i64 (x m).w1)).setCell ⟨w.heap.size + 1 + 1, 4, none⟩ (.int .i64 (x m).q0)).setCell ⟨w.heap.size + 1 + 1, 5, none⟩ (.int .i64 (x m).q1)).setCell ⟨w.heap.size + 1 + 1, 6, none⟩ (.int .i64 (x m).s0)).setCell ⟨w.heap.size + 1 + 1, 7, none⟩ (.int .i64 (x m).s1)) = W5 at hQ ⊢
    refine ⟨by simp, .inl ⟨_, _, rfl, run_takeDeferred hQ.2.1, ?_⟩⟩
    have hz : ∀ o : Obj, Blk (W5.putObj w2.heap.size o) (w.heap.size + 1 + 1) _ _ := fun o => (World.putObj_heap_other (by omega)).trans hQ.1
    obtain ⟨z0, z1, z2, z3, z4, z5, z6, z7⟩ := (hz (.deferred none)).c8
    exact ⟨_, by simp [results, Tryz.results53, go_sem, z0, z1, z2, z3, z4, z5, z6, z7], rfl, hQ.2.2.trans (below_put _ _ _ (by omega))⟩
end Go.Proofs.YtdbiijldincoiaaGreat
