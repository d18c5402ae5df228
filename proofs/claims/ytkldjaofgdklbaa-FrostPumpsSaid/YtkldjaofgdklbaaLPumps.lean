/-
  Is water left behind days, of which one has some water.
  FrostPumps says yes: water that freezes through.
-/
import Derived.Test.YtkldjaofgdklbaaTail
import Derived.Test.YtkldjaofgdklbaaFlood1
import Derived.Test.YtkldjaofgdklbaaBig
import Derived.Test.YtkldjaofgdklbaaFlood2
import Derived.Test.YtkldjaofgdklbaaAwake
import Derived.Test.YtkldjaofgdklbaaNew
set_option linter.unusedVariables false
set_option linter.unusedSimpArgs false
namespace Go.Proofs.Ytkldjaofgdklbaa
open Go.RowKit

theorem DaysAt.water {w : World} {b o n cap : Nat} {d : Nat → Dy} (h : DaysAt w (.slice (some ⟨b, o, none⟩) n cap) n d) {j : Nat} (hj : j < n) (water : Int) :
    DaysAt (w.setCell ⟨b, o + j * 6 + 4, none⟩ (.int .i64 water)) (.slice (some ⟨b, o, none⟩) n cap) n (wet d j water) := by
  obtain ⟨a, cap', hv, h1, h2, h3⟩ := h
  simp only [Value.slice.injEq] at hv
  obtain ⟨rfl, _, rfl⟩ := hv
  obtain ⟨b', o', ha, hc⟩ := h3 (by omega)
  simp only [Option.some.injEq, Addr.mk.injEq] at ha
  obtain ⟨rfl, rfl, _⟩ := ha
  refine ⟨_, _, rfl, h1, h2, fun _ => ⟨b, o, rfl, fun i hi => ?_⟩⟩
  obtain ⟨a0, a1, a2, a3, a4, a5⟩ := hc i hi
  have ne : ∀ t, t ≠ o + j * 6 + 4 → (w.setCell ⟨b, o + j * 6 + 4, none⟩ (.int .i64 water)).cell? ⟨b, t, none⟩ = w.cell? ⟨b, t, none⟩ := fun t ht => World.cell?_setCell_other _ _ _ _ (by intro h; simp at h; first | done | omega)
  by_cases e : i = j
  · subst e
    rw [wet_at]
    exact ⟨(ne _ (by omega)).trans a0, (ne _ (by omega)).trans a1, (ne _ (by omega)).trans a2, (ne _ (by omega)).trans a3, World.cell?_setCell_same _ _ _ a4, (ne _ (by omega)).trans a5⟩
  · rw [wet_ne d e]
    exact ⟨(ne _ (by omega)).trans a0, (ne _ (by omega)).trans a1, (ne _ (by omega)).trans a2, (ne _ (by omega)).trans a3, (ne _ (by omega)).trans a4, (ne _ (by omega)).trans a5⟩
theorem daysAt_wa {w : World} {b o n cap : Nat} {d : Nat → Dy} (h : DaysAt w (.slice (some ⟨b, o, none⟩) n cap) n d) {j : Nat} (hj : j < n) : w.cell? ⟨b, o + j * 6 + 4, none⟩ = some (.int .i64 (d j).wa) := by
  obtain ⟨a, cap', hv, h1, h2, h3⟩ := h
  simp only [Value.slice.injEq] at hv
  obtain ⟨rfl, _, rfl⟩ := hv
  obtain ⟨b', o', ha, hc⟩ := h3 (by omega)
  simp only [Option.some.injEq, Addr.mk.injEq] at ha
  obtain ⟨rfl, rfl, _⟩ := ha
  exact (hc j hj).2.2.2.2.1
theorem row_free {W : World} {base s : Nat} {e : TypeId} {v : Value} {m : Nat} {xs : List Value} (h : W.ownsRow base e s v m xs) (h0 : 0 < m) :
    ∃ g cap, v = .slice (some ⟨g, 0, none⟩) m cap ∧ base ≤ g ∧ g < W.heap.size ∧ ∀ k, W.frozen? ⟨g, k, none⟩ = false := by
  obtain ⟨_, h2⟩ := h
  rcases h2 with ⟨_, h2⟩ | ⟨g, cap, cur, hv, hg, hc, _⟩
  · omega
  · refine ⟨g, cap, hv, hg, (Array.getElem?_eq_some_iff.1 hc).1, fun k => ?_⟩
    have h' : W.heap[g]? = some (.cells cur e (0, 0)) := hc
    simp [World.frozen?, h']

set_option maxRecDepth 100000 in
set_option maxHeartbeats 8000000 in
theorem left_kit (l : Lw) (v : Value) (x : Ic) (vd : Value) (n : Nat) (d : Nat → Dy) (j : Nat) (water : Int) (w : World) (hl : l.Kit) (hv : CovAt w v l.n l.D l.P0 l.P1) (hx : x.Val) (hd : DaysAt w vd n d) (hn : n ≤ 400) (hk : ∀ i, i < n → (d i).Ok) (hj : j < n) (g0 : 0 ≤ water) (g1 : water ≤ 200) :
    Calls Try.prog 51 #[.agg #[.int .i64 l.gr, .int .i64 l.la, v, .int .i64 l.m0, .int .i64 l.m1, .int .i64 l.so, .int .i64 l.h0, .int .i64 l.h1], .agg #[.int .i64 x.b0, .int .i64 x.b1, .int .i64 x.w0, .int .i64 x.w1, .int .i64 x.q0, .int .i64 x.q1, .int .i64 x.s0, .int .i64 x.s1], vd, .int .i64 ((j : Int) + 1), .int .i64 water] w
      fun e w' => e = .returned (.bool (!((iceAt l (wet d j water) x n).q1 == 0))) ∧ Below w.heap.size w w' := by
  have hwk := wet_ok (k := j) hk g0 g1
  have hq : 0 ≤ (iceAt l (wet d j water) x n).q1 := (iceAt_bd (j := 0) hl.ok hx.bd n hwk n (Nat.le_refl _) (by omega)).q1.1
  obtain ⟨Q, hQe⟩ : ∃ q, (iceAt l (wet d j water) x n).q1 = q := ⟨_, rfl⟩
  rw [hQe] at hq ⊢
  have HQe := Lib.hid hQe
  clear hQe
  obtain ⟨va, vcap, hvv, _, _, _⟩ := id hv
  subst hvv
  obtain ⟨da, dcap, hvd, ncap, _, hc⟩ := id hd
  subst hvd
  obtain ⟨b, o, rfl, hc2⟩ := hc (by omega)
  have zb := World.block_lt_of_cell? _ _ (hc2 0 (by omega)).1
  have hnw := days_news hc2
  have HRn := Lib.hid (fun (W : World) (vo : Value) g1 g2 g3 => run_kit l (.slice va l.n vcap) x vo n (wet d j water) W hl g1 hx g2 hn hwk g3)
  have e1 : IntKind.i64.wrap ((j : Int) + 1 - 1) = (j : Int) := by rw [IntWalk.i64_in _ (by omega)]; omega
  have HV := Lib.hid hv
  have HNw := Lib.hid hnw
  clear hv hd hc hc2 hwk hnw hx hk
  have jL := (Blk.new w #[.int .i64 l.gr, .int .i64 l.la, .slice va l.n vcap, .int .i64 l.m0, .int .i64 l.m1, .int .i64 l.so, .int .i64 l.h0, .int .i64 l.h1] 26).alloc (.cells #[.int .i64 x.b0, .int .i64 x.b1, .int .i64 x.w0, .int .i64 x.w1, .int .i64 x.q0, .int .i64 x.q1, .int .i64 x.s0, .int .i64 x.s1] 28)
  have jX := Blk.new1 w (.cells #[.int .i64 l.gr, .int .i64 l.la, .slice va l.n vcap, .int .i64 l.m0, .int .i64 l.m1, .int .i64 l.so, .int .i64 l.h0, .int .i64 l.h1] 26) #[.int .i64 x.b0, .int .i64 x.b1, .int .i64 x.w0, .int .i64 x.w1, .int .i64 x.q0, .int .i64 x.q1, .int .i64 x.s0, .int .i64 x.s1] 28
  have jB : Below w.heap.size w ((w.alloc (.cells #[.int .i64 l.gr, .int .i64 l.la, .slice va l.n vcap, .int .i64 l.m0, .int .i64 l.m1, .int .i64 l.so, .int .i64 l.h0, .int .i64 l.h1] 26)).alloc (.cells #[.int .i64 x.b0, .int .i64 x.b1, .int .i64 x.w0, .int .i64 x.w1, .int .i64 x.q0, .int .i64 x.q1, .int .i64 x.s0, .int .i64 x.s1] 28)) := by (repeat (first | exact Below.refl _ _ | assumption | refine Below.drew ?_ | refine Below.drewN ?_ _ | refine blT ?_ | refine blU ?_))
  go_enter Try.func51, Try.ntmps51
  go_upto_region 1 with fail
  obtain ⟨bL, hbL⟩ : ∃ q, w.heap.size = q := ⟨_, rfl⟩
  have zL : w.heap.size ≤ bL := by omega
  have zL2 : bL ≤ w.heap.size := by omega
  rw [hbL] at jL jX
  (try rw [hbL])
  clear hbL
  have zs : ((w.alloc (.cells #[.int .i64 l.gr, .int .i64 l.la, .slice va l.n vcap, .int .i64 l.m0, .int .i64 l.m1, .int .i64 l.so, .int .i64 l.h0, .int .i64 l.h1] 26)).alloc (.cells #[.int .i64 x.b0, .int .i64 x.b1, .int .i64 x.w0, .int .i64 x.w1, .int .i64 x.q0, .int .i64 x.q1, .int .i64 x.s0, .int .i64 x.s1] 28)).heap.size = w.heap.size + 1 + 1 := by simp
  have zz : w.heap.size + 1 + 1 ≤ ((w.alloc (.cells #[.int .i64 l.gr, .int .i64 l.la, .slice va l.n vcap, .int .i64 l.m0, .int .i64 l.m1, .int .i64 l.so, .int .i64 l.h0, .int .i64 l.h1] 26)).alloc (.cells #[.int .i64 x.b0, .int .i64 x.b1, .int .i64 x.w0, .int .i64 x.w1, .int .i64 x.q0, .int .i64 x.q1, .int .i64 x.s0, .int .i64 x.s1] 28)).heap.size := by omega
  clear zs
  generalize (w.alloc (.cells #[.int .i64 l.gr, .int .i64 l.la, .slice va l.n vcap, .int .i64 l.m0, .int .i64 l.m1, .int .i64 l.so, .int .i64 l.h0, .int .i64 l.h1] 26)).alloc (.cells #[.int .i64 x.b0, .int .i64 x.b1, .int .i64 x.w0, .int .i64 x.w1, .int .i64 x.q0, .int .i64 x.q1, .int .i64 x.s0, .int .i64 x.s1] 28) = V at jL jX jB zz ⊢
  have jO : ((V.alloc (.cells #[] 30))).ownsRow (V.heap.size) 30 6 (.slice (some ⟨V.heap.size, 0, none⟩) 0 0) 0 [] :=
    ⟨rfl, .inr ⟨V.heap.size, 0, #[], rfl, Nat.le_refl _, World.alloc_heap_new V _, Nat.le_refl _, Nat.zero_le _, rfl, rfl⟩⟩
  obtain ⟨i0, hi0, hz0, hz1, hz2⟩ := info_parts Try.infoDay
  have hB3 : Below w.heap.size w (V.alloc (.cells #[] 30)) := bwA jB (by omega) _
  have hnw : ∀ (q : Nat) (u : Value), (daysC d n)[q]? = some u → (V.alloc (.cells #[] 30)).cell? ((⟨b, o, none⟩ : Addr).add q) = some u := fun q u h => cell_later hB3 (HNw.out q u h)
  go_upto_region 2 with (at_builtin; refine wpList_append_own_at _ rfl _ _ 38 rfl V.heap.size 30 i0 (.agg #[.int .i64 0, .int .i64 0, .int .i64 0, .int .i64 0, .int .i64 0, .bool false]) 6 48 Try.underlying38 hi0 hz0 hz1 hz2 rfl (by decide) _ _ _ rfl jO ⟨b, o, none⟩ n dcap (daysC d n) rfl (daysC_len d n) hnw (days_one6 d n) (by unfold maxLen; omega) (by omega) (by simp) ?_; intro v' w10 hown' hgrow _ _; simp only [Nat.zero_add, List.nil_append] at hown'; obtain ⟨g, cap', rfl, hg, hgl, hfz⟩ := row_free hown' (by omega); have kD := daysAt_of_row hown'; have a4 := daysAt_wa kD hj; have f4 := hfz (0 + j * 6 + 4); have jL2 := (jL.alloc (.cells #[] 30)).grown hgrow (fun q e => by have := (jO.lt q e).1; omega); have jX2 := (jX.alloc (.cells #[] 30)).grown hgrow (fun q e => by have := (jO.lt q e).1; omega); have jB2 : Below w.heap.size w w10 := hB3.grown hgrow (by simp; omega) (fun q e => by have := (jO.lt q e).1; omega))
  have zLg : bL < g := by have := jL2.lt; omega
  have zLh : bL + 1 < g := by omega
  rw [Nat.zero_add] at a4 f4
  go_upto_region 3 with fail
  have kDw := DaysAt.water kD hj water
  rw [Nat.zero_add] at kDw
  replace jL2 := jL2.other ⟨g, j * 6 + 4, none⟩ (.int .i64 water) (by simp; omega)
  replace jX2 := jX2.other ⟨g, j * 6 + 4, none⟩ (.int .i64 water) (by simp; omega)
  replace jB2 := jB2.setCell (p := ⟨g, j * 6 + 4, none⟩) (by simp; omega) (.int .i64 water)
  generalize w10.setCell ⟨g, j * 6 + 4, none⟩ (.int .i64 water) = w11 at kDw jL2 jX2 jB2 ⊢
  clear a4 f4 hfz kD hown' hgrow hB3 hnw jO jL jX jB HNw zb
  obtain ⟨l0, l1, l2, l3, l4, l5, l6, l7⟩ := jL2.c8
  obtain ⟨x0, x1, x2, x3, x4, x5, x6, x7⟩ := jX2.c8
  have zL3 := jL2.lt
  have zX3 := jX2.lt
  go_wp2_with fail
  refine (HRn.out _ _ (HV.out.later jB2) kDw (Nat.lt_of_le_of_lt (Nat.zero_le _) zL3)).mono ?_
  rintro e w12 ⟨ra, rfl, hra, hb⟩
  clear l0 l1 l2 l3 l4 l5 l6 l7 x0 x1 x2 x3 x4 x5 x6 x7 zL3 zX3
  replace jB2 := bwS jB2 (Nat.le_refl _) hb
  have kRa := iceL_of_row hra
  clear hra hb HRn HV kDw jL2 jX2
  obtain ⟨aa, acap, hra', acn, _, hz3⟩ := kRa
  subst hra'
  obtain ⟨b2, o2, rfl, hc2⟩ := hz3 (by omega)
  obtain ⟨nn, hnn⟩ : ∃ q, n = q + 1 := ⟨n - 1, by omega⟩
  have hcl := (hc2 nn (by omega)).2.2.2.2.2.1
  dsimp only at hcl
  rw [← hnn] at hcl
  have e3 : IntKind.i64.wrap ((n : Int) - 1) = (nn : Int) := by rw [IntWalk.i64_in _ (by omega)]; omega
  have hnl : nn < n := by omega
  clear hc2 hz3 hnn
  rw [HQe.out] at hcl
  by_cases hQ : Q = 0
  · have HR := Lib.hid (show (!(Q == 0)) = false by simp [hQ])
    have hd : decide (0 < Q) = false := by simp; omega
    clear hQ hq
    go_wp2
    go_ret
    exact ⟨by rw [HR.out]; rfl, jB2⟩
  · have HR := Lib.hid (show (!(Q == 0)) = true by simp [hQ])
    have hd : decide (0 < Q) = true := by simp; omega
    clear hQ hq
    go_wp2
    go_ret
    exact ⟨by rw [HR.out]; rfl, jB2⟩
end Go.Proofs.Ytkldjaofgdklbaa

namespace Go.Proofs.Ytkldjaofgdklbaa
open Go.RowKit

theorem updD_all {d : Nat → Dy} {k : Nat} {v : Dy} {P : Dy → Prop} (h : ∀ i, i < k → P (d i)) (hv : P v) : ∀ i, i < k + 1 → P (updD d k v i) := by
  intro i hi
  by_cases e : i = k
  · rw [show updD d k v i = v from if_pos e]
    exact hv
  · rw [show updD d k v i = d i from if_neg e]
    exact h i (by omega)
theorem blk_row_ne {W : World} {b base s n : Nat} {C : Array Value} {t e : TypeId} {v : Value} {xs : List Value} (h : Blk W b C t) (r : W.ownsRow base e s v n xs) (hne : t ≠ e) : ∀ q, v.ownBlock = some q → b ≠ q := by
  intro q hq hb
  subst hb
  obtain ⟨_, h2⟩ := r
  rcases h2 with ⟨rfl, _⟩ | ⟨g, cap, cur, rfl, _, hc, _⟩
  · simp [Value.ownBlock] at hq
  · simp [Value.ownBlock] at hq
    subst hq
    have h' : W.heap[g]? = some (.cells C t (0, 0)) := h
    rw [h'] at hc
    simp at hc
    exact hne hc.2
theorem Blk.grown2 {W W' : World} {b : Nat} {C : Array Value} {t : TypeId} {r : Option Nat} (h : Blk W b C t) (g : W.grownBy W' r) (hne : ∀ k, r = some k → b ≠ k) : Blk W' b C t :=
  (g.block b h.lt (by intro e; exact hne b (by first | exact e | exact e.symm) rfl)).trans h
theorem row_grown {W W' : World} {b1 b2 s1 s2 n1 n2 : Nat} {e1 e2 : TypeId} {v1 v2 : Value} {xs1 xs2 : List Value} (h : W.ownsRow b1 e1 s1 v1 n1 xs1) (r : W.ownsRow b2 e2 s2 v2 n2 xs2) (hne : e1 ≠ e2) (g : W.grownBy W' v2.ownBlock) : W'.ownsRow b1 e1 s1 v1 n1 xs1 := by
  refine h.kept g ?_
  obtain ⟨_, h2⟩ := h
  obtain ⟨_, r2⟩ := r
  rcases h2 with ⟨rfl, _⟩ | ⟨g1, cap1, cur1, rfl, _, hc1, _⟩
  · exact .inl rfl
  · right
    rcases r2 with ⟨rfl, _⟩ | ⟨g2, cap2, cur2, rfl, _, hc2, _⟩
    · simp [Value.ownBlock]
    · simp [Value.ownBlock]
      intro e
      subst e
      rw [hc1] at hc2
      simp at hc2
      exact hne hc2.2

set_option maxRecDepth 100000 in
set_option maxHeartbeats 16000000 in
theorem pumps_any (a : Option Addr) (n0 cap : Nat) (w : World) (hn : NumsAt w a n0) :
    Calls Try.prog 9 #[.slice a n0 cap] w fun e w' => e = .returned (.bool true) ∧ Below w.heap.size w w' := by
  go_enter Try.func9, Try.ntmps9
  go_wp2_with fail
  refine (newseed_at a n0 cap _ hn).mono ?_
  rintro e w1 ⟨rfl, hS, hB⟩
  clear hn
  obtain ⟨bs, hbs⟩ : ∃ b, w.heap.size = b := ⟨_, rfl⟩
  rw [hbs] at hS ⊢
  have hle : w.heap.size ≤ bs := by omega
  have HB := Lib.hid (And.intro hle hB)
  clear hbs hB hle
  have hb1 : bs < w1.heap.size := hS.choose_spec.lt
  go_wp2_with fail
  refine (frostof_in bs w1 hS).mono ?_
  rintro e w2 ⟨l, v, rfl, hl, hR, hA⟩
  clear hS
  obtain ⟨va, vcap, hvv, hz1, hz2, hz3⟩ := covAt_of_row hR
  clear hz1 hz2 hz3
  subst hvv
  go_wp2_with fail
  refine (iceof_in bs w2 hA.seed).mono ?_
  rintro e w3 ⟨x, rfl, hx, hd⟩
  replace hR := hd.row hR (by omega)
  replace hA := hA.trans hd
  clear hd
  have zA := hA.2.size
  have jL := (Blk.new w3 #[.int .i64 l.gr, .int .i64 l.la, .slice va l.n vcap, .int .i64 l.m0, .int .i64 l.m1, .int .i64 l.so, .int .i64 l.h0, .int .i64 l.h1] 26).alloc (.cells #[.int .i64 x.b0, .int .i64 x.b1, .int .i64 x.w0, .int .i64 x.w1, .int .i64 x.q0, .int .i64 x.q1, .int .i64 x.s0, .int .i64 x.s1] 28)
  have jX := Blk.new1 w3 (.cells #[.int .i64 l.gr, .int .i64 l.la, .slice va l.n vcap, .int .i64 l.m0, .int .i64 l.m1, .int .i64 l.so, .int .i64 l.h0, .int .i64 l.h1] 26) #[.int .i64 x.b0, .int .i64 x.b1, .int .i64 x.w0, .int .i64 x.w1, .int .i64 x.q0, .int .i64 x.q1, .int .i64 x.s0, .int .i64 x.s1] 28
  replace hR := (hR.alloc (.cells #[.int .i64 l.gr, .int .i64 l.la, .slice va l.n vcap, .int .i64 l.m0, .int .i64 l.m1, .int .i64 l.so, .int .i64 l.h0, .int .i64 l.h1] 26)).alloc (.cells #[.int .i64 x.b0, .int .i64 x.b1, .int .i64 x.w0, .int .i64 x.w1, .int .i64 x.q0, .int .i64 x.q1, .int .i64 x.s0, .int .i64 x.s1] 28)
  replace hA := (hA.new (.cells #[.int .i64 l.gr, .int .i64 l.la, .slice va l.n vcap, .int .i64 l.m0, .int .i64 l.m1, .int .i64 l.so, .int .i64 l.h0, .int .i64 l.h1] 26)).new (.cells #[.int .i64 x.b0, .int .i64 x.b1, .int .i64 x.w0, .int .i64 x.w1, .int .i64 x.q0, .int .i64 x.q1, .int .i64 x.s0, .int .i64 x.s1] 28)
  go_wp2_with fail
  refine (yes_in 2 bs _ hA.seed (by decide)).mono ?_
  rintro e w4 ⟨fr, rfl, hd⟩
  obtain ⟨bL, hbL⟩ : ∃ b, w3.heap.size = b := ⟨_, rfl⟩
  rw [hbL] at zA jL jX
  (try rw [hbL])
  clear hbL
  replace jL := hd.blk jL (by omega)
  replace jX := hd.blk jX (by omega)
  replace hR := hd.row hR (by omega)
  replace hA := hA.trans hd
  clear hd
  go_wp2_with fail
  refine (daysof_in 7 (by decide) (by decide) fr bs _ hA.seed).mono ?_
  rintro e w5 ⟨vd, n, d, rfl, hn7, hdk, hD, hd⟩
  replace jL := hd.blk jL (by omega)
  replace jX := hd.blk jX (by omega)
  replace hR := hd.row hR (by omega)
  replace hA := hA.trans hd
  clear hd
  have hok : ∀ i, i < n → (d i).Ok := fun i hi => (hdk i hi).ok
  clear hdk
  go_wp2_with fail
  refine (below_in 200 bs _ hA.seed (by decide)).mono ?_
  rintro e w6 ⟨c, rfl, c0, c1, hd⟩
  replace jL := hd.blk jL (by omega)
  replace jX := hd.blk jX (by omega)
  replace hR := hd.row hR (by omega)
  replace hD := hd.row hD (by omega)
  replace hA := hA.trans hd
  clear hd
  go_wp2_with fail
  refine (lday_any c 0 0 _).mono ?_
  rintro e w7 ⟨rfl, hb⟩
  have hd := (Drawn.refl hA.seed).after hb
  replace jL := hd.blk jL (by omega)
  replace jX := hd.blk jX (by omega)
  replace hR := hd.row hR (by omega)
  replace hD := hd.row hD (by omega)
  replace hA := hA.trans hd
  clear hd hb
  have hB7 : Below w.heap.size w w7 := Drawn.below HB.out.2 hA HB.out.1
  have hs7 := hA.seed
  have zw := HB.out.1
  have zs7 : bs < w7.heap.size := hs7.choose_spec.lt
  clear hA HB
  obtain ⟨i0, hi0, hz0, hz1, hz2⟩ := info_parts Try.infoDay
  have hOk := (fun i (hi : i < n + 1) => (updD_all (P := fun (z : Dy) => z.Ok) hok (show Dy.Ok ⟨c, c, 0, 0, 0, false⟩ from ⟨by simp only; omega, Int.le_refl _, by simp only; omega, Int.le_refl 0, Int.le_refl 0, (by decide : (0 : Int) ≤ 1000), Int.le_refl 0, (by decide : (0 : Int) ≤ 200)⟩)) i hi)
  have HOk := Lib.hid hOk
  clear hOk hok
  go_upto_region 4 with (at_builtin; refine wpList_append_own_at _ rfl _ _ 38 rfl (bs + 1) 30 i0 (.agg #[.int .i64 0, .int .i64 0, .int .i64 0, .int .i64 0, .int .i64 0, .bool false]) 6 48 Try.underlying38 hi0 hz0 hz1 hz2 rfl (by decide) _ _ _ rfl (hD.alloc _) ⟨w7.heap.size, 0, none⟩ 1 1 (dayC ⟨c, c, 0, 0, 0, false⟩) rfl rfl (news6 _ ⟨c, c, 0, 0, 0, false⟩ _) (one6 _) (by unfold maxLen; omega) (by omega) (by simp; omega) ?_; intro v' w8 hown' hgrow _ _; replace hgrow : (w7.alloc (.cells #[.int .i64 c, .int .i64 c, .int .i64 0, .int .i64 0, .int .i64 0, .bool false] 30)).grownBy w8 vd.ownBlock := hgrow; rw [← daysC_upd] at hown'; obtain ⟨g', cap', rfl⟩ := ownsRow_succ hown')
  have kL := (jL.alloc (.cells #[.int .i64 c, .int .i64 c, .int .i64 0, .int .i64 0, .int .i64 0, .bool false] 30)).grown2 hgrow (blk_row_ne (jL.alloc (.cells #[.int .i64 c, .int .i64 c, .int .i64 0, .int .i64 0, .int .i64 0, .bool false] 30)) (hD.alloc (.cells #[.int .i64 c, .int .i64 c, .int .i64 0, .int .i64 0, .int .i64 0, .bool false] 30)) (by decide))
  have kX := (jX.alloc (.cells #[.int .i64 c, .int .i64 c, .int .i64 0, .int .i64 0, .int .i64 0, .bool false] 30)).grown2 hgrow (blk_row_ne (jX.alloc (.cells #[.int .i64 c, .int .i64 c, .int .i64 0, .int .i64 0, .int .i64 0, .bool false] 30)) (hD.alloc (.cells #[.int .i64 c, .int .i64 c, .int .i64 0, .int .i64 0, .int .i64 0, .bool false] 30)) (by decide))
  have kR := row_grown (hR.alloc (.cells #[.int .i64 c, .int .i64 c, .int .i64 0, .int .i64 0, .int .i64 0, .bool false] 30)) (hD.alloc (.cells #[.int .i64 c, .int .i64 c, .int .i64 0, .int .i64 0, .int .i64 0, .bool false] 30)) (by decide) hgrow
  have kS : SeedAt bs w8 := hs7.imp fun u h => (h.alloc (.cells #[.int .i64 c, .int .i64 c, .int .i64 0, .int .i64 0, .int .i64 0, .bool false] 30)).grown2 hgrow (blk_row_ne (h.alloc (.cells #[.int .i64 c, .int .i64 c, .int .i64 0, .int .i64 0, .int .i64 0, .bool false] 30)) (hD.alloc (.cells #[.int .i64 c, .int .i64 c, .int .i64 0, .int .i64 0, .int .i64 0, .bool false] 30)) (by decide))
  have kB : Below w.heap.size w w8 := (hB7.alloc hB7.size (.cells #[.int .i64 c, .int .i64 c, .int .i64 0, .int .i64 0, .int .i64 0, .bool false] 30)).grown hgrow (by have := hB7.size; simp; omega) (fun q e => by have := (hD.lt q e).1; omega)
  have kC := covAt_of_row kR
  have kD := daysAt_of_row hown'
  have hk8 : ∀ i, i < n + 1 → (updD d n ⟨c, c, 0, 0, 0, false⟩ i).Ok := HOk.out
  clear jL jX hR hD hgrow hs7 hB7 hown' kR HOk zs7
  generalize updD d n ⟨c, c, 0, 0, 0, false⟩ = dd at kD hk8
  have HOk := Lib.hid hk8
  clear hk8
  have jL := kL
  have jX := kX
  clear kL kX
  have e1 : IntKind.i64.wrap ((n : Int) + 1) = (n : Int) + 1 := IntWalk.i64_in _ (by omega)
  go_wp2_with fail
  refine (from_in 1 ((n : Int) + 1) bs _ kS (by decide) (by omega) (by decide) (by omega)).mono ?_
  rintro e w9 ⟨at0, rfl, at1, at2, hE⟩
  clear e1
  go_wp2_with fail
  refine (below_in 60 bs _ hE.seed (by decide)).mono ?_
  rintro e w10 ⟨most0, rfl, mo0, mo1, hd⟩
  replace hE := hE.trans hd
  clear hd
  obtain ⟨j, hj0⟩ : ∃ q : Nat, at0 = (q : Int) + 1 := ⟨(at0 - 1).toNat, by omega⟩
  subst hj0
  have hj : j < n + 1 := by omega
  obtain ⟨most, rfl⟩ := Int.eq_ofNat_of_zero_le mo0
  have hm : most ≤ 59 := by omega
  clear at1 at2 mo0 mo1
  have kbs : bs ≠ bs + 1 := by omega
  replace jL := hE.blk jL (by omega)
  replace jX := hE.blk jX (by omega)
  replace kC := kC.drawn kS hE
  replace kD := kD.drawn kS hE
  replace kB : Below w.heap.size w w10 := Drawn.below kB hE zw
  clear kS hE kbs
  obtain ⟨l0, l1, l2, l3, l4, l5, l6, l7⟩ := jL.c8
  obtain ⟨x0, x1, x2, x3, x4, x5, x6, x7⟩ := jX.c8
  have zL := jL.lt
  have zX := jX.lt
  go_wp2_with fail
  clear l0 l1 l2 l3 l4 l5 l6 l7 x0 x1 x2 x3 x4 x5 x6 x7 zL zX
  refine (flood_kit l _ x _ (n + 1) dd j most _ hl kC hx.val kD (by omega) HOk.out hj (by omega)).mono ?_
  rintro e w11 ⟨k, rfl, hk, hb⟩
  replace jL := jL.call hb
  replace jX := jX.call hb
  replace kC := kC.later hb
  replace kD := kD.later hb
  replace kB := bwS kB (Nat.le_refl _) hb
  clear hb
  rcases hk with ⟨rfl, hy⟩ | ⟨q, rfl, hq, hy, hz⟩
  · have HY := Lib.hid hy
    clear hy
    have d1 : ((-1 : Int) == (most : Int)) = false := by first | (simp; done) | (simp; omega)
    obtain ⟨l0, l1, l2, l3, l4, l5, l6, l7⟩ := jL.c8
    obtain ⟨x0, x1, x2, x3, x4, x5, x6, x7⟩ := jX.c8
    have zL := jL.lt
    have zX := jX.lt
    go_wp2_with fail
    refine (left_kit l _ x _ (n + 1) dd j 0 _ hl kC hx.val kD (by omega) HOk.out hj (by omega) (by omega)).mono ?_
    rintro e w12 ⟨rfl, hb⟩
    replace jL := jL.call hb
    replace jX := jX.call hb
    replace kC := kC.later hb
    replace kD := kD.later hb
    replace kB := bwS kB (Nat.le_refl _) hb
    clear hb
    rw [HY.out]
    clear HY d1
    go_wp2_with fail
    refine (awake_any _).mono ?_
    rintro e w20 ⟨rfl, hb⟩
    replace kB := bwS kB (Nat.le_refl _) hb
    go_wp2
    go_ret
    exact ⟨rfl, kB⟩
  · have HY := Lib.hid hy
    have HZ := Lib.hid hz
    clear hy hz
    obtain ⟨l0, l1, l2, l3, l4, l5, l6, l7⟩ := jL.c8
    obtain ⟨x0, x1, x2, x3, x4, x5, x6, x7⟩ := jX.c8
    have zL := jL.lt
    have zX := jX.lt
    go_wp2_with fail
    refine (left_kit l _ x _ (n + 1) dd j q _ hl kC hx.val kD (by omega) HOk.out hj (by omega) (by omega)).mono ?_
    rintro e w12 ⟨rfl, hb⟩
    replace jL := jL.call hb
    replace jX := jX.call hb
    replace kC := kC.later hb
    replace kD := kD.later hb
    replace kB := bwS kB (Nat.le_refl _) hb
    clear hb
    rw [HY.out]
    clear l0 l1 l2 l3 l4 l5 l6 l7 x0 x1 x2 x3 x4 x5 x6 x7 zL zX
    by_cases hqm : q = most
    · subst hqm
      clear HY HZ
      go_wp2_with fail
      refine (awake_any _).mono ?_
      rintro e w20 ⟨rfl, hb⟩
      replace kB := bwS kB (Nat.le_refl _) hb
      go_wp2
      go_ret
      exact ⟨rfl, kB⟩
    · have hz2 := HZ.out (by omega)
      have HZ2 := Lib.hid hz2
      have d1 : ((q : Int) == (most : Int)) = false := by first | (simp; done) | (simp; omega)
      have e1 : IntKind.i64.wrap ((q : Int) + 1) = (q : Int) + 1 := IntWalk.i64_in _ (by omega)
      clear hz2 HZ hqm
      obtain ⟨l0, l1, l2, l3, l4, l5, l6, l7⟩ := jL.c8
      obtain ⟨x0, x1, x2, x3, x4, x5, x6, x7⟩ := jX.c8
      have zL := jL.lt
      have zX := jX.lt
      go_wp2_with fail
      refine (left_kit l _ x _ (n + 1) dd j ((q : Int) + 1) _ hl kC hx.val kD (by omega) HOk.out hj (by omega) (by omega)).mono ?_
      rintro e w13 ⟨rfl, hb⟩
      replace jL := jL.call hb
      replace jX := jX.call hb
      replace kC := kC.later hb
      replace kD := kD.later hb
      replace kB := bwS kB (Nat.le_refl _) hb
      clear hb
      rw [HZ2.out]
      clear l0 l1 l2 l3 l4 l5 l6 l7 x0 x1 x2 x3 x4 x5 x6 x7 zL zX HY HZ2 d1 e1
      go_wp2_with fail
      refine (awake_any _).mono ?_
      rintro e w20 ⟨rfl, hb⟩
      replace kB := bwS kB (Nat.le_refl _) hb
      go_wp2
      go_ret
      exact ⟨rfl, kB⟩
end Go.Proofs.Ytkldjaofgdklbaa
