/-
  bear.Speeds: the iterator over the speeds that are Sure, and the spans of its numbers.
-/
import Derived.Test.YtkkljbbgaogifaaTail
import Derived.RangeFuncBox
import Derived.Test.YtkkljbbgaogifaaRng
import Derived.Test.YtkkljbbgaogifaaSpR
set_option linter.unusedVariables false
set_option linter.unusedSimpArgs false
namespace Go.Proofs.Ytkkljbbgaogifaa
open Go.RowKit Go.Shelf
attribute [local go_sem] Oper.semAt_some

theorem sure_any (p : Pl) (aS aC : Option Addr) (nS cS nC cC : Nat) (a b shore : Int) (w : World) :
    Calls Try.prog 107 #[.agg #[.int .i64 p.s0, .int .i64 p.s1, (.slice aS nS cS), (.slice aC nC cC), .int .i64 p.ne, .int .i64 p.ed, .int .i64 p.gr, .int .i64 p.lo, .int .i64 p.hi, .int .i64 p.sh, .int .i64 p.wi], .agg #[.int .i64 a, .int .i64 b], .int .i64 shore] w fun e w' => e = .returned (.func (.func 138) #[] #[.pointer (some ⟨w.heap.size, 0, none⟩), .pointer (some ⟨w.heap.size + 1, 0, none⟩), .pointer (some ⟨w.heap.size + 1 + 1, 0, none⟩)]) ∧
      ((w.alloc (.cells #[.int .i64 p.s0, .int .i64 p.s1, (.slice aS nS cS), (.slice aC nC cC), .int .i64 p.ne, .int .i64 p.ed, .int .i64 p.gr, .int .i64 p.lo, .int .i64 p.hi, .int .i64 p.sh, .int .i64 p.wi] 26)).alloc (.cells #[.int .i64 a, .int .i64 b] 23)).alloc (.cells #[.int .i64 shore] 3) = w' := by
  go_enter Try.func107, Try.ntmps107
  go_wp2
  go_ret
  exact ⟨rfl, rfl⟩

set_option maxRecDepth 100000 in
set_option maxHeartbeats 4000000 in
theorem surei_in (n l s : Nat) (p : Pl) (hp : p.Ok) (aS aC : Option Addr) (cS cC : Nat) (a b shore : Int) (hd : 0 ≤ a ∧ a ≤ b ∧ b ≤ 10000) (w : World)
    (kP : Blk w s #[.int .i64 p.s0, .int .i64 p.s1, (.slice aS p.S.n cS), (.slice aC p.C.n cC), .int .i64 p.ne, .int .i64 p.ed, .int .i64 p.gr, .int .i64 p.lo, .int .i64 p.hi, .int .i64 p.sh, .int .i64 p.wi] 26) (kD : Blk w (s + 1) #[.int .i64 a, .int .i64 b] 23) (kS : Blk w (s + 1 + 1) #[.int .i64 shore] 3)
    (J : Nat → World → Prop) (hJb : ∀ k W W', J k W → Below W.heap.size W W' → J k W') (hJn : ∀ k W, k ≤ 1000 → spdF p a b shore k = false → J k W → J (k + 1) W)
    (hY : ∀ k W, k ≤ 1000 → spdF p a b shore k = true → J k W → Below w.heap.size w W → YieldAt Fence.wide (n - 1) Try.prog l #[.int .i64 k] W fun e W' => e = .returned (.bool true) ∧ J (k + 1) W' ∧ Below w.heap.size w W')
    (W : World) (hJ0 : J 0 W) (hI : Below w.heap.size w W) :
    CallsIn Fence.wide n Try.prog 138 #[.func (.yield l) #[] #[], .pointer (some ⟨s, 0, none⟩), .pointer (some ⟨s + 1, 0, none⟩), .pointer (some ⟨s + 1 + 1, 0, none⟩)] W fun e W' => (∃ v, e = .returned v) ∧ J 1001 W' ∧ Below w.heap.size w W' := by
  have HC : Hid (∀ k : Nat, k ≤ 1000 → ∃ c, spdF p a b shore k = decide (c = (1 : Int)) ∧ ∀ W, Calls Try.prog 103 #[.agg #[.int .i64 p.s0, .int .i64 p.s1, (.slice aS p.S.n cS), (.slice aC p.C.n cC), .int .i64 p.ne, .int .i64 p.ed, .int .i64 p.gr, .int .i64 p.lo, .int .i64 p.hi, .int .i64 p.sh, .int .i64 p.wi], .agg #[.int .i64 a, .int .i64 b], .int .i64 shore, .int .i64 k] W fun e w' => e = .returned (.int .i64 c) ∧ Below W.heap.size W w') := fun k hk => ⟨_, rfl, fun W => calm_any p hp aS aC _ cS _ cC a b shore (k : Int) (by omega) hd W⟩
  have HK := Lib.hid (And.intro kP (And.intro kD kS))
  have HJ := Lib.hid (And.intro hJb hJn)
  have HY := Lib.hid hY
  clear kP kD kS hJb hJn hY hp hd
  generalize spdF p a b shore = f at HC HJ HY
  refine callsIn_of_wp Try.func138 rfl trivial ?_ rfl
  simp only [Try.ntmps138, List.size_toArray, List.length_cons, List.length_nil, Nat.reduceAdd, Nat.reduceSub, Array.replicate_succ, Array.replicate_zero, List.push_toArray, List.append_toArray, List.nil_append, List.cons_append]
  gi_wp2
  gi_loopw [6] (fun i wr => ∃ k : Nat, k ≤ 1001 ∧ i = .int .i64 k ∧ J k wr ∧ Below w.heap.size w wr) (fun i _ => 1001 - (intOf i).toNat)
  case atStart => exact ⟨0, by omega, rfl, hJ0, hI⟩
  case round =>
    obtain ⟨k, hk, rfl, hJk, hB⟩ := hrel
    clear hI hJ0
    by_cases hlt : k ≤ 1000
    · have hlt2 : (k : Int) < 1001 := by omega
      have kP := HK.out.1.call hB
      have kD := HK.out.2.1.call hB
      have kS := HK.out.2.2.call hB
      obtain ⟨c0, c1, c2, c3, c4, c5, c6, c7, c8, c9, c10⟩ := kP.c11
      obtain ⟨d0, d1⟩ := kD.c2
      have s0 := kS.cell1
      have zP := kP.lt
      have zD := kD.lt
      have zS := kS.lt
      obtain ⟨c, hc, hcall⟩ := HC.out k hlt
      have HCk := Lib.hid hcall
      have HF := Lib.hid hc
      clear hc hcall kP kD kS
      gi_wp2_with fail
      refine ⟨trivial, fun h => (by simp [Fence.wide] at h), ?_⟩
      refine (callsIn_wide.2 (HCk.out _)).mono ?_
      rintro e w2 ⟨rfl, hb⟩
      have hJ2 := HJ.out.1 k _ _ hJk hb
      have hB2 := bwS hB (Nat.le_refl _) hb
      clear hb hJk hB c0 c1 c2 c3 c4 c5 c6 c7 c8 c9 c10 d0 d1 s0 zP zD zS HCk
      by_cases hc1 : c = 1
      · subst hc1
        have hf : f k = true := by rw [HF.out]; rfl
        obtain ⟨fn, tmps, assign, body, hy, hR⟩ := HY.out k _ hlt hf hJ2 hB2
        clear hJ2 hB2 hf
        gi_wp2
        refine ⟨fun h => (by simp [Fence.wide] at h), ?_⟩
        refine hR.mono ?_
        rintro e W3 ⟨rfl, hJ4, hI4⟩
        gi_wp2
        go_roundw
        case rel => exact ⟨k + 1, by omega, by go_num, hJ4, hI4⟩
        case measure => simp [intOf]; omega
      · have e2 : (c == 1) = false := by simp [hc1]
        have hf : f k = false := by rw [HF.out]; simp [hc1]
        have hJ3 := HJ.out.2 k _ hlt hf hJ2
        clear hJ2 hf hc1
        gi_wp2
        refine ⟨fun _ h => (by cases h), ?_⟩
        gi_wp2
        go_roundw
        case rel => exact ⟨k + 1, by omega, by go_num, hJ3, hB2⟩
        case measure => simp [intOf]; omega
    · have hlt2 : ¬ (k : Int) < 1001 := by omega
      obtain rfl : k = 1001 := by omega
      gi_wp2
      go_end0
      exact ⟨⟨_, rfl⟩, hJk, hB⟩

structure SpsAt (B base l : Nat) (ll dl : Obj) (S : Nat → Sp) (k : Nat) (V : World) : Prop where
  row : ∃ v, Boxed V B 42 v ∧ V.ownsRow base 23 2 v (S k).m (catC (pairC (S k).A (S k).B) (S k).m)
  loop : V.heap[l]? = some ll
  dfr : V.heap[base]? = some dl
theorem grown_below {w w' : World} (h : Below w.heap.size w w') : w.grownBy w' none := ⟨h.os, h.tape, h.output, h.size, fun k hk _ => h.block k hk⟩
theorem below_put {B : Nat} (W : World) (l : Nat) (o : Obj) (hl : B ≤ l) : Below B W (W.putObj l o) := ⟨rfl, rfl, rfl, by simp, fun k hk => World.putObj_heap_other (by omega)⟩
theorem SpsAt.call {B base l : Nat} {ll dl : Obj} {S : Nat → Sp} {k : Nat} {V V' : World} (h : SpsAt B base l ll dl S k V) (hb : Below V.heap.size V V') : SpsAt B base l ll dl S k V' := by
  obtain ⟨⟨v, h1, h2⟩, h3, h4⟩ := h
  exact ⟨⟨v, (hb.block _ h1.lt).trans h1, row_call h2 hb⟩, (hb.block _ (Array.getElem?_eq_some_iff.1 h3).1).trans h3, (hb.block _ (Array.getElem?_eq_some_iff.1 h4).1).trans h4⟩

set_option maxRecDepth 100000 in
set_option maxHeartbeats 8000000 in
theorem spans_in (s : Nat) (p : Pl) (hp : p.Ok) (aS aC : Option Addr) (cS cC : Nat) (a b shore : Int) (hd : 0 ≤ a ∧ a ≤ b ∧ b ≤ 10000) (w : World)
    (kP : Blk w s #[.int .i64 p.s0, .int .i64 p.s1, (.slice aS p.S.n cS), (.slice aC p.C.n cC), .int .i64 p.ne, .int .i64 p.ed, .int .i64 p.gr, .int .i64 p.lo, .int .i64 p.hi, .int .i64 p.sh, .int .i64 p.wi] 26) (kD : Blk w (s + 1) #[.int .i64 a, .int .i64 b] 23) (kS : Blk w (s + 1 + 1) #[.int .i64 shore] 3) :
    Calls Try.prog 106 #[.func (.func 138) #[] #[.pointer (some ⟨s, 0, none⟩), .pointer (some ⟨s + 1, 0, none⟩), .pointer (some ⟨s + 1 + 1, 0, none⟩)]] w fun e w' => ∃ u, e = .returned u ∧ w'.ownsRow w.heap.size 23 2 u (spV (spdF p a b shore) 1001).m (catC (pairC (spV (spdF p a b shore) 1001).A (spV (spdF p a b shore) 1001).B) (spV (spdF p a b shore) 1001).m) ∧ Below w.heap.size w w' := by
  refine (callsIn_wide (n := 5)).1 ?_
  refine callsIn_of_wp_marks Try.func106 rfl trivial ?_ rfl
  simp only [Try.ntmps106, List.size_toArray, List.length_cons, List.length_nil, Nat.reduceAdd, Nat.reduceSub, Array.replicate_succ, Array.replicate_zero, List.push_toArray, List.append_toArray, List.nil_append, List.cons_append]
  gi_wp2_with fail
  obtain ⟨w2, hw2⟩ : ∃ V, w.alloc (.cells #[.slice none 0 0] 42) = V := ⟨_, rfl⟩
  have hs2 : w2.heap.size = w.heap.size + 1 := by rw [← hw2]; simp
  have gB : Boxed w2 w.heap.size 42 (.slice none 0 0) := by rw [← hw2]; exact Boxed.new w 42 (.slice none 0 0)
  have gW : Below w.heap.size w w2 := by rw [← hw2]; exact (Below.refl _ w).alloc (Nat.le_refl _) _
  have zP := kS.lt
  (try rw [hw2])
  clear hw2
  refine range_raw rfl (by omega) (gf := 138) (lb := #[.pointer (some ⟨s, 0, none⟩), .pointer (some ⟨s + 1, 0, none⟩), .pointer (some ⟨s + 1 + 1, 0, none⟩)]) rfl trivial (enters_of Try.func138 (by kernel_rfl) rfl) (fun fn hfn rec hrec => ?_)
  have e1 : ((w2.alloc (.deferred (some []))).alloc (.loop (rec .ready none))).heap[w2.heap.size + 1]? = some (.loop (rec .ready none)) := by
    have := World.alloc_heap_new (w2.alloc (.deferred (some []))) (.loop (rec .ready none))
    simpa using this
  have e2 : ((w2.alloc (.deferred (some []))).alloc (.loop (rec .ready none))).heap[w2.heap.size]? = some (.deferred (some [])) := (Below.heap_alloc _ _ _ (by simp)).trans (World.alloc_heap_new w2 _)
  have e3 : Below w2.heap.size w2 ((w2.alloc (.deferred (some []))).alloc (.loop (rec .ready none))) := by (repeat (first | exact Below.refl _ _ | assumption | refine Below.drew ?_ | refine Below.drewN ?_ _ | refine blT ?_ | refine blU ?_))
  obtain ⟨W1, hW1⟩ : ∃ W, (w2.alloc (.deferred (some []))).alloc (.loop (rec .ready none)) = W := ⟨_, rfl⟩
  rw [hW1] at e1 e2 e3 ⊢
  clear hW1
  have HF : Hid (∀ k, (spV (spdF p a b shore) k).m ≤ k) := spV_few _
  have HSs : Hid (∀ k, spV (spdF p a b shore) (k + 1) = if spdF p a b shore k = true then spStep (spV (spdF p a b shore) k) k else spV (spdF p a b shore) k) := fun k => rfl
  have hR0 : SpsAt w.heap.size w2.heap.size (w2.heap.size + 1) (.loop (rec .ready none)) (.deferred (some [])) (spV (spdF p a b shore)) 0 W1 := ⟨⟨_, (e3.block _ (by omega)).trans gB, World.ownsRow_nil _ _ _ _⟩, e1, e2⟩
  obtain ⟨S, hS⟩ : ∃ S, spV (spdF p a b shore) = S := ⟨_, rfl⟩
  rw [hS] at HF HSs hR0
  (try rw [hS])
  refine (surei_in 4 (w2.heap.size + 1) s p hp aS aC cS cC a b shore hd w kP kD kS (SpsAt w.heap.size w2.heap.size (w2.heap.size + 1) (.loop (rec .ready none)) (.deferred (some [])) S) ?hJb ?hJn ?hY W1 hR0 (gW.trans (e3.mono (by omega)))).mono ?post
  case hJb => exact fun k W W' h hb => h.call hb
  case hJn =>
    intro k W hk hf h
    have hn := HSs.out k
    rw [if_neg (by rw [hf]; simp)] at hn
    obtain ⟨h1, h2, h3⟩ := h
    exact ⟨by rw [hn]; exact h1, h2, h3⟩
  case hY =>
    intro k V hk hf hJ hI
    have hn := HSs.out k
    rw [if_pos hf] at hn
    have hm1 := HF.out k
    have z2 : w.heap.size < w2.heap.size := by omega
    refine round_raw (R := fun W' => SpsAt w.heap.size w2.heap.size (w2.heap.size + 1) (.loop (rec .ready none)) (.deferred (some [])) S (k + 1) W' ∧ Below w.heap.size w W') trivial hrec hJ.loop rfl ?_
    obtain ⟨⟨v, hv, hrow⟩, hl, hdf⟩ := hJ
    obtain ⟨⟨m, A, B⟩, hsk⟩ : ∃ z, S k = z := ⟨_, rfl⟩
    rw [hsk] at hn hrow hm1
    simp only at hrow hm1
    have HSk := Lib.hid hn
    have HRec := Lib.hid hrec
    clear hs2 hn hsk hS HF HSs hrec e1 e2 e3 hR0 kP kD kS hf
    have HLp := Lib.hid hl
    clear hl
    gi_wp2
    refine ⟨HLp.out, ?_⟩
    have hl := HLp.out
    clear HLp
    have hll : w2.heap.size + 1 < V.heap.size := (Array.getElem?_eq_some_iff.1 hl).1
    have bV : Below w2.heap.size V (V.putObj (w2.heap.size + 1) (.loop (rec .busy none))) := below_put _ _ _ (by omega)
    have v1 : Boxed (V.putObj (w2.heap.size + 1) (.loop (rec .busy none))) w.heap.size 42 v := (bV.block _ (by omega)).trans hv
    have v2 := ownsRow_putObj hrow (.loop (rec .busy none)) hl rfl
    have v4 : (V.putObj (w2.heap.size + 1) (.loop (rec .busy none))).heap[w2.heap.size + 1]? = some (.loop (rec .busy none)) := World.putObj_heap_same hll
    have v5 : (V.putObj (w2.heap.size + 1) (.loop (rec .busy none))).heap[w2.heap.size]? = some (.deferred (some [])) := (World.putObj_heap_other (by omega)).trans hdf
    have v6 : Below w.heap.size w (V.putObj (w2.heap.size + 1) (.loop (rec .busy none))) := hI.trans (bV.mono (by omega))
    obtain ⟨V2, hV2⟩ : ∃ V2, V.putObj (w2.heap.size + 1) (.loop (rec .busy none)) = V2 := ⟨_, rfl⟩
    rw [hV2] at bV v1 v2 v4 v5 v6 ⊢
    have zV2 : V2.heap.size = V.heap.size := by rw [← hV2]; simp
    clear hV2 hrow hv hl hdf hI
    have cb := v1.cell
    have fb := v1.frozen
    have zb := v1.lt
    have z4 : w2.heap.size ≤ V2.heap.size := by omega
    clear zV2 hll
    obtain ⟨i0, hi, hz0, hz1, hz2⟩ := info_parts Try.infoSpan
    obtain ⟨aR, cR, hvv, hcR, hmR, h3⟩ := pairs_of_row v2
    subst hvv
    have H3 := Lib.hid h3
    clear h3
    cases m with
    | zero =>
      have hst := HSk.out
      rw [spStep_none] at hst
      replace HSk := Lib.hid hst
      clear hst H3
      gi_wp2_with (gi_at_builtin; refine wpListIn_append_own _ rfl _ _ 42 rfl w2.heap.size 23 i0 (.agg #[.int .i64 0, .int .i64 0]) 2 16 Try.underlying42 hi hz0 hz1 hz2 rfl (by decide) _ _ _ rfl (v2.alloc _) ⟨V2.heap.size, 0, none⟩ 1 1 [.int .i64 k, .int .i64 k] rfl rfl (news2 _ _ _ _) (one2 _ _) (by unfold maxLen; omega) (by omega) (by simp; omega) ?_; intro v' w4 hown' hgrow _; obtain ⟨g', cap', rfl⟩ := ownsRow_succ hown'; obtain ⟨hv1, hv2, _, hk2, _⟩ := v1.appended (n₀ := w.heap.size) (by decide) (ownsRow_base v2 (by omega)) (by omega) (Nat.le_refl _) (ownsRow_base hown' (by omega)) hgrow; have hc1 := hv1.cell; have hf1 := hv1.frozen; rw [← pairC_up] at hown')
      have y1 : Below w2.heap.size V2 w4 := (Below.alloc (Below.refl _ V2) z4 _).grown hgrow (by simp; omega) (fun j ej => ((v2.lt _ ej)).1)
      have y5 : Below w.heap.size w w4 := v6.trans (y1.mono (by omega))
      have t1 := hk2.same _ _ v4 rfl
      have t2 := hk2.same _ _ v5 rfl
      have t3 := ownsRow_putObj (ownsRow_setCell_below hown' (a := ⟨w.heap.size, 0, none⟩) (by simp; omega) (.slice (some ⟨g', 0, none⟩) 1 cap')) (.loop (rec .ready none)) t1 rfl
      have t4 : w2.heap.size + 1 < (w4.setCell ⟨w.heap.size, 0, none⟩ (.slice (some ⟨g', 0, none⟩) 1 cap')).heap.size := (Array.getElem?_eq_some_iff.1 t1).1
      have y6 : Below w.heap.size w (w4.setCell ⟨w.heap.size, 0, none⟩ (.slice (some ⟨g', 0, none⟩) 1 cap')) := y5.setCell (by simp) _
      exact ⟨t1, ⟨⟨_, (World.putObj_heap_other (by omega)).trans hv2, by rw [HSk.out]; exact t3⟩, World.putObj_heap_same t4, (World.putObj_heap_other (by omega)).trans t2⟩, y6.trans (below_put _ _ _ (by omega))⟩
    | succ j =>
      obtain ⟨g, cur, rfl, hg, kN⟩ := row_blk v2 (by omega)
      obtain ⟨b', o', hb', hcc⟩ := H3.out (by omega)
      simp only [Option.some.injEq, Addr.mk.injEq, and_true] at hb'
      obtain ⟨rfl, rfl⟩ := hb'
      have l1 := (hcc j (by omega)).2
      simp only [Nat.zero_add] at l1
      clear hcc H3
      have zN := kN.lt
      have ew0 : IntKind.i64.wrap (((j + 1 : Nat) : Int) - 1) = (j : Int) := by rw [show ((j + 1 : Nat) : Int) - 1 = (j : Int) by omega]; exact IntWalk.i64_in _ (by omega)
      have ew1 : IntKind.i64.wrap ((k : Int) - 1) = (k : Int) - 1 := IntWalk.i64_in _ (by omega)
      have hm0 : (0 : Int) ≤ (j : Int) := by omega
      have hjl : (j : Int) < ((j + 1 : Nat) : Int) := by omega
      obtain ⟨y, hy⟩ : ∃ y, B j = y := ⟨_, rfl⟩
      rw [hy] at l1
      by_cases hjn : y = (k : Int) - 1
      · have e3 : (y == (k : Int) - 1) = true := by simp [hjn]
        have hst := HSk.out
        rw [spStep_join (hy.trans hjn)] at hst
        replace HSk := Lib.hid hst
        have f2 := kN.free (j * 2 + 1)
        have kOwn := row_setP v2 j (by omega) (k : Int)
        have zgl : g ≠ w2.heap.size + 1 := fun e => by
          have q : V2.heap[g]? = some (.cells cur 23 (0, 0)) := kN
          rw [e, v4] at q
          simp at q
        have zgd : g ≠ w2.heap.size := fun e => by
          have q : V2.heap[g]? = some (.cells cur 23 (0, 0)) := kN
          rw [e, v5] at q
          simp at q
        have t1 : (V2.setCell ⟨g, j * 2 + 1, none⟩ (.int .i64 (k : Int))).heap[w2.heap.size + 1]? = some (.loop (rec .busy none)) := (Below.heap_setCell V2 _ _ _ (by simp; omega)).trans v4
        have t2 : (V2.setCell ⟨g, j * 2 + 1, none⟩ (.int .i64 (k : Int))).heap[w2.heap.size]? = some (.deferred (some [])) := (Below.heap_setCell V2 _ _ _ (by simp; omega)).trans v5
        have t3 : Boxed (V2.setCell ⟨g, j * 2 + 1, none⟩ (.int .i64 (k : Int))) w.heap.size 42 (.slice (some ⟨g, 0, none⟩) (j + 1) cR) := (Below.heap_setCell V2 _ _ _ (by simp; omega)).trans v1
        have t4 := v6.setCell (p := ⟨g, j * 2 + 1, none⟩) (by simp; omega) (.int .i64 (k : Int))
        have t5 := ownsRow_putObj kOwn (.loop (rec .ready none)) t1 rfl
        have HT1 := Lib.hid t1
        clear t1 v1 v2 v4 v5 v6 kN hst hy kOwn bV
        gi_wp2
        have t1 := HT1.out
        have t6 : w2.heap.size + 1 < (V2.setCell ⟨g, j * 2 + 1, none⟩ (.int .i64 (k : Int))).heap.size := (Array.getElem?_eq_some_iff.1 t1).1
        refine ⟨t1, ⟨⟨_, (World.putObj_heap_other (by omega)).trans t3, by rw [HSk.out]; exact t5⟩, World.putObj_heap_same t6, (World.putObj_heap_other (by omega)).trans t2⟩, t4.trans (below_put _ _ _ (by omega))⟩
      · have e3 : (y == (k : Int) - 1) = false := by simp [hjn]
        have hst := HSk.out
        rw [spStep_apart (fun q => hjn (hy.symm.trans q))] at hst
        replace HSk := Lib.hid hst
        clear hst hy kN hjn
        gi_wp2_with (gi_at_builtin; refine wpListIn_append_own _ rfl _ _ 42 rfl w2.heap.size 23 i0 (.agg #[.int .i64 0, .int .i64 0]) 2 16 Try.underlying42 hi hz0 hz1 hz2 rfl (by decide) _ _ _ rfl (v2.alloc _) ⟨V2.heap.size, 0, none⟩ 1 1 [.int .i64 k, .int .i64 k] rfl rfl (news2 _ _ _ _) (one2 _ _) (by unfold maxLen; omega) (by omega) (by simp; omega) ?_; intro v' w4 hown' hgrow _; obtain ⟨g', cap', rfl⟩ := ownsRow_succ hown'; obtain ⟨hv1, hv2, _, hk2, _⟩ := v1.appended (n₀ := w.heap.size) (by decide) (ownsRow_base v2 (by omega)) (by omega) (Nat.le_refl _) (ownsRow_base hown' (by omega)) hgrow; have hc1 := hv1.cell; have hf1 := hv1.frozen; rw [← pairC_up] at hown')
        have y1 : Below w2.heap.size V2 w4 := (Below.alloc (Below.refl _ V2) z4 _).grown hgrow (by simp; omega) (fun j ej => ((v2.lt _ ej)).1)
        have y5 : Below w.heap.size w w4 := v6.trans (y1.mono (by omega))
        have t1 := hk2.same _ _ v4 rfl
        have t2 := hk2.same _ _ v5 rfl
        have t3 := ownsRow_putObj (ownsRow_setCell_below hown' (a := ⟨w.heap.size, 0, none⟩) (by simp; omega) (.slice (some ⟨g', 0, none⟩) (j + 1 + 1) cap')) (.loop (rec .ready none)) t1 rfl
        have t4 : w2.heap.size + 1 < (w4.setCell ⟨w.heap.size, 0, none⟩ (.slice (some ⟨g', 0, none⟩) (j + 1 + 1) cap')).heap.size := (Array.getElem?_eq_some_iff.1 t1).1
        have y6 : Below w.heap.size w (w4.setCell ⟨w.heap.size, 0, none⟩ (.slice (some ⟨g', 0, none⟩) (j + 1 + 1) cap')) := y5.setCell (by simp) _
        exact ⟨t1, ⟨⟨_, (World.putObj_heap_other (by omega)).trans hv2, by rw [HSk.out]; exact t3⟩, World.putObj_heap_same t4, (World.putObj_heap_other (by omega)).trans t2⟩, y6.trans (below_put _ _ _ (by omega))⟩
  case post =>
    rintro e W3 ⟨⟨v, rfl⟩, hJ, hI⟩
    obtain ⟨⟨u, hu, hrow⟩, hl, hdf⟩ := hJ
    refine post_raw hrec hl v ?_
    have p1 : Boxed (W3.putObj (w2.heap.size + 1) (.loop { rec .ready none with state := .exhausted })) w.heap.size 42 u := (World.putObj_heap_other (by omega)).trans hu
    have p2 := ownsRow_putObj hrow (.loop { rec .ready none with state := .exhausted }) hl rfl
    have p3 : (W3.putObj (w2.heap.size + 1) (.loop { rec .ready none with state := .exhausted })).heap[w2.heap.size]? = some (.deferred (some [])) := (World.putObj_heap_other (by omega)).trans hdf
    have p4 : Below w.heap.size w (W3.putObj (w2.heap.size + 1) (.loop { rec .ready none with state := .exhausted })) := hI.trans (below_put _ _ _ (by omega))
    obtain ⟨W4, hW4⟩ : ∃ W, W3.putObj (w2.heap.size + 1) (.loop { rec .ready none with state := .exhausted }) = W := ⟨_, rfl⟩
    rw [hW4] at p1 p2 p3 p4 ⊢
    rw [← hS] at p2
    clear hW4 hl hdf hu hrow hI hrec e1 e2 e3 hR0 kP kD kS gB HF HSs
    have pc := p1.cell
    have zw : w.heap.size ≤ w2.heap.size := by omega
    clear hs2
    gi_wp2
    refine ⟨by simp, .inl ⟨_, _, rfl, run_takeDeferred p3, ?_⟩⟩
    refine ⟨u, by simp [results, Try.results106, go_sem], u, rfl, ownsRow_base (ownsRow_putObj p2 _ p3 rfl) zw, p4.trans (below_put _ _ _ zw)⟩

set_option maxRecDepth 100000 in
set_option maxHeartbeats 4000000 in
theorem speeds_any (p : Pl) (vS vC : Value) (a b shore : Int) (w : World) (hS : TabAt w vS p.S) (hC : TabAt w vC p.C) :
    Calls Try.prog 46 #[.agg #[.int .i64 p.s0, .int .i64 p.s1, vS, vC, .int .i64 p.ne, .int .i64 p.ed, .int .i64 p.gr, .int .i64 p.lo, .int .i64 p.hi, .int .i64 p.sh, .int .i64 p.wi], .agg #[.int .i64 a, .int .i64 b], .int .i64 shore] w fun e w' => ∃ u, e = .returned (.tuple #[u, .int .i64 (eWav p a b shore)]) ∧ PairsAt w' u (spdS p a b shore).m (spdS p a b shore).A (spdS p a b shore).B ∧ Below w.heap.size w w' := by
  obtain ⟨aS, cS, rfl, _, _, _⟩ := id hS
  obtain ⟨aC, cC, rfl, _, _, _⟩ := id hC
  have HR : Hid (∀ W, Below w.heap.size w W → Calls Try.prog 102 #[.agg #[.int .i64 p.s0, .int .i64 p.s1, (.slice aS p.S.n cS), (.slice aC p.C.n cC), .int .i64 p.ne, .int .i64 p.ed, .int .i64 p.gr, .int .i64 p.lo, .int .i64 p.hi, .int .i64 p.sh, .int .i64 p.wi], .agg #[.int .i64 a, .int .i64 b], .int .i64 shore] W fun e w' => e = .returned (.int .i64 (eWav p a b shore)) ∧ Below W.heap.size W w') := fun W hW => waves_any p _ _ a b shore W (PairsAt.later hS hW) (PairsAt.later hC hW)
  have HG : Hid (eWav p a b shore = 0 → ∀ s W, Blk W s #[.int .i64 p.s0, .int .i64 p.s1, (.slice aS p.S.n cS), (.slice aC p.C.n cC), .int .i64 p.ne, .int .i64 p.ed, .int .i64 p.gr, .int .i64 p.lo, .int .i64 p.hi, .int .i64 p.sh, .int .i64 p.wi] 26 → Blk W (s + 1) #[.int .i64 a, .int .i64 b] 23 → Blk W (s + 1 + 1) #[.int .i64 shore] 3 → Calls Try.prog 106 #[.func (.func 138) #[] #[.pointer (some ⟨s, 0, none⟩), .pointer (some ⟨s + 1, 0, none⟩), .pointer (some ⟨s + 1 + 1, 0, none⟩)]] W fun e w' => ∃ u, e = .returned u ∧ PairsAt w' u (spdS p a b shore).m (spdS p a b shore).A (spdS p a b shore).B ∧ Below W.heap.size W w') := fun h s W k1 k2 k3 => by
    obtain ⟨h3, h4⟩ := orE_inv h
    obtain ⟨h5, h6⟩ := orE_inv h4
    have e : spdS p a b shore = spV (spdF p a b shore) 1001 := by unfold spdS; rw [if_pos h]
    rw [e]
    exact (spans_in s p (ePl_inv h3) aS aC cS cC a b shore (eS_inv h5) W k1 k2 k3).mono fun e w' ⟨u, h1, h2, h3⟩ => ⟨u, h1, pairs_of_row h2, h3⟩
  have HS : Hid (eWav p a b shore ≠ 0 → spdS p a b shore = ⟨0, fun _ => 0, fun _ => 0⟩) := fun h => by unfold spdS; rw [if_neg h]
  generalize spdS p a b shore = sp at HG HS ⊢
  generalize eWav p a b shore = x1 at HR HG HS ⊢
  clear hS hC
  have jP := (Blk.new w #[.int .i64 p.s0, .int .i64 p.s1, (.slice aS p.S.n cS), (.slice aC p.C.n cC), .int .i64 p.ne, .int .i64 p.ed, .int .i64 p.gr, .int .i64 p.lo, .int .i64 p.hi, .int .i64 p.sh, .int .i64 p.wi] 26).alloc (.cells #[.int .i64 a, .int .i64 b] 23)
  have jD := Blk.new1 w (.cells #[.int .i64 p.s0, .int .i64 p.s1, (.slice aS p.S.n cS), (.slice aC p.C.n cC), .int .i64 p.ne, .int .i64 p.ed, .int .i64 p.gr, .int .i64 p.lo, .int .i64 p.hi, .int .i64 p.sh, .int .i64 p.wi] 26) #[.int .i64 a, .int .i64 b] 23
  have jB : Below w.heap.size w ((w.alloc (.cells #[.int .i64 p.s0, .int .i64 p.s1, (.slice aS p.S.n cS), (.slice aC p.C.n cC), .int .i64 p.ne, .int .i64 p.ed, .int .i64 p.gr, .int .i64 p.lo, .int .i64 p.hi, .int .i64 p.sh, .int .i64 p.wi] 26)).alloc (.cells #[.int .i64 a, .int .i64 b] 23)) := by (repeat (first | exact Below.refl _ _ | assumption | refine Below.drew ?_ | refine Below.drewN ?_ _ | refine blT ?_ | refine blU ?_))
  go_enter Try.func46, Try.ntmps46
  go_upto_region 1 with fail
  obtain ⟨c0, c1, c2, c3, c4, c5, c6, c7, c8, c9, c10⟩ := jP.c11
  have zP := jP.lt
  obtain ⟨f0, f1⟩ := jD.c2
  have zD := jD.lt
  go_wp2_with fail
  clear c0 c1 c2 c3 c4 c5 c6 c7 c8 c9 c10 zP f0 f1 zD
  refine (HR.out _ jB).mono ?_
  rintro e V ⟨rfl, hb⟩
  replace jP := jP.call hb
  replace jD := jD.call hb
  replace jB := bwS jB (Nat.le_refl _) hb
  clear hb HR
  by_cases e1 : x1 = 0
  · subst e1
    have HGn := Lib.hid (HG.out rfl)
    clear HG HS
    obtain ⟨c0, c1, c2, c3, c4, c5, c6, c7, c8, c9, c10⟩ := jP.c11
    have zP := jP.lt
    obtain ⟨f0, f1⟩ := jD.c2
    have zD := jD.lt
    go_wp2_with fail
    clear c0 c1 c2 c3 c4 c5 c6 c7 c8 c9 c10 zP f0 f1 zD
    refine (sure_any _ _ _ _ _ _ _ _ _ _ _).mono ?_
    rintro e w5 ⟨rfl, hw⟩
    have gP := ((Blk.new V #[.int .i64 p.s0, .int .i64 p.s1, (.slice aS p.S.n cS), (.slice aC p.C.n cC), .int .i64 p.ne, .int .i64 p.ed, .int .i64 p.gr, .int .i64 p.lo, .int .i64 p.hi, .int .i64 p.sh, .int .i64 p.wi] 26).alloc (.cells #[.int .i64 a, .int .i64 b] 23)).alloc (.cells #[.int .i64 shore] 3)
    have gD := (Blk.new1 V (.cells #[.int .i64 p.s0, .int .i64 p.s1, (.slice aS p.S.n cS), (.slice aC p.C.n cC), .int .i64 p.ne, .int .i64 p.ed, .int .i64 p.gr, .int .i64 p.lo, .int .i64 p.hi, .int .i64 p.sh, .int .i64 p.wi] 26) #[.int .i64 a, .int .i64 b] 23).alloc (.cells #[.int .i64 shore] 3)
    have gS := Blk.new2 V (.cells #[.int .i64 p.s0, .int .i64 p.s1, (.slice aS p.S.n cS), (.slice aC p.C.n cC), .int .i64 p.ne, .int .i64 p.ed, .int .i64 p.gr, .int .i64 p.lo, .int .i64 p.hi, .int .i64 p.sh, .int .i64 p.wi] 26) (.cells #[.int .i64 a, .int .i64 b] 23) #[.int .i64 shore] 3
    have kB : Below w.heap.size w w5 := by rw [← hw]; exact bwA (bwA (bwA jB (Nat.le_refl _) _) (Nat.le_refl _) _) (Nat.le_refl _) _
    rw [hw] at gP gD gS
    clear hw jP jD jB
    go_wp2_with fail
    refine (HGn.out _ _ gP gD gS).mono ?_
    rintro e w6 ⟨u, rfl, hu, hb⟩
    have HU := Lib.hid hu
    replace kB := bwS kB (Nat.le_refl _) hb
    clear hb hu gP gD gS
    go_wp2
    exact bodyPost_ret (v := .tuple #[u, .int .i64 0]) (by simp [results, Try.results46, go_sem]) rfl ⟨u, rfl, HU.out, kB⟩
  · have e4 : (x1 != 0) = true := by simpa using e1
    have hsp := HS.out e1
    subst hsp
    clear e1 HG HS
    go_wp2
    exact bodyPost_ret (v := .tuple #[.slice none 0 0, .int .i64 x1]) (by simp [results, Try.results46, go_sem]) rfl ⟨_, rfl, pairs_none _ _ _, jB⟩
end Go.Proofs.Ytkkljbbgaogifaa
