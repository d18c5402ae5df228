/-
  The reference's dry and Flood.
  sort.Search with Flood's test, which writes into a captured day.
  frost.Flood of what the kit makes.
  frost.Flood and the reference's Flood, whatever comes in.
  Shares for late4 (region.py), whatever the calls return.
-/
import Derived.Test.YtdbiijldincoiaaGreatTail
import Derived.Test.YtdbiijldincoiaaGreatFloA
import Derived.Test.YtdbiijldincoiaaGreatRuns
import Derived.Test.YtdbiijldincoiaaGreatLast
import Derived.Test.YtdbiijldincoiaaGreatRef11
import Derived.Test.YtdbiijldincoiaaGreatBig
import Derived.Laws.EntriesVeiled
import Derived.Test.YtdbiijldincoiaaGreatShare
set_option linter.unusedVariables false
set_option linter.unusedSimpArgs false
namespace Go.Proofs.YtdbiijldincoiaaGreat
open Go.RowKit

set_option maxRecDepth 100000 in
set_option maxHeartbeats 4000000 in
theorem rdry_val (l : Lw) (v : Value) (x : Ic) (vd : Value) (m : Nat) (d : Nat → Dy) (w : World) (hE : eRun l x (m + 1) d = 0) (hv : CovAt w v l.n l.D l.P0 l.P1) (hd : DaysAt w vd (m + 1) d) :
    Calls Tryz.prog 58 #[.agg #[.int .i64 l.gr, .int .i64 l.la, v, .int .i64 l.m0, .int .i64 l.m1, .int .i64 l.so, .int .i64 l.h0, .int .i64 l.h1], .agg #[.int .i64 x.b0, .int .i64 x.b1, .int .i64 x.w0, .int .i64 x.w1, .int .i64 x.q0, .int .i64 x.q1, .int .i64 x.s0, .int .i64 x.s1], vd] w fun e w' => e = .returned (.bool ((iceAt l d x (m + 1)).q1 == 0)) ∧ Below w.heap.size w w' := by
  have hR := Lib.hid (fun (W : World) (hW : Below w.heap.size w W) => rrun_val l v x vd (m + 1) d W hE (hv.later hW) (hd.later hW))
  obtain ⟨va, cap, rfl, _, _, _⟩ := id hv
  obtain ⟨da, dcap, rfl, _, _, _⟩ := id hd
  have hm := (eRun_ok hE).2.2.2.1
  have jL := (Blk.new w #[.int .i64 l.gr, .int .i64 l.la, (.slice va l.n cap), .int .i64 l.m0, .int .i64 l.m1, .int .i64 l.so, .int .i64 l.h0, .int .i64 l.h1] 26).alloc (.cells #[.int .i64 x.b0, .int .i64 x.b1, .int .i64 x.w0, .int .i64 x.w1, .int .i64 x.q0, .int .i64 x.q1, .int .i64 x.s0, .int .i64 x.s1] 28)
  have jX := Blk.new1 w (.cells #[.int .i64 l.gr, .int .i64 l.la, (.slice va l.n cap), .int .i64 l.m0, .int .i64 l.m1, .int .i64 l.so, .int .i64 l.h0, .int .i64 l.h1] 26) #[.int .i64 x.b0, .int .i64 x.b1, .int .i64 x.w0, .int .i64 x.w1, .int .i64 x.q0, .int .i64 x.q1, .int .i64 x.s0, .int .i64 x.s1] 28
  have jB : Below w.heap.size w ((w.alloc (.cells #[.int .i64 l.gr, .int .i64 l.la, (.slice va l.n cap), .int .i64 l.m0, .int .i64 l.m1, .int .i64 l.so, .int .i64 l.h0, .int .i64 l.h1] 26)).alloc (.cells #[.int .i64 x.b0, .int .i64 x.b1, .int .i64 x.w0, .int .i64 x.w1, .int .i64 x.q0, .int .i64 x.q1, .int .i64 x.s0, .int .i64 x.s1] 28)) := by (repeat (first | exact Below.refl _ _ | assumption | refine Below.drew ?_ | refine Below.drewN ?_ _ | refine blT ?_ | refine blU ?_))
  clear hv hd hE
  go_enter Tryz.func58, Tryz.ntmps58
  go_upto_region 1 with fail
  generalize (w.alloc (.cells #[.int .i64 l.gr, .int .i64 l.la, (.slice va l.n cap), .int .i64 l.m0, .int .i64 l.m1, .int .i64 l.so, .int .i64 l.h0, .int .i64 l.h1] 26)).alloc (.cells #[.int .i64 x.b0, .int .i64 x.b1, .int .i64 x.w0, .int .i64 x.w1, .int .i64 x.q0, .int .i64 x.q1, .int .i64 x.s0, .int .i64 x.s1] 28) = V at jL jX jB ⊢
  have KB := Lib.hid jB
  obtain ⟨l0, l1, l2, l3, l4, l5, l6, l7⟩ := jL.c8
  obtain ⟨x0, x1, x2, x3, x4, x5, x6, x7⟩ := jX.c8
  have yL := jL.lt
  have yX := jX.lt
  clear jL jX jB
  go_wp2_with fail
  clear l0 l1 l2 l3 l4 l5 l6 l7 x0 x1 x2 x3 x4 x5 x6 x7 yL yX
  refine (hR.out _ KB.out).mono ?_
  rintro e w1 ⟨r, rfl, hr, hb⟩
  have jB := bwS KB.out (Nat.le_refl _) hb
  obtain ⟨ra, rc, rfl, h1, h2, h3⟩ := iceL_of_row hr
  obtain ⟨b, o, rfl, hc⟩ := h3 (by omega)
  have hcm := (hc m (by omega)).2.2.2.2.2.1
  have zb := World.block_lt_of_cell? _ _ hcm
  have e1 : IntKind.i64.wrap ((m : Int) + 1 - 1) = (m : Int) := by rw [IntWalk.i64_in _ (by omega)]; omega
  have e2 : (((m + 1 : Nat) : Int)) = (m : Int) + 1 := by omega
  have hmi : (m : Int) < (m : Int) + 1 := by omega
  clear hb hr hc h3 KB hR
  go_wp2
  go_ret
  exact ⟨rfl, jB⟩

theorem days_put {W : World} {g n cap j : Nat} {cur : Array Value} {d : Nat → Dy} {k : Int} (h : Blk W g cur 58) (hn : n ≤ cap) (hc : cap ≤ 9223372036854775807) (hj : j < n) (hcur : ∀ i c, i < n → c < 6 → cur[i * 6 + c]? = (dayC (d i))[c]?) :
    DaysAt (W.setCell ⟨g, j * 6 + 4, none⟩ (.int .i64 k)) (.slice (some ⟨g, 0, none⟩) n cap) n (wet d j k) := by
  have hb := h.set (j * 6 + 4) (.int .i64 k)
  have hsz : j * 6 + 4 < cur.size := by
    have q := hcur j 4 hj (by decide)
    cases hlt : decide (j * 6 + 4 < cur.size) with
    | true => simpa using hlt
    | false =>
      rw [Array.getElem?_eq_none (by simpa using hlt)] at q
      exact absurd q.symm (by simp [dayC])
  refine ⟨_, cap, rfl, hn, hc, fun _ => ⟨g, 0, rfl, fun i hi => ?_⟩⟩
  have q := fun c (hc6 : c < 6) (hne : i * 6 + c ≠ j * 6 + 4) => hb.cell (i * 6 + c) (v := ((dayC (d i))[c]?).getD (.int .i64 0)) (by
    rw [Array.getElem?_setIfInBounds, if_neg (Ne.symm hne), hcur i c hi hc6]
    match c, hc6 with
    | 0, _ => rfl
    | 1, _ => rfl
    | 2, _ => rfl
    | 3, _ => rfl
    | 4, _ => rfl
    | 5, _ => rfl)
  have e : 0 + i * 6 = i * 6 := Nat.zero_add _
  rw [e]
  by_cases hij : i = j
  · subst hij
    rw [wet_at]
    refine ⟨q 0 (by decide) (by omega), q 1 (by decide) (by omega), q 2 (by decide) (by omega), q 3 (by decide) (by omega), hb.cell (i * 6 + 4) (by rw [Array.getElem?_setIfInBounds, if_pos rfl, if_pos hsz]), q 5 (by decide) (by omega)⟩
  · rw [wet_ne d hij]
    exact ⟨q 0 (by decide) (by omega), q 1 (by decide) (by omega), q 2 (by decide) (by omega), q 3 (by decide) (by omega), q 4 (by decide) (by omega), q 5 (by decide) (by omega)⟩
theorem row_cur {W : World} {base n : Nat} {v : Value} {d : Nat → Dy} (h : W.ownsRow base 58 6 v n (daysC d n)) (hn : 0 < n) : ∃ g cap cur, v = .slice (some ⟨g, 0, none⟩) n cap ∧ base ≤ g ∧ Blk W g cur 58 ∧ n ≤ cap ∧ cap ≤ 9223372036854775807 ∧ ∀ i c, i < n → c < 6 → cur[i * 6 + c]? = (dayC (d i))[c]? := by
  obtain ⟨_, h2⟩ := h
  rcases h2 with ⟨_, h2⟩ | ⟨g, cap, cur, hv, hg, hc, hnc, hm, hz, ht⟩
  · omega
  · unfold maxLen at hm
    refine ⟨g, cap, cur, hv, hg, hc, hnc, by omega, fun i c hi hc6 => ?_⟩
    have hij : i * 6 + c < n * 6 := by omega
    have e1 : cur.toList[i * 6 + c]? = (daysC d n)[i * 6 + c]? := by rw [← ht, List.getElem?_take_of_lt hij]
    rw [daysC_at d n i c hi hc6] at e1
    simpa using e1
def gstP (f : Nat → Bool) : Nat → Int
  | 0 => -1
  | k + 1 => gstV f k
theorem gst_step (f : Nat → Bool) (k : Nat) : gstV f k = if f k then (k : Int) else gstP f k := by
  cases k with
  | zero => rfl
  | succ k => rfl
def dryF (l : Lw) (d : Nat → Dy) (x : Ic) (j n : Nat) (q : Nat) : Bool := (iceAt l (wet d j (q : Int)) x n).q1 == 0

set_option maxRecDepth 100000 in
set_option maxHeartbeats 8000000 in
theorem rflood_ok (l : Lw) (v : Value) (x : Ic) (vd : Value) (n : Nat) (d : Nat → Dy) (j most : Nat) (w : World) (hE : eRun l x n d = 0) (hv : CovAt w v l.n l.D l.P0 l.P1) (hd : DaysAt w vd n d) (hj : j < n) (hm : most ≤ 200) :
    Calls Tryz.prog 26 #[.agg #[.int .i64 l.gr, .int .i64 l.la, v, .int .i64 l.m0, .int .i64 l.m1, .int .i64 l.so, .int .i64 l.h0, .int .i64 l.h1], .agg #[.int .i64 x.b0, .int .i64 x.b1, .int .i64 x.w0, .int .i64 x.w1, .int .i64 x.q0, .int .i64 x.q1, .int .i64 x.s0, .int .i64 x.s1], vd, .int .i64 ((j : Int) + 1), .int .i64 (most : Int)] w fun e w' => e = .returned (.tuple #[.int .i64 (gstV (dryF l d x j n) most), .int .i64 0]) ∧ Below w.heap.size w w' := by
  have HA := Lib.hid (fun (W : World) (hW : Below w.heap.size w W) => rall_any l.gr l.la v l.n l.D l.P0 l.P1 l.m0 l.m1 l.so l.h0 l.h1 x vd n d W (hv.later hW) (hd.later hW))
  rw [show eAll l.gr l.la l.n l.D l.P0 l.P1 l.m0 l.m1 l.so l.h0 l.h1 x n d = 0 from hE] at HA
  obtain ⟨g1, g2, g3, g4, g5⟩ := eRun_ok hE
  obtain ⟨m, rfl⟩ : ∃ m, n = m + 1 := ⟨n - 1, by omega⟩
  have HDy := Lib.hid (show ∀ (k : Nat), k ≤ 200 → ∀ u W, Below w.heap.size w W → DaysAt W u (m + 1) (wet d j (k : Int)) → Calls Tryz.prog 58 #[.agg #[.int .i64 l.gr, .int .i64 l.la, v, .int .i64 l.m0, .int .i64 l.m1, .int .i64 l.so, .int .i64 l.h0, .int .i64 l.h1], .agg #[.int .i64 x.b0, .int .i64 x.b1, .int .i64 x.w0, .int .i64 x.w1, .int .i64 x.q0, .int .i64 x.q1, .int .i64 x.s0, .int .i64 x.s1], u] W fun e w' => e = .returned (.bool (dryF l d x j (m + 1) k)) ∧ Below W.heap.size W w' from fun k hk u W hW hu => by
    refine rdry_val l v x u m (wet d j (k : Int)) W ?_ (hv.later hW) hu
    obtain ⟨a1, a2⟩ := orE_zeros (show orE _ _ = 0 from hE)
    obtain ⟨a3, a4⟩ := orE_zeros a2
    unfold eRun eAll
    rw [a1, a3, eDs_zero g4 (wet_ok g5 (by omega) (by omega))]
    rfl)
  have HDl := Lib.hid (fun (W : World) (hW : Below w.heap.size w W) => hd.later hW)
  obtain ⟨va, cap, rfl, _, _, _⟩ := id hv
  obtain ⟨da, dcap, rfl, _, _, _⟩ := id hd
  have hb1 : outB ((j : Int) + 1) 1 ((m + 1 : Nat) : Int) = false := by unfold outB; simp; omega
  have hb2 : outB (most : Int) 0 200 = false := by unfold outB; simp; omega
  have jL := (Blk.new w #[.int .i64 l.gr, .int .i64 l.la, (.slice va l.n cap), .int .i64 l.m0, .int .i64 l.m1, .int .i64 l.so, .int .i64 l.h0, .int .i64 l.h1] 26).alloc (.cells #[.int .i64 x.b0, .int .i64 x.b1, .int .i64 x.w0, .int .i64 x.w1, .int .i64 x.q0, .int .i64 x.q1, .int .i64 x.s0, .int .i64 x.s1] 28)
  have jX := Blk.new1 w (.cells #[.int .i64 l.gr, .int .i64 l.la, (.slice va l.n cap), .int .i64 l.m0, .int .i64 l.m1, .int .i64 l.so, .int .i64 l.h0, .int .i64 l.h1] 26) #[.int .i64 x.b0, .int .i64 x.b1, .int .i64 x.w0, .int .i64 x.w1, .int .i64 x.q0, .int .i64 x.q1, .int .i64 x.s0, .int .i64 x.s1] 28
  have jB : Below w.heap.size w (((w.alloc (.cells #[.int .i64 l.gr, .int .i64 l.la, (.slice va l.n cap), .int .i64 l.m0, .int .i64 l.m1, .int .i64 l.so, .int .i64 l.h0, .int .i64 l.h1] 26)).alloc (.cells #[.int .i64 x.b0, .int .i64 x.b1, .int .i64 x.w0, .int .i64 x.w1, .int .i64 x.q0, .int .i64 x.q1, .int .i64 x.s0, .int .i64 x.s1] 28))) := by (repeat (first | exact Below.refl _ _ | assumption | refine Below.drew ?_ | refine Below.drewN ?_ _ | refine blT ?_ | refine blU ?_))
  clear hv hd hE g1 g2 g3 g5
  go_enter Tryz.func26, Tryz.ntmps26
  go_upto_region 1 with fail
  generalize (((w.alloc (.cells #[.int .i64 l.gr, .int .i64 l.la, (.slice va l.n cap), .int .i64 l.m0, .int .i64 l.m1, .int .i64 l.so, .int .i64 l.h0, .int .i64 l.h1] 26)).alloc (.cells #[.int .i64 x.b0, .int .i64 x.b1, .int .i64 x.w0, .int .i64 x.w1, .int .i64 x.q0, .int .i64 x.q1, .int .i64 x.s0, .int .i64 x.s1] 28))) = V at jL jX jB ⊢
  have KL := Lib.hid jL
  have KX := Lib.hid jX
  have KB := Lib.hid jB
  obtain ⟨l0, l1, l2, l3, l4, l5, l6, l7⟩ := jL.c8
  obtain ⟨x0, x1, x2, x3, x4, x5, x6, x7⟩ := jX.c8
  have yL := jL.lt
  have yX := jX.lt
  clear jL jX jB
  go_wp2_with fail
  clear l0 l1 l2 l3 l4 l5 l6 l7 x0 x1 x2 x3 x4 x5 x6 x7 yL yX
  refine (HA.out _ KB.out).mono ?_
  rintro e w1 ⟨rfl, hb⟩
  replace KL := Lib.hid (KL.out.call hb)
  replace KX := Lib.hid (KX.out.call hb)
  replace KB := Lib.hid (bwS KB.out (Nat.le_refl _) hb)
  clear hb HA V
  go_wp2_with fail
  refine (rout_any _ _ _ _).mono ?_
  rintro e w2 ⟨he, rfl⟩
  have hb3 : outB ((j : Int) + 1) 1 ((m : Int) + 1) = false := by rw [← hb1]; rfl
  simp only [hb1, hb3] at he
  subst he
  go_wp2_with fail
  refine (rout_any _ _ _ _).mono ?_
  rintro e w2 ⟨he, rfl⟩
  rw [hb2] at he
  subst he
  have HG : Hid (∃ G, gstV (dryF l d x j (m + 1)) most = G) := Lib.hid ⟨_, rfl⟩
  obtain ⟨G, hG⟩ := HG.out
  have HG2 := Lib.hid hG
  clear HG hG
  obtain ⟨V1, hVV⟩ : ∃ V, V = w1 := ⟨_, rfl⟩
  subst hVV
  have hF := Below.refl V1.heap.size V1
  go_wp2_with fail
  go_loopw [13] (fun wv wr => ∃ k : Nat, k ≤ most + 1 ∧ wv = .int .i64 ((k : Int) - 1) ∧ gstP (dryF l d x j (m + 1)) k = G ∧ Below V1.heap.size V1 wr) (fun wv _ => (intOf wv + 1).toNat)
  case atStart => exact ⟨most + 1, Nat.le_refl _, by rw [show (((most + 1 : Nat) : Int)) - 1 = (most : Int) by omega], HG2.out, hF⟩
  case round =>
    clear hF
    obtain ⟨k, hk, hwv, hg, hB⟩ := hrel
    by_cases hk0 : k = 0
    · subst hk0
      rw [show (((0 : Nat) : Int)) - 1 = -1 from rfl] at hwv
      subst hwv
      have HP := Lib.hid (show G = -1 from hg.symm)
      have jB := bwS KB.out (Nat.le_refl _) hB
      clear hg hB KB KL KX HDy HDl
      go_wp2
      exact bodyPost_ret (v := .tuple #[.int .i64 (-1), .int .i64 0]) (by simp [results, Tryz.results26, go_sem]) rfl ⟨by rw [HG2.out, HP.out], jB⟩
    · obtain ⟨q, rfl⟩ : ∃ q, k = q + 1 := ⟨k - 1, by omega⟩
      rw [show (((q + 1 : Nat) : Int)) - 1 = (q : Int) by omega] at hwv
      subst hwv
      have hq0 : decide (0 ≤ (q : Int)) = true := by simp
      have HP := Lib.hid (show gstV (dryF l d x j (m + 1)) q = G from hg)
      clear hg hk0
      have hBw := bwS KB.out (Nat.le_refl _) hB
      have jO : ((wr.alloc (.cells #[] 58))).ownsRow (wr.heap.size) 58 6 (.slice (some ⟨wr.heap.size, 0, none⟩) 0 0) 0 [] :=
        ⟨rfl, .inr ⟨wr.heap.size, 0, #[], rfl, Nat.le_refl _, World.alloc_heap_new wr _, Nat.le_refl _, Nat.zero_le _, rfl, rfl⟩⟩
      have hO : Below V1.heap.size V1 (wr.alloc (.cells #[] 58)) := bwA hB (Nat.le_refl _) _
      have hOw : Below w.heap.size w (wr.alloc (.cells #[] 58)) := bwA hBw (Nat.le_refl _) _
      have zr := hB.size
      have zw := KB.out.size
      have e1 : IntKind.i64.wrap ((j : Int) + 1 - 1) = (j : Int) := by rw [IntWalk.i64_in _ (by omega)]; omega
      have e2 : IntKind.i64.wrap ((q : Int) - 1) = (q : Int) - 1 := IntWalk.i64_in _ (by omega)
      have hji : (j : Int) < (m : Int) + 1 := by omega
      go_upto_region 11 with (at_builtin; refine append_days rfl _ _ rfl rfl wr.heap.size _ 0 [] rfl jO (.slice da (m + 1) dcap) (m + 1) d rfl (HDl.out _ hOw) (by omega) (by simp) ?_; intro own w10 hown' hgrow; simp only [Nat.zero_add, List.nil_append] at hown'; obtain ⟨gB, cp, cur, rfl, hgb, hblk, hn1, hn2, hcur⟩ := row_cur hown' (by omega); have hb10 : Below V1.heap.size V1 w10 := hO.grown hgrow (by simp; omega) (fun p e => by have := (jO.lt p e).1; omega); have a4 := hblk.cell (j * 6 + 4) (hcur j 4 hj (by decide)); have f4 := hblk.free (j * 6 + 4); have y4 := hblk.lt; have HKD := Lib.hid (days_put (k := (q : Int)) hblk hn1 hn2 hj hcur); have HB11 := Lib.hid (hb10.setCell (p := ⟨gB, j * 6 + 4, none⟩) (by show V1.heap.size ≤ gB; omega) (.int .i64 (q : Int))); clear hown' hgrow hcur hb10 hblk)
      have kD := HKD.out
      have hB2 := HB11.out
      clear HKD HB11 a4 f4 y4 jO hO hOw hB hBw e1 hji zr
      generalize w10.setCell ⟨gB, j * 6 + 4, none⟩ (.int .i64 (q : Int)) = W11 at kD hB2 ⊢
      have jL := KL.out.call hB2
      have jX := KX.out.call hB2
      have jB := bwS KB.out (Nat.le_refl _) hB2
      obtain ⟨l0, l1, l2, l3, l4, l5, l6, l7⟩ := jL.c8
      obtain ⟨x0, x1, x2, x3, x4, x5, x6, x7⟩ := jX.c8
      have yL := jL.lt
      have yX := jX.lt
      clear jL jX
      go_wp2_with fail
      clear l0 l1 l2 l3 l4 l5 l6 l7 x0 x1 x2 x3 x4 x5 x6 x7 yL yX
      refine (HDy.out q (by omega) _ _ jB kD).mono ?_
      rintro e w12 ⟨rfl, hb⟩
      replace jB := bwS jB (Nat.le_refl _) hb
      replace hB2 := bwS hB2 (Nat.le_refl _) hb
      clear hb kD
      have hs := gst_step (dryF l d x j (m + 1)) q
      rw [HP.out] at hs
      cases hdr : dryF l d x j (m + 1) q with
      | true =>
        rw [hdr] at hs
        have HS := Lib.hid (show G = (q : Int) from hs)
        clear hs hdr HP HDy HDl KL KX KB hB2
        go_wp2
        exact bodyPost_ret (v := .tuple #[.int .i64 (q : Int), .int .i64 0]) (by simp [results, Tryz.results26, go_sem]) rfl ⟨by rw [HG2.out, HS.out], jB⟩
      | false =>
        rw [hdr] at hs
        have HS := Lib.hid (show G = gstP (dryF l d x j (m + 1)) q from hs)
        clear hs hdr HP jB
        go_wp2
        go_roundw
        case rel => exact ⟨q, by omega, by go_num, HS.out.symm, hB2⟩
        case measure => simp [intOf]
end Go.Proofs.YtdbiijldincoiaaGreat

namespace Go.Proofs.YtdbiijldincoiaaGreat
open Go.RowKit

set_option maxRecDepth 100000 in
set_option maxHeartbeats 4000000 in
theorem search_in (n : Nat) (hn : n ≤ 1000) (p : Value) (f : Nat → Bool) (I : World → Prop) (hf : ∀ i, i < n → ∀ W, I W → Calls Tryz.prog 57 #[.int .i64 i, p] W fun e w' => e = .returned (.bool (f i)) ∧ I w') (w : World) (hI : I w) :
    Calls Tryz.prog 56 #[.int .i64 n, .func (.func 57) #[] #[p]] w fun e w' => ∃ k : Nat, e = .returned (.int .i64 k) ∧ k ≤ n ∧ (k < n → f k = true) ∧ (∀ j, k = j + 1 → f j = false) ∧ I w' := by
  have HF := Lib.hid hf
  clear hf
  go_enter Tryz.func56, Tryz.ntmps56
  go_wp2_with fail
  go_loopw [5, 6, 7] (fun vi vj vh wr => ∃ i j : Nat, i ≤ j ∧ j ≤ n ∧ vi = .int .i64 i ∧ vj = .int .i64 j ∧ (j < n → f j = true) ∧ (∀ q, i = q + 1 → f q = false) ∧ I wr) (fun vi vj _ _ => (intOf vj).toNat - (intOf vi).toNat)
  case atStart => exact ⟨0, n, Nat.zero_le _, Nat.le_refl _, rfl, rfl, fun h => absurd h (Nat.lt_irrefl _), fun q h => by omega, hI⟩
  case round =>
    obtain ⟨i, j, hij, hjn, rfl, rfl, h1, h2, hIw⟩ := hrel
    have H1 := Lib.hid h1
    have H2 := Lib.hid h2
    clear h1 h2 hI
    by_cases hlt : i < j
    · have e1 : IntKind.i64.wrap ((i : Int) + (j : Int)) = (i : Int) + (j : Int) := IntWalk.i64_in _ (by omega)
      go_wp2_with fail
      have hh : ((i : Int) + (j : Int)) / 2 = (((i + j) / 2 : Nat) : Int) := by omega
      simp only [hh]
      clear hh e1
      obtain ⟨h, hh⟩ : ∃ h, (i + j) / 2 = h := ⟨_, rfl⟩
      have b1 : i ≤ h := by omega
      have b2 : h < j := by omega
      rw [hh]
      clear hh
      refine (HF.out h (by omega) _ hIw).mono ?_
      rintro e w2 ⟨rfl, hI2⟩
      have e3 : IntKind.i64.wrap ((h : Int) + 1) = (h : Int) + 1 := IntWalk.i64_in _ (by omega)
      cases hv : f h with
      | true =>
        have H3 := Lib.hid hv
        clear hv
        go_wp2
        go_roundw
        case rel => exact ⟨i, h, b1, by omega, rfl, rfl, fun _ => H3.out, H2.out, hI2⟩
        case measure => simp [intOf]; omega
      | false =>
        have H3 := Lib.hid hv
        clear hv
        go_wp2
        go_roundw
        case rel => exact ⟨h + 1, j, by omega, hjn, by go_num, rfl, H1.out, fun q hq => by rw [← show h = q by omega]; exact H3.out, hI2⟩
        case measure => simp [intOf]; omega
    · obtain rfl : i = j := by omega
      go_wp2
      go_ret
      exact ⟨i, rfl, hjn, H1.out, H2.out, hIw⟩
end Go.Proofs.YtdbiijldincoiaaGreat

namespace Go.Proofs.YtdbiijldincoiaaGreat
open Go.RowKit

set_option maxRecDepth 100000 in
set_option maxHeartbeats 4000000 in
theorem notdries_in (i : Int) (fv : Array Value) (bF : Nat) (I : World → Prop) (r : Bool) (W : World) (hi : 0 ≤ i) (hi2 : i ≤ 1000) (hb : Blk W bF #[.func (.func 54) #[] fv] 49)
    (hf : Calls Tryz.prog 54 (#[.int .i64 (i + 1)] ++ fv) W fun e w' => e = .returned (.bool r) ∧ I w') :
    Calls Tryz.prog 57 #[.int .i64 i, .pointer (some ⟨bF, 0, none⟩)] W fun e w' => e = .returned (.bool (!r)) ∧ I w' := by
  have e1 : IntKind.i64.wrap (i + 1) = i + 1 := IntWalk.i64_in _ (by omega)
  have HF := Lib.hid hf
  clear hf
  have b0 := hb.cell1
  go_enter Tryz.func57, Tryz.ntmps57
  go_wp2_with fail
  refine HF.out.mono ?_
  rintro e w2 ⟨rfl, hI⟩
  go_wp2
  go_ret
  exact ⟨rfl, hI⟩

set_option maxRecDepth 100000 in
set_option maxHeartbeats 16000000 in
theorem flood_val (l : Lw) (v : Value) (x : Ic) (vd : Value) (n : Nat) (d : Nat → Dy) (j most : Nat) (w : World) (hl : l.Ok) (hle : eLaw l.gr l.la l.n l.D l.P0 l.P1 l.m0 l.m1 l.so l.h0 l.h1 = 0) (hv : CovAt w v l.n l.D l.P0 l.P1) (hx : x.Val) (hd : DaysAt w vd n d) (hn : n ≤ 400) (hk : ∀ i, i < n → (d i).Ok) (hj : j < n) (hm : most ≤ 200) :
    Calls Tryz.prog 25 #[.agg #[.int .i64 l.gr, .int .i64 l.la, v, .int .i64 l.m0, .int .i64 l.m1, .int .i64 l.so, .int .i64 l.h0, .int .i64 l.h1], .agg #[.int .i64 x.b0, .int .i64 x.b1, .int .i64 x.w0, .int .i64 x.w1, .int .i64 x.q0, .int .i64 x.q1, .int .i64 x.s0, .int .i64 x.s1], vd, .int .i64 ((j : Int) + 1), .int .i64 (most : Int)] w
      fun e w' => ∃ k : Int, e = .returned (.tuple #[.int .i64 k, .int .i64 0]) ∧ ((k = -1 ∧ ((iceAt l (wet d j 0) x n).q1 == 0) = false ∧ (0 < most → ((iceAt l (wet d j 1) x n).q1 == 0) = false)) ∨ ∃ q : Nat, k = q ∧ q ≤ most ∧ ((iceAt l (wet d j q) x n).q1 == 0) = true ∧ (q < most → ((iceAt l (wet d j ((q : Int) + 1)) x n).q1 == 0) = false)) ∧ Below w.heap.size w w' := by
  have hA : ∀ W, Below w.heap.size w W → Calls Tryz.prog 36 #[.agg #[.int .i64 l.gr, .int .i64 l.la, v, .int .i64 l.m0, .int .i64 l.m1, .int .i64 l.so, .int .i64 l.h0, .int .i64 l.h1], .agg #[.int .i64 x.b0, .int .i64 x.b1, .int .i64 x.w0, .int .i64 x.w1, .int .i64 x.q0, .int .i64 x.q1, .int .i64 x.s0, .int .i64 x.s1], vd] W fun e w' => e = .returned (.int .i64 0) ∧ Below W.heap.size W w' := fun W hW => by
    have q := all_any l.gr l.la v l.n l.D l.P0 l.P1 l.m0 l.m1 l.so l.h0 l.h1 x.b0 x.b1 x.w0 x.w1 x.q0 x.q1 x.s0 x.s1 vd n d W (hv.later hW) (hd.later hW)
    rw [hle, show eIce x.b0 x.b1 x.w0 x.w1 x.q0 x.q1 x.s0 x.s1 = 0 from hx.e, eDs_zero hn hk] at q
    exact q
  obtain ⟨va, vcap, hvv, _, _, _⟩ := id hv
  subst hvv
  obtain ⟨da, dcap, hvd, ncap, _, hc⟩ := id hd
  subst hvd
  obtain ⟨b, o, rfl, hc2⟩ := hc (by omega)
  have hcj := hc2 j hj
  have zb := World.block_lt_of_cell? _ _ hcj.1
  have hIn := fun k (hk1 : k ≤ j) => (iceAt_bd (j := 0) hl hx.bd n hk k (by omega) (by omega)).in (by omega) (by omega)
  have HA := Lib.hid hA
  clear hA hc hc2
  have HN1 : Hid (∀ W, Calls Tryz.prog 48 #[.int .i64 ((j : Int) + 1), .int .i64 1, .int .i64 (n : Int)] W fun e w' => e = .returned (.int .i64 0) ∧ W = w') := fun W => by
    have e0 : eN ((j : Int) + 1) 1 n = 0 := eN_zero (by omega) (by omega)
    exact (number_any _ 1 n W).mono fun e w' ⟨he, hw⟩ => ⟨by rw [he, e0], hw⟩
  have HN2 : Hid (∀ W, Calls Tryz.prog 48 #[.int .i64 (most : Int), .int .i64 0, .int .i64 200] W fun e w' => e = .returned (.int .i64 0) ∧ W = w') := fun W => by
    have e0 : eN (most : Int) 0 200 = 0 := eN_zero (by omega) (by omega)
    exact (number_any _ 0 200 W).mono fun e w' ⟨he, hw⟩ => ⟨by rw [he, e0], hw⟩
  obtain ⟨aT, cT, hT⟩ : ∃ q c, sliced (some ⟨b, o, none⟩) 0 j dcap 6 = .slice q j c := ⟨_, _, rfl⟩
  have S1 : ∀ W, (Instr.slice 29 (.slice (some ⟨b, o, none⟩) n dcap) none (some (.int .i64 (j : Int))) none).run Tryz.prog W = .ok (.slice aT j cT) W := fun W => by rw [← hT]; exact slice_day _ n dcap j (by omega) W
  have HL := Lib.hid (show ∀ W, Below w.heap.size w W → Calls Tryz.prog 53 #[.agg #[.int .i64 l.gr, .int .i64 l.la, (.slice va l.n vcap), .int .i64 l.m0, .int .i64 l.m1, .int .i64 l.so, .int .i64 l.h0, .int .i64 l.h1], .agg #[.int .i64 x.b0, .int .i64 x.b1, .int .i64 x.w0, .int .i64 x.w1, .int .i64 x.q0, .int .i64 x.q1, .int .i64 x.s0, .int .i64 x.s1], .slice aT j cT] W fun e w' => ∃ y : Ic, y = iceAt l d x j ∧ e = .returned (.agg #[.int .i64 y.b0, .int .i64 y.b1, .int .i64 y.w0, .int .i64 y.w1, .int .i64 y.q0, .int .i64 y.q1, .int .i64 y.s0, .int .i64 y.s1]) ∧ Below W.heap.size W w' from fun W hW => by
    have kDk : DaysAt W (.slice aT j cT) j d := by
      have q := (hd.later hW).sl 0 j (by omega) (by omega)
      rw [hT] at q
      simpa using q
    exact (last_kit l (.slice va l.n vcap) x (.slice aT j cT) j d W hl (hv.later hW) (fun k hk1 => hIn k (by omega)) kDk (fun i hi => hk i (by omega)) (Nat.lt_of_lt_of_le (Nat.lt_of_le_of_lt (Nat.zero_le _) zb) hW.size)).mono fun e w' ⟨he, hb⟩ => ⟨_, rfl, he, hb⟩)
  have HDr := Lib.hid (fun (bL bB bD bV bA : Nat) z1 z2 z3 z4 z5 (water : Int) g0 g1 (W : World) => dries_in w l va vcap (some ⟨b, o, none⟩) n dcap d x j bL bB bD bV bA hl hv hx hd hn hj hk z1 z2 z3 z4 z5 water g0 g1 W)
  have e1 : IntKind.i64.wrap ((j : Int) + 1 - 1) = (j : Int) := by rw [IntWalk.i64_in _ (by omega)]; omega
  have e2 : IntKind.i64.wrap (j : Int) = (j : Int) := IntWalk.i64_in _ (by omega)
  clear hT hIn hv hd hk
  go_enter Tryz.func25, Tryz.ntmps25
  have jL := (((Blk.new w #[.int .i64 l.gr, .int .i64 l.la, .slice va l.n vcap, .int .i64 l.m0, .int .i64 l.m1, .int .i64 l.so, .int .i64 l.h0, .int .i64 l.h1] 26).alloc (.cells #[.int .i64 x.b0, .int .i64 x.b1, .int .i64 x.w0, .int .i64 x.w1, .int .i64 x.q0, .int .i64 x.q1, .int .i64 x.s0, .int .i64 x.s1] 28)).alloc (.cells #[.slice (some ⟨b, o, none⟩) n dcap] 29)).alloc (.cells #[.int .i64 ((j : Int) + 1)] 3)
  have jX := ((Blk.new1 w (.cells #[.int .i64 l.gr, .int .i64 l.la, .slice va l.n vcap, .int .i64 l.m0, .int .i64 l.m1, .int .i64 l.so, .int .i64 l.h0, .int .i64 l.h1] 26) #[.int .i64 x.b0, .int .i64 x.b1, .int .i64 x.w0, .int .i64 x.w1, .int .i64 x.q0, .int .i64 x.q1, .int .i64 x.s0, .int .i64 x.s1] 28).alloc (.cells #[.slice (some ⟨b, o, none⟩) n dcap] 29)).alloc (.cells #[.int .i64 ((j : Int) + 1)] 3)
  have jV := (Blk.new2 w (.cells #[.int .i64 l.gr, .int .i64 l.la, .slice va l.n vcap, .int .i64 l.m0, .int .i64 l.m1, .int .i64 l.so, .int .i64 l.h0, .int .i64 l.h1] 26) (.cells #[.int .i64 x.b0, .int .i64 x.b1, .int .i64 x.w0, .int .i64 x.w1, .int .i64 x.q0, .int .i64 x.q1, .int .i64 x.s0, .int .i64 x.s1] 28) #[.slice (some ⟨b, o, none⟩) n dcap] 29).alloc (.cells #[.int .i64 ((j : Int) + 1)] 3)
  have jA := Blk.new3 w (.cells #[.int .i64 l.gr, .int .i64 l.la, .slice va l.n vcap, .int .i64 l.m0, .int .i64 l.m1, .int .i64 l.so, .int .i64 l.h0, .int .i64 l.h1] 26) (.cells #[.int .i64 x.b0, .int .i64 x.b1, .int .i64 x.w0, .int .i64 x.w1, .int .i64 x.q0, .int .i64 x.q1, .int .i64 x.s0, .int .i64 x.s1] 28) (.cells #[.slice (some ⟨b, o, none⟩) n dcap] 29) #[.int .i64 ((j : Int) + 1)] 3
  have jB : Below w.heap.size w ((((w.alloc (.cells #[.int .i64 l.gr, .int .i64 l.la, .slice va l.n vcap, .int .i64 l.m0, .int .i64 l.m1, .int .i64 l.so, .int .i64 l.h0, .int .i64 l.h1] 26)).alloc (.cells #[.int .i64 x.b0, .int .i64 x.b1, .int .i64 x.w0, .int .i64 x.w1, .int .i64 x.q0, .int .i64 x.q1, .int .i64 x.s0, .int .i64 x.s1] 28)).alloc (.cells #[.slice (some ⟨b, o, none⟩) n dcap] 29)).alloc (.cells #[.int .i64 ((j : Int) + 1)] 3)) := by (repeat (first | exact Below.refl _ _ | assumption | refine Below.drew ?_ | refine Below.drewN ?_ _ | refine blT ?_ | refine blU ?_))
  go_wp2_with fail
  refine (HA.out _ jB).mono ?_
  rintro e w1 ⟨rfl, hb⟩
  replace jL := jL.call hb
  replace jX := jX.call hb
  replace jV := jV.call hb
  replace jA := jA.call hb
  replace jB := bwS jB (Nat.le_refl _) hb
  clear hb
  have v0 := jV.cell1
  have a0 := jA.cell1
  have zV := jV.lt
  have zA := jA.lt
  go_wp2_with fail
  refine (HN1.out _).mono ?_
  rintro e w2 ⟨rfl, rfl⟩
  go_wp2_with fail
  refine (HN2.out _).mono ?_
  rintro e w2 ⟨rfl, rfl⟩
  go_wp2_with fail
  refine (first_two _ _ 0 0 _ ?_ ?_).mono ?_
  · simp
  · simp
  rintro e w3 ⟨rfl, hw3⟩
  have bW3 : Below w1.heap.size w1 w3 := by rw [← hw3]; (repeat (first | exact Below.refl _ _ | assumption | refine Below.drew ?_ | refine Below.drewN ?_ _ | refine blT ?_ | refine blU ?_))
  clear hw3 v0 a0 zV zA HN1 HN2 HA
  replace jL := jL.call bW3
  replace jX := jX.call bW3
  replace jV := jV.call bW3
  replace jA := jA.call bW3
  replace jB := bwS jB (Nat.le_refl _) bW3
  clear bW3
  obtain ⟨dk, hdk⟩ : ∃ z, d j = z := ⟨_, rfl⟩
  rw [hdk] at hcj
  have HK := Lib.hid hdk
  clear hdk
  obtain ⟨c0, c1, f0, f1, wa, cl⟩ := dk
  dsimp only at hcj
  replace hcj : w3.cell? _ = _ ∧ w3.cell? _ = _ ∧ w3.cell? _ = _ ∧ w3.cell? _ = _ ∧ w3.cell? _ = _ ∧ w3.cell? _ = _ := ⟨cell_later jB hcj.1, cell_later jB hcj.2.1, cell_later jB hcj.2.2.1, cell_later jB hcj.2.2.2.1, cell_later jB hcj.2.2.2.2.1, cell_later jB hcj.2.2.2.2.2⟩
  have zb3 := World.block_lt_of_cell? _ _ hcj.1
  go_upto_region 6 with fail
  obtain ⟨B3, hB3⟩ : ∃ q, w3.heap.size = q := ⟨_, rfl⟩
  have HB3 := Lib.hid hB3
  have zwB : w.heap.size ≤ B3 := by have := jB.size; omega
  have zB3 : B3 ≤ w3.heap.size := by omega
  clear hB3
  go_cut [13, 14] (fun s13 s14 wx => ∃ (bB bD : Nat) (z : Ic), z = iceAt l d x j ∧ s13 = .pointer (some ⟨bB, 0, none⟩) ∧ s14 = .pointer (some ⟨bD, 0, none⟩) ∧ B3 ≤ bB ∧ B3 ≤ bD ∧ bB ≠ bD ∧ Blk wx bB #[.int .i64 z.b0, .int .i64 z.b1, .int .i64 z.w0, .int .i64 z.w1, .int .i64 z.q0, .int .i64 z.q1, .int .i64 z.s0, .int .i64 z.s1] 28 ∧ Blk wx bD #[.int .i64 c0, .int .i64 c1, .int .i64 f0, .int .i64 f1, .int .i64 wa, .bool cl] 58 ∧ Below B3 w3 wx)
  case first =>
    (
 refine wp_region_held_drew (S := (fun w' => Below B3 w3 w')) (by kernel_rfl) ?_ (fun hH => ?_)
 · (try dsimp only); (exact (Below.refl _ _).drew)
 refine tkY 0 (some 34) ?_ ?_ ?_
 rotate_left
 · intro w hS0; (try dsimp only at hS0); have hS2 := hS0; rw [← HB3.out] at hS2; have kl := jL.call hS2; have ki := jX.call hS2; have kv := jV.call hS2; have ka := jA.call hS2; obtain ⟨l0, l1, l2, l3, l4, l5, l6, l7⟩ := kl.c8; obtain ⟨i0, i1, i2, i3, i4, i5, i6, i7⟩ := ki.c8; have v0 := kv.cell1; have a0 := ka.cell1; have y1 := kl.lt; have y2 := ki.lt; have y4 := kv.lt; have y5 := ka.lt; have p0 := cell_later hS2 hcj.1; have p1 := cell_later hS2 hcj.2.1; have p2 := cell_later hS2 hcj.2.2.1; have p3 := cell_later hS2 hcj.2.2.2.1; have p4 := cell_later hS2 hcj.2.2.2.2.1; have p5 := cell_later hS2 hcj.2.2.2.2.2;go_simp; (try with_reducible rfl)
 (try simp only [cq])
 refine tkY 1 (some 35) ?_ ?_ ?_
 rotate_left
 · intro w hS0; (try dsimp only at hS0); have hS2 := hS0; rw [← HB3.out] at hS2; have kl := jL.call hS2; have ki := jX.call hS2; have kv := jV.call hS2; have ka := jA.call hS2; obtain ⟨l0, l1, l2, l3, l4, l5, l6, l7⟩ := kl.c8; obtain ⟨i0, i1, i2, i3, i4, i5, i6, i7⟩ := ki.c8; have v0 := kv.cell1; have a0 := ka.cell1; have y1 := kl.lt; have y2 := ki.lt; have y4 := kv.lt; have y5 := ka.lt; have p0 := cell_later hS2 hcj.1; have p1 := cell_later hS2 hcj.2.1; have p2 := cell_later hS2 hcj.2.2.1; have p3 := cell_later hS2 hcj.2.2.2.1; have p4 := cell_later hS2 hcj.2.2.2.2.1; have p5 := cell_later hS2 hcj.2.2.2.2.2;go_simp; (try with_reducible rfl)
 (try simp only [cq])
 refine tkY 2 (some 36) ?_ ?_ ?_
 rotate_left
 · intro w hS0; (try dsimp only at hS0); have hS2 := hS0; rw [← HB3.out] at hS2; have kl := jL.call hS2; have ki := jX.call hS2; have kv := jV.call hS2; have ka := jA.call hS2; obtain ⟨l0, l1, l2, l3, l4, l5, l6, l7⟩ := kl.c8; obtain ⟨i0, i1, i2, i3, i4, i5, i6, i7⟩ := ki.c8; have v0 := kv.cell1; have a0 := ka.cell1; have y1 := kl.lt; have y2 := ki.lt; have y4 := kv.lt; have y5 := ka.lt; have p0 := cell_later hS2 hcj.1; have p1 := cell_later hS2 hcj.2.1; have p2 := cell_later hS2 hcj.2.2.1; have p3 := cell_later hS2 hcj.2.2.2.1; have p4 := cell_later hS2 hcj.2.2.2.2.1; have p5 := cell_later hS2 hcj.2.2.2.2.2;go_simp; (try with_reducible rfl)
 (try simp only [cq])
 refine tkY 3 (some 37) ?_ ?_ ?_
 rotate_left
 · intro w hS0; (try dsimp only at hS0); have hS2 := hS0; rw [← HB3.out] at hS2; have kl := jL.call hS2; have ki := jX.call hS2; have kv := jV.call hS2; have ka := jA.call hS2; obtain ⟨l0, l1, l2, l3, l4, l5, l6, l7⟩ := kl.c8; obtain ⟨i0, i1, i2, i3, i4, i5, i6, i7⟩ := ki.c8; have v0 := kv.cell1; have a0 := ka.cell1; have y1 := kl.lt; have y2 := ki.lt; have y4 := kv.lt; have y5 := ka.lt; have p0 := cell_later hS2 hcj.1; have p1 := cell_later hS2 hcj.2.1; have p2 := cell_later hS2 hcj.2.2.1; have p3 := cell_later hS2 hcj.2.2.2.1; have p4 := cell_later hS2 hcj.2.2.2.2.1; have p5 := cell_later hS2 hcj.2.2.2.2.2;go_simp; (try with_reducible rfl)
 (try simp only [cq])
 refine tkY 4 (some 38) ?_ ?_ ?_
 rotate_left
 · intro w _; go_simp; (try with_reducible rfl)
 (try simp only [cq])
 refine tkY 5 (some 39) ?_ ?_ ?_
 rotate_left
 · intro w hS0; (try dsimp only at hS0); have hS2 := hS0; rw [← HB3.out] at hS2; have kl := jL.call hS2; have ki := jX.call hS2; have kv := jV.call hS2; have ka := jA.call hS2; obtain ⟨l0, l1, l2, l3, l4, l5, l6, l7⟩ := kl.c8; obtain ⟨i0, i1, i2, i3, i4, i5, i6, i7⟩ := ki.c8; have v0 := kv.cell1; have a0 := ka.cell1; have y1 := kl.lt; have y2 := ki.lt; have y4 := kv.lt; have y5 := ka.lt; have p0 := cell_later hS2 hcj.1; have p1 := cell_later hS2 hcj.2.1; have p2 := cell_later hS2 hcj.2.2.1; have p3 := cell_later hS2 hcj.2.2.2.1; have p4 := cell_later hS2 hcj.2.2.2.2.1; have p5 := cell_later hS2 hcj.2.2.2.2.2;go_simp; (try with_reducible rfl)
 (try simp only [cq])
 refine tkY 7 (some 41) ?_ ?_ ?_
 rotate_left
 · intro w hS0; (try dsimp only at hS0); have hS2 := hS0; rw [← HB3.out] at hS2; have kl := jL.call hS2; have ki := jX.call hS2; have kv := jV.call hS2; have ka := jA.call hS2; obtain ⟨l0, l1, l2, l3, l4, l5, l6, l7⟩ := kl.c8; obtain ⟨i0, i1, i2, i3, i4, i5, i6, i7⟩ := ki.c8; have v0 := kv.cell1; have a0 := ka.cell1; have y1 := kl.lt; have y2 := ki.lt; have y4 := kv.lt; have y5 := ka.lt; have p0 := cell_later hS2 hcj.1; have p1 := cell_later hS2 hcj.2.1; have p2 := cell_later hS2 hcj.2.2.1; have p3 := cell_later hS2 hcj.2.2.2.1; have p4 := cell_later hS2 hcj.2.2.2.2.1; have p5 := cell_later hS2 hcj.2.2.2.2.2;go_simp; (try with_reducible rfl)
 (try simp only [cq])
 refine tkY 8 (some 42) ?_ ?_ ?_
 rotate_left
 · intro w hS0; (try dsimp only at hS0); have hS2 := hS0; rw [← HB3.out] at hS2; have kl := jL.call hS2; have ki := jX.call hS2; have kv := jV.call hS2; have ka := jA.call hS2; obtain ⟨l0, l1, l2, l3, l4, l5, l6, l7⟩ := kl.c8; obtain ⟨i0, i1, i2, i3, i4, i5, i6, i7⟩ := ki.c8; have v0 := kv.cell1; have a0 := ka.cell1; have y1 := kl.lt; have y2 := ki.lt; have y4 := kv.lt; have y5 := ka.lt; have p0 := cell_later hS2 hcj.1; have p1 := cell_later hS2 hcj.2.1; have p2 := cell_later hS2 hcj.2.2.1; have p3 := cell_later hS2 hcj.2.2.2.1; have p4 := cell_later hS2 hcj.2.2.2.2.1; have p5 := cell_later hS2 hcj.2.2.2.2.2;go_simp; (try with_reducible rfl)
 (try simp only [cq])
 refine tkY 9 (some 43) ?_ ?_ ?_
 rotate_left
 · intro w _; go_simp; (try with_reducible rfl)
 (try simp only [cq])
 refine tkY 10 (some 44) ?_ ?_ ?_
 rotate_left
 · intro w hS0; (try dsimp only at hS0); have hS2 := hS0; rw [← HB3.out] at hS2; have kl := jL.call hS2; have ki := jX.call hS2; have kv := jV.call hS2; have ka := jA.call hS2; obtain ⟨l0, l1, l2, l3, l4, l5, l6, l7⟩ := kl.c8; obtain ⟨i0, i1, i2, i3, i4, i5, i6, i7⟩ := ki.c8; have v0 := kv.cell1; have a0 := ka.cell1; have y1 := kl.lt; have y2 := ki.lt; have y4 := kv.lt; have y5 := ka.lt; have p0 := cell_later hS2 hcj.1; have p1 := cell_later hS2 hcj.2.1; have p2 := cell_later hS2 hcj.2.2.1; have p3 := cell_later hS2 hcj.2.2.2.1; have p4 := cell_later hS2 hcj.2.2.2.2.1; have p5 := cell_later hS2 hcj.2.2.2.2.2;go_simp; (try with_reducible rfl)
 (try simp only [cq])
 refine tkY 11 (some 45) ?_ ?_ ?_
 rotate_left
 · intro w hS0; (try dsimp only at hS0); have hS2 := hS0; rw [← HB3.out] at hS2; have kl := jL.call hS2; have ki := jX.call hS2; have kv := jV.call hS2; have ka := jA.call hS2; obtain ⟨l0, l1, l2, l3, l4, l5, l6, l7⟩ := kl.c8; obtain ⟨i0, i1, i2, i3, i4, i5, i6, i7⟩ := ki.c8; have v0 := kv.cell1; have a0 := ka.cell1; have y1 := kl.lt; have y2 := ki.lt; have y4 := kv.lt; have y5 := ka.lt; have p0 := cell_later hS2 hcj.1; have p1 := cell_later hS2 hcj.2.1; have p2 := cell_later hS2 hcj.2.2.1; have p3 := cell_later hS2 hcj.2.2.2.1; have p4 := cell_later hS2 hcj.2.2.2.2.1; have p5 := cell_later hS2 hcj.2.2.2.2.2;go_simp; (try with_reducible rfl)
 (try simp only [cq])
 refine wpAnyH_ready (rs := [6, 12, 13]) (by kernel_rfl) (by simp) ?_
 refine arc (some 40) (fun K hK => ?_) ?_
 {
 go_simp
 (refine (HL.out _ (jB.trans (hH.mono zwB))).mono ?_; rintro e w' ⟨z, hz, rfl, hb⟩; have HZ := Lib.hid hz; clear hz)
 refine hK.out _ _ ?_ (fun hH => ?_)
 · (exact hH.trans (hb.mono (by have := hH.size; omega)))
 (try (replace kB := kB.call hb))
 (try (replace kD := kD.call hb))
 clear hb
 clear hK K
 (try simp only [cq])
 refine wpAnyH_ready (rs := [12, 13]) (by kernel_rfl) (by simp) ?_
 refine arc (some 13) (fun K hK => ?_) ?_
 {
 have zz : B3 ≤ _ := Nat.le_trans zB3 hH.size
 (try (have zx := kD.lt))
 go_simp
 first | refine oA hK ?_ (fun hH hA => ?_) | refine oD hK ?_ (fun hH hA => ?_)
 · exact hH.alloc (Nat.le_trans zB3 hH.size) _
 (try (replace kD := kD.alloc (.cells #[.int .i64 0, .int .i64 0, .int .i64 0, .int .i64 0, .int .i64 0, .int .i64 0, .int .i64 0, .int .i64 0] 28)))
 have kB := hA
 clear hA
 obtain ⟨bB, hbB⟩ : ∃ b, Blk.num kB = b := ⟨_, rfl⟩
 obtain ⟨Wn, hWn⟩ : ∃ V, Blk.wld kB = V := ⟨_, rfl⟩
 simp only [Blk.num] at hbB
 simp only [Blk.wld] at hWn
 rw [hWn] at hH kB ⊢
 (try rw [hWn] at kD)
 rw [hbB] at kB ⊢
 replace zz : B3 ≤ bB := by rw [← hbB]; exact zz
 (try (replace zx : bD < bB := by rw [← hbB]; exact zx))
 have zB := zz
 clear zz hbB hWn
 (try (have hne : bB ≠ bD := by omega))
 clear hK K
 (try simp only [cq])
 refine wpAnyH_ready (rs := [13]) (by kernel_rfl) (by simp) ?_
 refine arc1 (some 14) fun K hK => ?_
 have zz : B3 ≤ _ := Nat.le_trans zB3 hH.size
 (try (have zx := kB.lt))
 go_simp
 first | refine oA hK ?_ (fun hH hA => ?_) | refine oD hK ?_ (fun hH hA => ?_)
 · exact hH.alloc (Nat.le_trans zB3 hH.size) _
 (try (replace kB := kB.alloc (.cells #[.int .i64 0, .int .i64 0, .int .i64 0, .int .i64 0, .int .i64 0, .bool false] 58)))
 have kD := hA
 clear hA
 obtain ⟨bD, hbD⟩ : ∃ b, Blk.num kD = b := ⟨_, rfl⟩
 obtain ⟨Wn, hWn⟩ : ∃ V, Blk.wld kD = V := ⟨_, rfl⟩
 simp only [Blk.num] at hbD
 simp only [Blk.wld] at hWn
 rw [hWn] at hH kD ⊢
 (try rw [hWn] at kB)
 rw [hbD] at kD ⊢
 replace zz : B3 ≤ bD := by rw [← hbD]; exact zz
 (try (replace zx : bB < bD := by rw [← hbD]; exact zx))
 have zD := zz
 clear zz hbD hWn
 (try (have hne : bB ≠ bD := by omega))
 clear hK K
 (try simp only [cq])
 refine wpAnyH_ready (rs := [14]) (by kernel_rfl) (by simp) ?_
 refine arc1 none fun K hK => ?_
 obtain ⟨r0, r1, r2, r3, r4, r5, r6, r7⟩ := kB.c8
 have fr0 := kB.free 0
 have fr1 := kB.free 1
 have fr2 := kB.free 2
 have fr3 := kB.free 3
 have fr4 := kB.free 4
 have fr5 := kB.free 5
 have fr6 := kB.free 6
 have fr7 := kB.free 7
 have zR := kB.lt
 have H1 := Lib.hid (kB.set8 (.int .i64 z.b0) (.int .i64 z.b1) (.int .i64 z.w0) (.int .i64 z.w1) (.int .i64 z.q0) (.int .i64 z.q1) (.int .i64 z.s0) (.int .i64 z.s1))
 have H2 := Lib.hid (kD.other8 (c := bB) (Ne.symm hne) (.int .i64 z.b0) (.int .i64 z.b1) (.int .i64 z.w0) (.int .i64 z.w1) (.int .i64 z.q0) (.int .i64 z.q1) (.int .i64 z.s0) (.int .i64 z.s1))
 have H3 := Lib.hid (below_set8 hH zB (.int .i64 z.b0) (.int .i64 z.b1) (.int .i64 z.w0) (.int .i64 z.w1) (.int .i64 z.q0) (.int .i64 z.q1) (.int .i64 z.s0) (.int .i64 z.s1))
 clear hH
 go_simp
 refine hK.out _ _ ?_ (fun hH => ?_)
 · exact H3.out
 clear r0 r1 r2 r3 r4 r5 r6 r7 fr0 fr1 fr2 fr3 fr4 fr5 fr6 fr7 zR
 replace kB := H1.out
 replace kD := H2.out
 clear H1 H2 H3
 obtain ⟨Wn, hWn⟩ : ∃ V, Blk.wld kB = V := ⟨_, rfl⟩
 simp only [Blk.wld] at hWn
 rw [hWn] at hH kB kD ⊢
 clear hWn
 clear hK K
 (try simp only [cq])
 refine wpAnyH_ready (rs := [15]) (by kernel_rfl) (by simp) ?_
 refine arc1 none fun K hK => ?_
 obtain ⟨r0, r1, r2, r3, r4, r5⟩ := kD.c6
 have fr0 := kD.free 0
 have fr1 := kD.free 1
 have fr2 := kD.free 2
 have fr3 := kD.free 3
 have fr4 := kD.free 4
 have fr5 := kD.free 5
 have zR := kD.lt
 have H1 := Lib.hid (kD.set6 (.int .i64 c0) (.int .i64 c1) (.int .i64 f0) (.int .i64 f1) (.int .i64 wa) (.bool cl))
 have H2 := Lib.hid ((((((kB.other ⟨bD, 0, none⟩ (.int .i64 c0) hne).other ⟨bD, 1, none⟩ (.int .i64 c1) hne).other ⟨bD, 2, none⟩ (.int .i64 f0) hne).other ⟨bD, 3, none⟩ (.int .i64 f1) hne).other ⟨bD, 4, none⟩ (.int .i64 wa) hne).other ⟨bD, 5, none⟩ (.bool cl) hne)
 have H3 := Lib.hid ((((((hH.setCell (p := ⟨bD, 0, none⟩) zD (.int .i64 c0)).setCell (p := ⟨bD, 1, none⟩) zD (.int .i64 c1)).setCell (p := ⟨bD, 2, none⟩) zD (.int .i64 f0)).setCell (p := ⟨bD, 3, none⟩) zD (.int .i64 f1)).setCell (p := ⟨bD, 4, none⟩) zD (.int .i64 wa)).setCell (p := ⟨bD, 5, none⟩) zD (.bool cl))
 clear hH
 go_simp
 refine hK.out _ _ ?_ (fun hH => ?_)
 · exact H3.out
 clear r0 r1 r2 r3 r4 r5 fr0 fr1 fr2 fr3 fr4 fr5 zR
 replace kD := H1.out
 replace kB := H2.out
 clear H1 H2 H3
 obtain ⟨Wn, hWn⟩ : ∃ V, Blk.wld kB = V := ⟨_, rfl⟩
 simp only [Blk.wld] at hWn
 rw [hWn] at hH kB kD ⊢
 clear hWn
 clear hK K
 (try simp only [cq])
 refine wpAnyH_done (by kernel_rfl) ?_ _
 (try dsimp only [Act.put])
 (try simp only [cq])
 go_wp2_with fail
 go_meet
 exact ⟨bB, bD, z, HZ.out, rfl, rfl, zB, zD, hne, kB, kD, hH⟩
 }
 refine arc (some 14) (fun K hK => ?_) ?_
 {
 have zz : B3 ≤ _ := Nat.le_trans zB3 hH.size
 (try (have zx := kB.lt))
 go_simp
 first | refine oA hK ?_ (fun hH hA => ?_) | refine oD hK ?_ (fun hH hA => ?_)
 · exact hH.alloc (Nat.le_trans zB3 hH.size) _
 (try (replace kB := kB.alloc (.cells #[.int .i64 0, .int .i64 0, .int .i64 0, .int .i64 0, .int .i64 0, .bool false] 58)))
 have kD := hA
 clear hA
 obtain ⟨bD, hbD⟩ : ∃ b, Blk.num kD = b := ⟨_, rfl⟩
 obtain ⟨Wn, hWn⟩ : ∃ V, Blk.wld kD = V := ⟨_, rfl⟩
 simp only [Blk.num] at hbD
 simp only [Blk.wld] at hWn
 rw [hWn] at hH kD ⊢
 (try rw [hWn] at kB)
 rw [hbD] at kD ⊢
 replace zz : B3 ≤ bD := by rw [← hbD]; exact zz
 (try (replace zx : bB < bD := by rw [← hbD]; exact zx))
 have zD := zz
 clear zz hbD hWn
 (try (have hne : bB ≠ bD := by omega))
 clear hK K
 (try simp only [cq])
 refine wpAnyH_ready (rs := [12]) (by kernel_rfl) (by simp) ?_
 refine arc1 (some 13) fun K hK => ?_
 have zz : B3 ≤ _ := Nat.le_trans zB3 hH.size
 (try (have zx := kD.lt))
 go_simp
 first | refine oA hK ?_ (fun hH hA => ?_) | refine oD hK ?_ (fun hH hA => ?_)
 · exact hH.alloc (Nat.le_trans zB3 hH.size) _
 (try (replace kD := kD.alloc (.cells #[.int .i64 0, .int .i64 0, .int .i64 0, .int .i64 0, .int .i64 0, .int .i64 0, .int .i64 0, .int .i64 0] 28)))
 have kB := hA
 clear hA
 obtain ⟨bB, hbB⟩ : ∃ b, Blk.num kB = b := ⟨_, rfl⟩
 obtain ⟨Wn, hWn⟩ : ∃ V, Blk.wld kB = V := ⟨_, rfl⟩
 simp only [Blk.num] at hbB
 simp only [Blk.wld] at hWn
 rw [hWn] at hH kB ⊢
 (try rw [hWn] at kD)
 rw [hbB] at kB ⊢
 replace zz : B3 ≤ bB := by rw [← hbB]; exact zz
 (try (replace zx : bD < bB := by rw [← hbB]; exact zx))
 have zB := zz
 clear zz hbB hWn
 (try (have hne : bB ≠ bD := by omega))
 clear hK K
 (try simp only [cq])
 refine wpAnyH_ready (rs := [14]) (by kernel_rfl) (by simp) ?_
 refine arc1 none fun K hK => ?_
 obtain ⟨r0, r1, r2, r3, r4, r5, r6, r7⟩ := kB.c8
 have fr0 := kB.free 0
 have fr1 := kB.free 1
 have fr2 := kB.free 2
 have fr3 := kB.free 3
 have fr4 := kB.free 4
 have fr5 := kB.free 5
 have fr6 := kB.free 6
 have fr7 := kB.free 7
 have zR := kB.lt
 have H1 := Lib.hid (kB.set8 (.int .i64 z.b0) (.int .i64 z.b1) (.int .i64 z.w0) (.int .i64 z.w1) (.int .i64 z.q0) (.int .i64 z.q1) (.int .i64 z.s0) (.int .i64 z.s1))
 have H2 := Lib.hid (kD.other8 (c := bB) (Ne.symm hne) (.int .i64 z.b0) (.int .i64 z.b1) (.int .i64 z.w0) (.int .i64 z.w1) (.int .i64 z.q0) (.int .i64 z.q1) (.int .i64 z.s0) (.int .i64 z.s1))
 have H3 := Lib.hid (below_set8 hH zB (.int .i64 z.b0) (.int .i64 z.b1) (.int .i64 z.w0) (.int .i64 z.w1) (.int .i64 z.q0) (.int .i64 z.q1) (.int .i64 z.s0) (.int .i64 z.s1))
 clear hH
 go_simp
 refine hK.out _ _ ?_ (fun hH => ?_)
 · exact H3.out
 clear r0 r1 r2 r3 r4 r5 r6 r7 fr0 fr1 fr2 fr3 fr4 fr5 fr6 fr7 zR
 replace kB := H1.out
 replace kD := H2.out
 clear H1 H2 H3
 obtain ⟨Wn, hWn⟩ : ∃ V, Blk.wld kB = V := ⟨_, rfl⟩
 simp only [Blk.wld] at hWn
 rw [hWn] at hH kB kD ⊢
 clear hWn
 clear hK K
 (try simp only [cq])
 refine wpAnyH_ready (rs := [15]) (by kernel_rfl) (by simp) ?_
 refine arc1 none fun K hK => ?_
 obtain ⟨r0, r1, r2, r3, r4, r5⟩ := kD.c6
 have fr0 := kD.free 0
 have fr1 := kD.free 1
 have fr2 := kD.free 2
 have fr3 := kD.free 3
 have fr4 := kD.free 4
 have fr5 := kD.free 5
 have zR := kD.lt
 have H1 := Lib.hid (kD.set6 (.int .i64 c0) (.int .i64 c1) (.int .i64 f0) (.int .i64 f1) (.int .i64 wa) (.bool cl))
 have H2 := Lib.hid ((((((kB.other ⟨bD, 0, none⟩ (.int .i64 c0) hne).other ⟨bD, 1, none⟩ (.int .i64 c1) hne).other ⟨bD, 2, none⟩ (.int .i64 f0) hne).other ⟨bD, 3, none⟩ (.int .i64 f1) hne).other ⟨bD, 4, none⟩ (.int .i64 wa) hne).other ⟨bD, 5, none⟩ (.bool cl) hne)
 have H3 := Lib.hid ((((((hH.setCell (p := ⟨bD, 0, none⟩) zD (.int .i64 c0)).setCell (p := ⟨bD, 1, none⟩) zD (.int .i64 c1)).setCell (p := ⟨bD, 2, none⟩) zD (.int .i64 f0)).setCell (p := ⟨bD, 3, none⟩) zD (.int .i64 f1)).setCell (p := ⟨bD, 4, none⟩) zD (.int .i64 wa)).setCell (p := ⟨bD, 5, none⟩) zD (.bool cl))
 clear hH
 go_simp
 refine hK.out _ _ ?_ (fun hH => ?_)
 · exact H3.out
 clear r0 r1 r2 r3 r4 r5 fr0 fr1 fr2 fr3 fr4 fr5 zR
 replace kD := H1.out
 replace kB := H2.out
 clear H1 H2 H3
 obtain ⟨Wn, hWn⟩ : ∃ V, Blk.wld kB = V := ⟨_, rfl⟩
 simp only [Blk.wld] at hWn
 rw [hWn] at hH kB kD ⊢
 clear hWn
 clear hK K
 (try simp only [cq])
 refine wpAnyH_done (by kernel_rfl) ?_ _
 (try dsimp only [Act.put])
 (try simp only [cq])
 go_wp2_with fail
 go_meet
 exact ⟨bB, bD, z, HZ.out, rfl, rfl, zB, zD, hne, kB, kD, hH⟩
 }
 exact AllReadyH.nil
 }
 refine arc (some 13) (fun K hK => ?_) ?_
 {
 have zz : B3 ≤ _ := Nat.le_trans zB3 hH.size
 (try (have zx := kD.lt))
 go_simp
 first | refine oA hK ?_ (fun hH hA => ?_) | refine oD hK ?_ (fun hH hA => ?_)
 · exact hH.alloc (Nat.le_trans zB3 hH.size) _
 (try (replace kD := kD.alloc (.cells #[.int .i64 0, .int .i64 0, .int .i64 0, .int .i64 0, .int .i64 0, .int .i64 0, .int .i64 0, .int .i64 0] 28)))
 have kB := hA
 clear hA
 obtain ⟨bB, hbB⟩ : ∃ b, Blk.num kB = b := ⟨_, rfl⟩
 obtain ⟨Wn, hWn⟩ : ∃ V, Blk.wld kB = V := ⟨_, rfl⟩
 simp only [Blk.num] at hbB
 simp only [Blk.wld] at hWn
 rw [hWn] at hH kB ⊢
 (try rw [hWn] at kD)
 rw [hbB] at kB ⊢
 replace zz : B3 ≤ bB := by rw [← hbB]; exact zz
 (try (replace zx : bD < bB := by rw [← hbB]; exact zx))
 have zB := zz
 clear zz hbB hWn
 (try (have hne : bB ≠ bD := by omega))
 clear hK K
 (try simp only [cq])
 refine wpAnyH_ready (rs := [6, 13]) (by kernel_rfl) (by simp) ?_
 refine arc (some 40) (fun K hK => ?_) ?_
 {
 go_simp
 (refine (HL.out _ (jB.trans (hH.mono zwB))).mono ?_; rintro e w' ⟨z, hz, rfl, hb⟩; have HZ := Lib.hid hz; clear hz)
 refine hK.out _ _ ?_ (fun hH => ?_)
 · (exact hH.trans (hb.mono (by have := hH.size; omega)))
 (try (replace kB := kB.call hb))
 (try (replace kD := kD.call hb))
 clear hb
 clear hK K
 (try simp only [cq])
 refine wpAnyH_ready (rs := [13]) (by kernel_rfl) (by simp) ?_
 refine arc1 (some 14) fun K hK => ?_
 have zz : B3 ≤ _ := Nat.le_trans zB3 hH.size
 (try (have zx := kB.lt))
 go_simp
 first | refine oA hK ?_ (fun hH hA => ?_) | refine oD hK ?_ (fun hH hA => ?_)
 · exact hH.alloc (Nat.le_trans zB3 hH.size) _
 (try (replace kB := kB.alloc (.cells #[.int .i64 0, .int .i64 0, .int .i64 0, .int .i64 0, .int .i64 0, .bool false] 58)))
 have kD := hA
 clear hA
 obtain ⟨bD, hbD⟩ : ∃ b, Blk.num kD = b := ⟨_, rfl⟩
 obtain ⟨Wn, hWn⟩ : ∃ V, Blk.wld kD = V := ⟨_, rfl⟩
 simp only [Blk.num] at hbD
 simp only [Blk.wld] at hWn
 rw [hWn] at hH kD ⊢
 (try rw [hWn] at kB)
 rw [hbD] at kD ⊢
 replace zz : B3 ≤ bD := by rw [← hbD]; exact zz
 (try (replace zx : bB < bD := by rw [← hbD]; exact zx))
 have zD := zz
 clear zz hbD hWn
 (try (have hne : bB ≠ bD := by omega))
 clear hK K
 (try simp only [cq])
 refine wpAnyH_ready (rs := [14]) (by kernel_rfl) (by simp) ?_
 refine arc1 none fun K hK => ?_
 obtain ⟨r0, r1, r2, r3, r4, r5, r6, r7⟩ := kB.c8
 have fr0 := kB.free 0
 have fr1 := kB.free 1
 have fr2 := kB.free 2
 have fr3 := kB.free 3
 have fr4 := kB.free 4
 have fr5 := kB.free 5
 have fr6 := kB.free 6
 have fr7 := kB.free 7
 have zR := kB.lt
 have H1 := Lib.hid (kB.set8 (.int .i64 z.b0) (.int .i64 z.b1) (.int .i64 z.w0) (.int .i64 z.w1) (.int .i64 z.q0) (.int .i64 z.q1) (.int .i64 z.s0) (.int .i64 z.s1))
 have H2 := Lib.hid (kD.other8 (c := bB) (Ne.symm hne) (.int .i64 z.b0) (.int .i64 z.b1) (.int .i64 z.w0) (.int .i64 z.w1) (.int .i64 z.q0) (.int .i64 z.q1) (.int .i64 z.s0) (.int .i64 z.s1))
 have H3 := Lib.hid (below_set8 hH zB (.int .i64 z.b0) (.int .i64 z.b1) (.int .i64 z.w0) (.int .i64 z.w1) (.int .i64 z.q0) (.int .i64 z.q1) (.int .i64 z.s0) (.int .i64 z.s1))
 clear hH
 go_simp
 refine hK.out _ _ ?_ (fun hH => ?_)
 · exact H3.out
 clear r0 r1 r2 r3 r4 r5 r6 r7 fr0 fr1 fr2 fr3 fr4 fr5 fr6 fr7 zR
 replace kB := H1.out
 replace kD := H2.out
 clear H1 H2 H3
 obtain ⟨Wn, hWn⟩ : ∃ V, Blk.wld kB = V := ⟨_, rfl⟩
 simp only [Blk.wld] at hWn
 rw [hWn] at hH kB kD ⊢
 clear hWn
 clear hK K
 (try simp only [cq])
 refine wpAnyH_ready (rs := [15]) (by kernel_rfl) (by simp) ?_
 refine arc1 none fun K hK => ?_
 obtain ⟨r0, r1, r2, r3, r4, r5⟩ := kD.c6
 have fr0 := kD.free 0
 have fr1 := kD.free 1
 have fr2 := kD.free 2
 have fr3 := kD.free 3
 have fr4 := kD.free 4
 have fr5 := kD.free 5
 have zR := kD.lt
 have H1 := Lib.hid (kD.set6 (.int .i64 c0) (.int .i64 c1) (.int .i64 f0) (.int .i64 f1) (.int .i64 wa) (.bool cl))
 have H2 := Lib.hid ((((((kB.other ⟨bD, 0, none⟩ (.int .i64 c0) hne).other ⟨bD, 1, none⟩ (.int .i64 c1) hne).other ⟨bD, 2, none⟩ (.int .i64 f0) hne).other ⟨bD, 3, none⟩ (.int .i64 f1) hne).other ⟨bD, 4, none⟩ (.int .i64 wa) hne).other ⟨bD, 5, none⟩ (.bool cl) hne)
 have H3 := Lib.hid ((((((hH.setCell (p := ⟨bD, 0, none⟩) zD (.int .i64 c0)).setCell (p := ⟨bD, 1, none⟩) zD (.int .i64 c1)).setCell (p := ⟨bD, 2, none⟩) zD (.int .i64 f0)).setCell (p := ⟨bD, 3, none⟩) zD (.int .i64 f1)).setCell (p := ⟨bD, 4, none⟩) zD (.int .i64 wa)).setCell (p := ⟨bD, 5, none⟩) zD (.bool cl))
 clear hH
 go_simp
 refine hK.out _ _ ?_ (fun hH => ?_)
 · exact H3.out
 clear r0 r1 r2 r3 r4 r5 fr0 fr1 fr2 fr3 fr4 fr5 zR
 replace kD := H1.out
 replace kB := H2.out
 clear H1 H2 H3
 obtain ⟨Wn, hWn⟩ : ∃ V, Blk.wld kB = V := ⟨_, rfl⟩
 simp only [Blk.wld] at hWn
 rw [hWn] at hH kB kD ⊢
 clear hWn
 clear hK K
 (try simp only [cq])
 refine wpAnyH_done (by kernel_rfl) ?_ _
 (try dsimp only [Act.put])
 (try simp only [cq])
 go_wp2_with fail
 go_meet
 exact ⟨bB, bD, z, HZ.out, rfl, rfl, zB, zD, hne, kB, kD, hH⟩
 }
 refine arc (some 14) (fun K hK => ?_) ?_
 {
 have zz : B3 ≤ _ := Nat.le_trans zB3 hH.size
 (try (have zx := kB.lt))
 go_simp
 first | refine oA hK ?_ (fun hH hA => ?_) | refine oD hK ?_ (fun hH hA => ?_)
 · exact hH.alloc (Nat.le_trans zB3 hH.size) _
 (try (replace kB := kB.alloc (.cells #[.int .i64 0, .int .i64 0, .int .i64 0, .int .i64 0, .int .i64 0, .bool false] 58)))
 have kD := hA
 clear hA
 obtain ⟨bD, hbD⟩ : ∃ b, Blk.num kD = b := ⟨_, rfl⟩
 obtain ⟨Wn, hWn⟩ : ∃ V, Blk.wld kD = V := ⟨_, rfl⟩
 simp only [Blk.num] at hbD
 simp only [Blk.wld] at hWn
 rw [hWn] at hH kD ⊢
 (try rw [hWn] at kB)
 rw [hbD] at kD ⊢
 replace zz : B3 ≤ bD := by rw [← hbD]; exact zz
 (try (replace zx : bB < bD := by rw [← hbD]; exact zx))
 have zD := zz
 clear zz hbD hWn
 (try (have hne : bB ≠ bD := by omega))
 clear hK K
 (try simp only [cq])
 refine wpAnyH_ready (rs := [6]) (by kernel_rfl) (by simp) ?_
 refine arc1 (some 40) fun K hK => ?_
 go_simp
 (refine (HL.out _ (jB.trans (hH.mono zwB))).mono ?_; rintro e w' ⟨z, hz, rfl, hb⟩; have HZ := Lib.hid hz; clear hz)
 refine hK.out _ _ ?_ (fun hH => ?_)
 · (exact hH.trans (hb.mono (by have := hH.size; omega)))
 (try (replace kB := kB.call hb))
 (try (replace kD := kD.call hb))
 clear hb
 clear hK K
 (try simp only [cq])
 refine wpAnyH_ready (rs := [14]) (by kernel_rfl) (by simp) ?_
 refine arc1 none fun K hK => ?_
 obtain ⟨r0, r1, r2, r3, r4, r5, r6, r7⟩ := kB.c8
 have fr0 := kB.free 0
 have fr1 := kB.free 1
 have fr2 := kB.free 2
 have fr3 := kB.free 3
 have fr4 := kB.free 4
 have fr5 := kB.free 5
 have fr6 := kB.free 6
 have fr7 := kB.free 7
 have zR := kB.lt
 have H1 := Lib.hid (kB.set8 (.int .i64 z.b0) (.int .i64 z.b1) (.int .i64 z.w0) (.int .i64 z.w1) (.int .i64 z.q0) (.int .i64 z.q1) (.int .i64 z.s0) (.int .i64 z.s1))
 have H2 := Lib.hid (kD.other8 (c := bB) (Ne.symm hne) (.int .i64 z.b0) (.int .i64 z.b1) (.int .i64 z.w0) (.int .i64 z.w1) (.int .i64 z.q0) (.int .i64 z.q1) (.int .i64 z.s0) (.int .i64 z.s1))
 have H3 := Lib.hid (below_set8 hH zB (.int .i64 z.b0) (.int .i64 z.b1) (.int .i64 z.w0) (.int .i64 z.w1) (.int .i64 z.q0) (.int .i64 z.q1) (.int .i64 z.s0) (.int .i64 z.s1))
 clear hH
 go_simp
 refine hK.out _ _ ?_ (fun hH => ?_)
 · exact H3.out
 clear r0 r1 r2 r3 r4 r5 r6 r7 fr0 fr1 fr2 fr3 fr4 fr5 fr6 fr7 zR
 replace kB := H1.out
 replace kD := H2.out
 clear H1 H2 H3
 obtain ⟨Wn, hWn⟩ : ∃ V, Blk.wld kB = V := ⟨_, rfl⟩
 simp only [Blk.wld] at hWn
 rw [hWn] at hH kB kD ⊢
 clear hWn
 clear hK K
 (try simp only [cq])
 refine wpAnyH_ready (rs := [15]) (by kernel_rfl) (by simp) ?_
 refine arc1 none fun K hK => ?_
 obtain ⟨r0, r1, r2, r3, r4, r5⟩ := kD.c6
 have fr0 := kD.free 0
 have fr1 := kD.free 1
 have fr2 := kD.free 2
 have fr3 := kD.free 3
 have fr4 := kD.free 4
 have fr5 := kD.free 5
 have zR := kD.lt
 have H1 := Lib.hid (kD.set6 (.int .i64 c0) (.int .i64 c1) (.int .i64 f0) (.int .i64 f1) (.int .i64 wa) (.bool cl))
 have H2 := Lib.hid ((((((kB.other ⟨bD, 0, none⟩ (.int .i64 c0) hne).other ⟨bD, 1, none⟩ (.int .i64 c1) hne).other ⟨bD, 2, none⟩ (.int .i64 f0) hne).other ⟨bD, 3, none⟩ (.int .i64 f1) hne).other ⟨bD, 4, none⟩ (.int .i64 wa) hne).other ⟨bD, 5, none⟩ (.bool cl) hne)
 have H3 := Lib.hid ((((((hH.setCell (p := ⟨bD, 0, none⟩) zD (.int .i64 c0)).setCell (p := ⟨bD, 1, none⟩) zD (.int .i64 c1)).setCell (p := ⟨bD, 2, none⟩) zD (.int .i64 f0)).setCell (p := ⟨bD, 3, none⟩) zD (.int .i64 f1)).setCell (p := ⟨bD, 4, none⟩) zD (.int .i64 wa)).setCell (p := ⟨bD, 5, none⟩) zD (.bool cl))
 clear hH
 go_simp
 refine hK.out _ _ ?_ (fun hH => ?_)
 · exact H3.out
 clear r0 r1 r2 r3 r4 r5 fr0 fr1 fr2 fr3 fr4 fr5 zR
 replace kD := H1.out
 replace kB := H2.out
 clear H1 H2 H3
 obtain ⟨Wn, hWn⟩ : ∃ V, Blk.wld kB = V := ⟨_, rfl⟩
 simp only [Blk.wld] at hWn
 rw [hWn] at hH kB kD ⊢
 clear hWn
 clear hK K
 (try simp only [cq])
 refine wpAnyH_done (by kernel_rfl) ?_ _
 (try dsimp only [Act.put])
 (try simp only [cq])
 go_wp2_with fail
 go_meet
 exact ⟨bB, bD, z, HZ.out, rfl, rfl, zB, zD, hne, kB, kD, hH⟩
 }
 exact AllReadyH.nil
 }
 refine arc (some 14) (fun K hK => ?_) ?_
 {
 have zz : B3 ≤ _ := Nat.le_trans zB3 hH.size
 (try (have zx := kB.lt))
 go_simp
 first | refine oA hK ?_ (fun hH hA => ?_) | refine oD hK ?_ (fun hH hA => ?_)
 · exact hH.alloc (Nat.le_trans zB3 hH.size) _
 (try (replace kB := kB.alloc (.cells #[.int .i64 0, .int .i64 0, .int .i64 0, .int .i64 0, .int .i64 0, .bool false] 58)))
 have kD := hA
 clear hA
 obtain ⟨bD, hbD⟩ : ∃ b, Blk.num kD = b := ⟨_, rfl⟩
 obtain ⟨Wn, hWn⟩ : ∃ V, Blk.wld kD = V := ⟨_, rfl⟩
 simp only [Blk.num] at hbD
 simp only [Blk.wld] at hWn
 rw [hWn] at hH kD ⊢
 (try rw [hWn] at kB)
 rw [hbD] at kD ⊢
 replace zz : B3 ≤ bD := by rw [← hbD]; exact zz
 (try (replace zx : bB < bD := by rw [← hbD]; exact zx))
 have zD := zz
 clear zz hbD hWn
 (try (have hne : bB ≠ bD := by omega))
 clear hK K
 (try simp only [cq])
 refine wpAnyH_ready (rs := [6, 12]) (by kernel_rfl) (by simp) ?_
 refine arc (some 40) (fun K hK => ?_) ?_
 {
 go_simp
 (refine (HL.out _ (jB.trans (hH.mono zwB))).mono ?_; rintro e w' ⟨z, hz, rfl, hb⟩; have HZ := Lib.hid hz; clear hz)
 refine hK.out _ _ ?_ (fun hH => ?_)
 · (exact hH.trans (hb.mono (by have := hH.size; omega)))
 (try (replace kB := kB.call hb))
 (try (replace kD := kD.call hb))
 clear hb
 clear hK K
 (try simp only [cq])
 refine wpAnyH_ready (rs := [12]) (by kernel_rfl) (by simp) ?_
 refine arc1 (some 13) fun K hK => ?_
 have zz : B3 ≤ _ := Nat.le_trans zB3 hH.size
 (try (have zx := kD.lt))
 go_simp
 first | refine oA hK ?_ (fun hH hA => ?_) | refine oD hK ?_ (fun hH hA => ?_)
 · exact hH.alloc (Nat.le_trans zB3 hH.size) _
 (try (replace kD := kD.alloc (.cells #[.int .i64 0, .int .i64 0, .int .i64 0, .int .i64 0, .int .i64 0, .int .i64 0, .int .i64 0, .int .i64 0] 28)))
 have kB := hA
 clear hA
 obtain ⟨bB, hbB⟩ : ∃ b, Blk.num kB = b := ⟨_, rfl⟩
 obtain ⟨Wn, hWn⟩ : ∃ V, Blk.wld kB = V := ⟨_, rfl⟩
 simp only [Blk.num] at hbB
 simp only [Blk.wld] at hWn
 rw [hWn] at hH kB ⊢
 (try rw [hWn] at kD)
 rw [hbB] at kB ⊢
 replace zz : B3 ≤ bB := by rw [← hbB]; exact zz
 (try (replace zx : bD < bB := by rw [← hbB]; exact zx))
 have zB := zz
 clear zz hbB hWn
 (try (have hne : bB ≠ bD := by omega))
 clear hK K
 (try simp only [cq])
 refine wpAnyH_ready (rs := [14]) (by kernel_rfl) (by simp) ?_
 refine arc1 none fun K hK => ?_
 obtain ⟨r0, r1, r2, r3, r4, r5, r6, r7⟩ := kB.c8
 have fr0 := kB.free 0
 have fr1 := kB.free 1
 have fr2 := kB.free 2
 have fr3 := kB.free 3
 have fr4 := kB.free 4
 have fr5 := kB.free 5
 have fr6 := kB.free 6
 have fr7 := kB.free 7
 have zR := kB.lt
 have H1 := Lib.hid (kB.set8 (.int .i64 z.b0) (.int .i64 z.b1) (.int .i64 z.w0) (.int .i64 z.w1) (.int .i64 z.q0) (.int .i64 z.q1) (.int .i64 z.s0) (.int .i64 z.s1))
 have H2 := Lib.hid (kD.other8 (c := bB) (Ne.symm hne) (.int .i64 z.b0) (.int .i64 z.b1) (.int .i64 z.w0) (.int .i64 z.w1) (.int .i64 z.q0) (.int .i64 z.q1) (.int .i64 z.s0) (.int .i64 z.s1))
 have H3 := Lib.hid (below_set8 hH zB (.int .i64 z.b0) (.int .i64 z.b1) (.int .i64 z.w0) (.int .i64 z.w1) (.int .i64 z.q0) (.int .i64 z.q1) (.int .i64 z.s0) (.int .i64 z.s1))
 clear hH
 go_simp
 refine hK.out _ _ ?_ (fun hH => ?_)
 · exact H3.out
 clear r0 r1 r2 r3 r4 r5 r6 r7 fr0 fr1 fr2 fr3 fr4 fr5 fr6 fr7 zR
 replace kB := H1.out
 replace kD := H2.out
 clear H1 H2 H3
 obtain ⟨Wn, hWn⟩ : ∃ V, Blk.wld kB = V := ⟨_, rfl⟩
 simp only [Blk.wld] at hWn
 rw [hWn] at hH kB kD ⊢
 clear hWn
 clear hK K
 (try simp only [cq])
 refine wpAnyH_ready (rs := [15]) (by kernel_rfl) (by simp) ?_
 refine arc1 none fun K hK => ?_
 obtain ⟨r0, r1, r2, r3, r4, r5⟩ := kD.c6
 have fr0 := kD.free 0
 have fr1 := kD.free 1
 have fr2 := kD.free 2
 have fr3 := kD.free 3
 have fr4 := kD.free 4
 have fr5 := kD.free 5
 have zR := kD.lt
 have H1 := Lib.hid (kD.set6 (.int .i64 c0) (.int .i64 c1) (.int .i64 f0) (.int .i64 f1) (.int .i64 wa) (.bool cl))
 have H2 := Lib.hid ((((((kB.other ⟨bD, 0, none⟩ (.int .i64 c0) hne).other ⟨bD, 1, none⟩ (.int .i64 c1) hne).other ⟨bD, 2, none⟩ (.int .i64 f0) hne).other ⟨bD, 3, none⟩ (.int .i64 f1) hne).other ⟨bD, 4, none⟩ (.int .i64 wa) hne).other ⟨bD, 5, none⟩ (.bool cl) hne)
 have H3 := Lib.hid ((((((hH.setCell (p := ⟨bD, 0, none⟩) zD (.int .i64 c0)).setCell (p := ⟨bD, 1, none⟩) zD (.int .i64 c1)).setCell (p := ⟨bD, 2, none⟩) zD (.int .i64 f0)).setCell (p := ⟨bD, 3, none⟩) zD (.int .i64 f1)).setCell (p := ⟨bD, 4, none⟩) zD (.int .i64 wa)).setCell (p := ⟨bD, 5, none⟩) zD (.bool cl))
 clear hH
 go_simp
 refine hK.out _ _ ?_ (fun hH => ?_)
 · exact H3.out
 clear r0 r1 r2 r3 r4 r5 fr0 fr1 fr2 fr3 fr4 fr5 zR
 replace kD := H1.out
 replace kB := H2.out
 clear H1 H2 H3
 obtain ⟨Wn, hWn⟩ : ∃ V, Blk.wld kB = V := ⟨_, rfl⟩
 simp only [Blk.wld] at hWn
 rw [hWn] at hH kB kD ⊢
 clear hWn
 clear hK K
 (try simp only [cq])
 refine wpAnyH_done (by kernel_rfl) ?_ _
 (try dsimp only [Act.put])
 (try simp only [cq])
 go_wp2_with fail
 go_meet
 exact ⟨bB, bD, z, HZ.out, rfl, rfl, zB, zD, hne, kB, kD, hH⟩
 }
 refine arc (some 13) (fun K hK => ?_) ?_
 {
 have zz : B3 ≤ _ := Nat.le_trans zB3 hH.size
 (try (have zx := kD.lt))
 go_simp
 first | refine oA hK ?_ (fun hH hA => ?_) | refine oD hK ?_ (fun hH hA => ?_)
 · exact hH.alloc (Nat.le_trans zB3 hH.size) _
 (try (replace kD := kD.alloc (.cells #[.int .i64 0, .int .i64 0, .int .i64 0, .int .i64 0, .int .i64 0, .int .i64 0, .int .i64 0, .int .i64 0] 28)))
 have kB := hA
 clear hA
 obtain ⟨bB, hbB⟩ : ∃ b, Blk.num kB = b := ⟨_, rfl⟩
 obtain ⟨Wn, hWn⟩ : ∃ V, Blk.wld kB = V := ⟨_, rfl⟩
 simp only [Blk.num] at hbB
 simp only [Blk.wld] at hWn
 rw [hWn] at hH kB ⊢
 (try rw [hWn] at kD)
 rw [hbB] at kB ⊢
 replace zz : B3 ≤ bB := by rw [← hbB]; exact zz
 (try (replace zx : bD < bB := by rw [← hbB]; exact zx))
 have zB := zz
 clear zz hbB hWn
 (try (have hne : bB ≠ bD := by omega))
 clear hK K
 (try simp only [cq])
 refine wpAnyH_ready (rs := [6]) (by kernel_rfl) (by simp) ?_
 refine arc1 (some 40) fun K hK => ?_
 go_simp
 (refine (HL.out _ (jB.trans (hH.mono zwB))).mono ?_; rintro e w' ⟨z, hz, rfl, hb⟩; have HZ := Lib.hid hz; clear hz)
 refine hK.out _ _ ?_ (fun hH => ?_)
 · (exact hH.trans (hb.mono (by have := hH.size; omega)))
 (try (replace kB := kB.call hb))
 (try (replace kD := kD.call hb))
 clear hb
 clear hK K
 (try simp only [cq])
 refine wpAnyH_ready (rs := [14]) (by kernel_rfl) (by simp) ?_
 refine arc1 none fun K hK => ?_
 obtain ⟨r0, r1, r2, r3, r4, r5, r6, r7⟩ := kB.c8
 have fr0 := kB.free 0
 have fr1 := kB.free 1
 have fr2 := kB.free 2
 have fr3 := kB.free 3
 have fr4 := kB.free 4
 have fr5 := kB.free 5
 have fr6 := kB.free 6
 have fr7 := kB.free 7
 have zR := kB.lt
 have H1 := Lib.hid (kB.set8 (.int .i64 z.b0) (.int .i64 z.b1) (.int .i64 z.w0) (.int .i64 z.w1) (.int .i64 z.q0) (.int .i64 z.q1) (.int .i64 z.s0) (.int .i64 z.s1))
 have H2 := Lib.hid (kD.other8 (c := bB) (Ne.symm hne) (.int .i64 z.b0) (.int .i64 z.b1) (.int .i64 z.w0) (.int .i64 z.w1) (.int .i64 z.q0) (.int .i64 z.q1) (.int .i64 z.s0) (.int .i64 z.s1))
 have H3 := Lib.hid (below_set8 hH zB (.int .i64 z.b0) (.int .i64 z.b1) (.int .i64 z.w0) (.int .i64 z.w1) (.int .i64 z.q0) (.int .i64 z.q1) (.int .i64 z.s0) (.int .i64 z.s1))
 clear hH
 go_simp
 refine hK.out _ _ ?_ (fun hH => ?_)
 · exact H3.out
 clear r0 r1 r2 r3 r4 r5 r6 r7 fr0 fr1 fr2 fr3 fr4 fr5 fr6 fr7 zR
 replace kB := H1.out
 replace kD := H2.out
 clear H1 H2 H3
 obtain ⟨Wn, hWn⟩ : ∃ V, Blk.wld kB = V := ⟨_, rfl⟩
 simp only [Blk.wld] at hWn
 rw [hWn] at hH kB kD ⊢
 clear hWn
 clear hK K
 (try simp only [cq])
 refine wpAnyH_ready (rs := [15]) (by kernel_rfl) (by simp) ?_
 refine arc1 none fun K hK => ?_
 obtain ⟨r0, r1, r2, r3, r4, r5⟩ := kD.c6
 have fr0 := kD.free 0
 have fr1 := kD.free 1
 have fr2 := kD.free 2
 have fr3 := kD.free 3
 have fr4 := kD.free 4
 have fr5 := kD.free 5
 have zR := kD.lt
 have H1 := Lib.hid (kD.set6 (.int .i64 c0) (.int .i64 c1) (.int .i64 f0) (.int .i64 f1) (.int .i64 wa) (.bool cl))
 have H2 := Lib.hid ((((((kB.other ⟨bD, 0, none⟩ (.int .i64 c0) hne).other ⟨bD, 1, none⟩ (.int .i64 c1) hne).other ⟨bD, 2, none⟩ (.int .i64 f0) hne).other ⟨bD, 3, none⟩ (.int .i64 f1) hne).other ⟨bD, 4, none⟩ (.int .i64 wa) hne).other ⟨bD, 5, none⟩ (.bool cl) hne)
 have H3 := Lib.hid ((((((hH.setCell (p := ⟨bD, 0, none⟩) zD (.int .i64 c0)).setCell (p := ⟨bD, 1, none⟩) zD (.int .i64 c1)).setCell (p := ⟨bD, 2, none⟩) zD (.int .i64 f0)).setCell (p := ⟨bD, 3, none⟩) zD (.int .i64 f1)).setCell (p := ⟨bD, 4, none⟩) zD (.int .i64 wa)).setCell (p := ⟨bD, 5, none⟩) zD (.bool cl))
 clear hH
 go_simp
 refine hK.out _ _ ?_ (fun hH => ?_)
 · exact H3.out
 clear r0 r1 r2 r3 r4 r5 fr0 fr1 fr2 fr3 fr4 fr5 zR
 replace kD := H1.out
 replace kB := H2.out
 clear H1 H2 H3
 obtain ⟨Wn, hWn⟩ : ∃ V, Blk.wld kB = V := ⟨_, rfl⟩
 simp only [Blk.wld] at hWn
 rw [hWn] at hH kB kD ⊢
 clear hWn
 clear hK K
 (try simp only [cq])
 refine wpAnyH_done (by kernel_rfl) ?_ _
 (try dsimp only [Act.put])
 (try simp only [cq])
 go_wp2_with fail
 go_meet
 exact ⟨bB, bD, z, HZ.out, rfl, rfl, zB, zD, hne, kB, kD, hH⟩
 }
 exact AllReadyH.nil
 }
 exact AllReadyH.nil )
  case rest =>
    obtain ⟨bB, bD, z, hz, rfl, rfl, zB, zD, hne, jB2, jD, hb⟩ := hcut
    have zB4 := HB3.out
    rw [← zB4] at hb zB zD
    clear zB4 HB3 zB3 zwB
    go_upto_region 8 with fail
    have zL3 := jL.lt
    have zV3 := jV.lt
    have zA3 := jA.lt
    have zw3 := jB.size
    have hF0 : FlAt w l va vcap (some ⟨b, o, none⟩) n dcap j (iceAt l d x j) (d j).c0 (d j).c1 (d j).f0 (d j).f1 (d j).cl w.heap.size bB bD (w.heap.size + 1 + 1) (w.heap.size + 1 + 1 + 1) wc := by
      rw [← hz, HK.out]
      exact ⟨bwS jB (Nat.le_refl _) hb, jL.call hb, jB2, ⟨wa, jD⟩, jV.call hb, jA.call hb⟩
    have zbD : bD < wc.heap.size := jD.lt
    obtain ⟨bF, hbF⟩ : ∃ q, wc.heap.size = q := ⟨_, rfl⟩
    have zF : bF ≠ bD := by omega
    have hF1 : FlAt w l va vcap (some ⟨b, o, none⟩) n dcap j (iceAt l d x j) (d j).c0 (d j).c1 (d j).f0 (d j).f1 (d j).cl w.heap.size bB bD (w.heap.size + 1 + 1) (w.heap.size + 1 + 1 + 1) (wc.alloc (.cells #[.func (.func 54) #[] #[.pointer (some ⟨bD, 0, none⟩), .pointer (some ⟨w.heap.size, 0, none⟩), .pointer (some ⟨bB, 0, none⟩), .pointer (some ⟨w.heap.size + 1 + 1, 0, none⟩), .pointer (some ⟨w.heap.size + 1 + 1 + 1, 0, none⟩)]] 49)) := ⟨bwA hF0.old (by have := hF0.old.size; omega) _, hF0.law.alloc _, hF0.ice.alloc _, hF0.day.imp fun _ h => h.alloc _, hF0.days.alloc _, hF0.at_.alloc _⟩
    have jF := Blk.new wc #[.func (.func 54) #[] #[.pointer (some ⟨bD, 0, none⟩), .pointer (some ⟨w.heap.size, 0, none⟩), .pointer (some ⟨bB, 0, none⟩), .pointer (some ⟨w.heap.size + 1 + 1, 0, none⟩), .pointer (some ⟨w.heap.size + 1 + 1 + 1, 0, none⟩)]] 49
    rw [hbF] at jF
    have HD1 := Lib.hid (show ∀ (water : Int), 0 ≤ water → water ≤ 200 → ∀ W, FlAt w l va vcap (some ⟨b, o, none⟩) n dcap j (iceAt l d x j) (d j).c0 (d j).c1 (d j).f0 (d j).f1 (d j).cl w.heap.size bB bD (w.heap.size + 1 + 1) (w.heap.size + 1 + 1 + 1) W ∧ Blk W bF #[.func (.func 54) #[] #[.pointer (some ⟨bD, 0, none⟩), .pointer (some ⟨w.heap.size, 0, none⟩), .pointer (some ⟨bB, 0, none⟩), .pointer (some ⟨w.heap.size + 1 + 1, 0, none⟩), .pointer (some ⟨w.heap.size + 1 + 1 + 1, 0, none⟩)]] 49 → Calls Tryz.prog 54 #[.int .i64 water, .pointer (some ⟨bD, 0, none⟩), .pointer (some ⟨w.heap.size, 0, none⟩), .pointer (some ⟨bB, 0, none⟩), .pointer (some ⟨w.heap.size + 1 + 1, 0, none⟩), .pointer (some ⟨w.heap.size + 1 + 1 + 1, 0, none⟩)] W fun e w' => e = .returned (.bool ((iceAt l (wet d j water) x n).q1 == 0)) ∧ FlAt w l va vcap (some ⟨b, o, none⟩) n dcap j (iceAt l d x j) (d j).c0 (d j).c1 (d j).f0 (d j).f1 (d j).cl w.heap.size bB bD (w.heap.size + 1 + 1) (w.heap.size + 1 + 1 + 1) w' ∧ Blk w' bF #[.func (.func 54) #[] #[.pointer (some ⟨bD, 0, none⟩), .pointer (some ⟨w.heap.size, 0, none⟩), .pointer (some ⟨bB, 0, none⟩), .pointer (some ⟨w.heap.size + 1 + 1, 0, none⟩), .pointer (some ⟨w.heap.size + 1 + 1 + 1, 0, none⟩)]] 49 from fun water g0 g1 W hW =>
      (HDr.out w.heap.size bB bD (w.heap.size + 1 + 1) (w.heap.size + 1 + 1 + 1) (by omega) (by omega) hne (by omega) (by omega) water g0 g1 W hW.1).mono fun e w' ⟨he, h1, h2⟩ => ⟨he, h1, h2 _ _ _ zF hW.2⟩)
    have HBe := Lib.hid (show ∀ W, FlAt w l va vcap (some ⟨b, o, none⟩) n dcap j (iceAt l d x j) (d j).c0 (d j).c1 (d j).f0 (d j).f1 (d j).cl w.heap.size bB bD (w.heap.size + 1 + 1) (w.heap.size + 1 + 1 + 1) W ∧ Blk W bF #[.func (.func 54) #[] #[.pointer (some ⟨bD, 0, none⟩), .pointer (some ⟨w.heap.size, 0, none⟩), .pointer (some ⟨bB, 0, none⟩), .pointer (some ⟨w.heap.size + 1 + 1, 0, none⟩), .pointer (some ⟨w.heap.size + 1 + 1 + 1, 0, none⟩)]] 49 → Below w.heap.size w W ∧ Blk W bF #[.func (.func 54) #[] #[.pointer (some ⟨bD, 0, none⟩), .pointer (some ⟨w.heap.size, 0, none⟩), .pointer (some ⟨bB, 0, none⟩), .pointer (some ⟨w.heap.size + 1 + 1, 0, none⟩), .pointer (some ⟨w.heap.size + 1 + 1 + 1, 0, none⟩)]] 49 from fun W h => ⟨h.1.old, h.2⟩)
    have hI : FlAt w l va vcap (some ⟨b, o, none⟩) n dcap j (iceAt l d x j) (d j).c0 (d j).c1 (d j).f0 (d j).f1 (d j).cl w.heap.size bB bD (w.heap.size + 1 + 1) (w.heap.size + 1 + 1 + 1) _ ∧ Blk _ bF #[.func (.func 54) #[] #[.pointer (some ⟨bD, 0, none⟩), .pointer (some ⟨w.heap.size, 0, none⟩), .pointer (some ⟨bB, 0, none⟩), .pointer (some ⟨w.heap.size + 1 + 1, 0, none⟩), .pointer (some ⟨w.heap.size + 1 + 1 + 1, 0, none⟩)]] 49 := ⟨hF1, jF⟩
    clear hF0 hF1 jF jB2 jD hb jL jX jV jA jB hcj HDr HL S1 hz zbD
    obtain ⟨I, hIe⟩ : ∃ I : World → Prop, I = (fun W => FlAt w l va vcap (some ⟨b, o, none⟩) n dcap j (iceAt l d x j) (d j).c0 (d j).c1 (d j).f0 (d j).f1 (d j).cl w.heap.size bB bD (w.heap.size + 1 + 1) (w.heap.size + 1 + 1 + 1) W ∧ Blk W bF #[.func (.func 54) #[] #[.pointer (some ⟨bD, 0, none⟩), .pointer (some ⟨w.heap.size, 0, none⟩), .pointer (some ⟨bB, 0, none⟩), .pointer (some ⟨w.heap.size + 1 + 1, 0, none⟩), .pointer (some ⟨w.heap.size + 1 + 1 + 1, 0, none⟩)]] 49) := ⟨_, rfl⟩
    have hI2 : I (wc.alloc (.cells #[.func (.func 54) #[] #[.pointer (some ⟨bD, 0, none⟩), .pointer (some ⟨w.heap.size, 0, none⟩), .pointer (some ⟨bB, 0, none⟩), .pointer (some ⟨w.heap.size + 1 + 1, 0, none⟩), .pointer (some ⟨w.heap.size + 1 + 1 + 1, 0, none⟩)]] 49)) := by rw [hIe]; exact hI
    have HD2 := Lib.hid (show ∀ (water : Int), 0 ≤ water → water ≤ 200 → ∀ W, I W → Calls Tryz.prog 54 #[.int .i64 water, .pointer (some ⟨bD, 0, none⟩), .pointer (some ⟨w.heap.size, 0, none⟩), .pointer (some ⟨bB, 0, none⟩), .pointer (some ⟨w.heap.size + 1 + 1, 0, none⟩), .pointer (some ⟨w.heap.size + 1 + 1 + 1, 0, none⟩)] W fun e w' => e = .returned (.bool ((iceAt l (wet d j water) x n).q1 == 0)) ∧ I w' by rw [hIe]; exact HD1.out)
    have HB2 := Lib.hid (show ∀ W, I W → Below w.heap.size w W ∧ Blk W bF #[.func (.func 54) #[] #[.pointer (some ⟨bD, 0, none⟩), .pointer (some ⟨w.heap.size, 0, none⟩), .pointer (some ⟨bB, 0, none⟩), .pointer (some ⟨w.heap.size + 1 + 1, 0, none⟩), .pointer (some ⟨w.heap.size + 1 + 1 + 1, 0, none⟩)]] 49 by rw [hIe]; exact HBe.out)
    clear hI hIe HD1 HBe
    (try simp only [hbF])
    generalize wc.alloc (.cells #[.func (.func 54) #[] #[.pointer (some ⟨bD, 0, none⟩), .pointer (some ⟨w.heap.size, 0, none⟩), .pointer (some ⟨bB, 0, none⟩), .pointer (some ⟨w.heap.size + 1 + 1, 0, none⟩), .pointer (some ⟨w.heap.size + 1 + 1 + 1, 0, none⟩)]] 49) = w5 at hI2 ⊢
    clear hbF
    go_wp2_with fail
    refine (search_in most (by omega) (.pointer (some ⟨bF, 0, none⟩)) (fun i => !((iceAt l (wet d j ((i : Int) + 1)) x n).q1 == 0)) I (fun i hi W hW => notdries_in (i : Int) _ bF I _ W (by omega) (by omega) (HB2.out W hW).2 (HD2.out ((i : Int) + 1) (by omega) (by omega) W hW)) w5 hI2).mono ?_
    rintro e w6 ⟨k, rfl, hkm, h1, h2, hI6⟩
    have h1' := Lib.hid h1
    have h2' := Lib.hid h2
    clear h1 h2
    have hB6 := HB2.out _ hI6
    by_cases hk0 : k = 0
    · subst hk0
      have f0 := hB6.2.cell1
      go_wp2_with fail
      refine (HD2.out 0 (by decide) (by decide) _ hI6).mono ?_
      rintro e w7 ⟨rfl, hI7⟩
      have hB7 := (HB2.out _ hI7).1
      cases hdry : ((iceAt l (wet d j 0) x n).q1 == 0) with
      | true =>
        have HY := Lib.hid hdry
        clear hdry
        have HR := Lib.hid (show ((iceAt l (wet d j (((0 : Nat) : Int))) x n).q1 == 0) = true ∧ (0 < most → ((iceAt l (wet d j (((0 : Nat) : Int) + 1)) x n).q1 == 0) = false) from ⟨HY.out, fun h => by simpa using h1'.out h⟩)
        go_wp2
        exact bodyPost_ret (v := .tuple #[.int .i64 0, .int .i64 0]) (by simp [results, Tryz.results25, go_sem]) rfl ⟨0, rfl, .inr ⟨0, rfl, Nat.zero_le _, HR.out.1, HR.out.2⟩, hB7⟩
      | false =>
        have HY := Lib.hid hdry
        clear hdry
        have HR := Lib.hid (show 0 < most → ((iceAt l (wet d j 1) x n).q1 == 0) = false from fun h => by simpa using h1'.out h)
        go_wp2
        exact bodyPost_ret (v := .tuple #[.int .i64 (-1), .int .i64 0]) (by simp [results, Tryz.results25, go_sem]) rfl ⟨-1, rfl, .inl ⟨rfl, HY.out, HR.out⟩, hB7⟩
    · obtain ⟨q, rfl⟩ : ∃ q, k = q + 1 := ⟨k - 1, by omega⟩
      have HR := Lib.hid (show ((iceAt l (wet d j (((q + 1 : Nat) : Int))) x n).q1 == 0) = true ∧ (q + 1 < most → ((iceAt l (wet d j (((q + 1 : Nat) : Int) + 1)) x n).q1 == 0) = false) from ⟨by have := h2'.out q rfl; simpa using this, fun h => by simpa using h1'.out h⟩)
      have hq : (0 : Int) < ((q + 1 : Nat) : Int) := by omega
      obtain ⟨kk, hkk⟩ : ∃ z : Int, ((q + 1 : Nat) : Int) = z := ⟨_, rfl⟩
      rw [hkk] at hq ⊢
      have HK2 := Lib.hid hkk
      have hdec : decide (0 < kk) = true := by simp; omega
      clear hkk hk0
      go_wp2_with fail
      exact bodyPost_ret (v := .tuple #[.int .i64 kk, .int .i64 0]) (by simp [results, Tryz.results25, go_sem]) rfl ⟨kk, rfl, .inr ⟨q + 1, HK2.out.symm, hkm, HR.out.1, HR.out.2⟩, hB6.1⟩
end Go.Proofs.YtdbiijldincoiaaGreat

namespace Go.Proofs.YtdbiijldincoiaaGreat
open Go.RowKit

def eFlo (l : Lw) (x : Ic) (n : Nat) (d : Nat → Dy) (at_ most : Int) : Int := orE (eRun l x n d) (orE (eN at_ 1 n) (eN most 0 200))
def floV (l : Lw) (x : Ic) (n : Nat) (d : Nat → Dy) (at_ most : Int) : Int := if eFlo l x n d at_ most = 0 then gstV (dryF l d x (at_ - 1).toNat n) most.toNat else 0
theorem dry_anti {l : Lw} {d : Nat → Dy} {x : Ic} {j n m : Nat} (hl : l.Ok) (hx : x.Val) (hd : ∀ i, i < n → (d i).Ok) (hn : n ≤ 400) (hj : j < n) (hm : m ≤ 200) (a b : Nat) (ha : 1 ≤ a) (hab : a ≤ b) (hb : b ≤ m) (h : dryF l d x j n b = true) : dryF l d x j n a = true := by
  have q := more_wet l d x hj (a := (a : Int)) (b := (b : Int)) (by omega) (by omega)
  have z := (iceAt_bd (j := 0) hl hx.bd n (wet_ok (k := j) (water := (a : Int)) hd (by omega) (by omega)) n (Nat.le_refl _) (by omega)).q1.1
  unfold dryF at h ⊢
  simp only [beq_iff_eq] at h ⊢
  omega

set_option maxRecDepth 100000 in
set_option maxHeartbeats 8000000 in
theorem flood_err (l : Lw) (va : Option Addr) (cap : Nat) (x : Ic) (da : Option Addr) (n dcap : Nat) (at_ most E1 E2 E3 : Int) (w : World) (hE : orE E1 (orE E2 E3) ≠ 0)
    (hA : ∀ W, Below w.heap.size w W → Calls Tryz.prog 36 #[.agg #[.int .i64 l.gr, .int .i64 l.la, (.slice va l.n cap), .int .i64 l.m0, .int .i64 l.m1, .int .i64 l.so, .int .i64 l.h0, .int .i64 l.h1], .agg #[.int .i64 x.b0, .int .i64 x.b1, .int .i64 x.w0, .int .i64 x.w1, .int .i64 x.q0, .int .i64 x.q1, .int .i64 x.s0, .int .i64 x.s1], .slice da n dcap] W fun e w' => e = .returned (.int .i64 E1) ∧ Below W.heap.size W w')
    (h1 : ∀ W, Calls Tryz.prog 48 #[.int .i64 at_, .int .i64 1, .int .i64 (n : Int)] W fun e w' => e = .returned (.int .i64 E2) ∧ W = w')
    (h2 : ∀ W, Calls Tryz.prog 48 #[.int .i64 most, .int .i64 0, .int .i64 200] W fun e w' => e = .returned (.int .i64 E3) ∧ W = w') :
    Calls Tryz.prog 25 #[.agg #[.int .i64 l.gr, .int .i64 l.la, (.slice va l.n cap), .int .i64 l.m0, .int .i64 l.m1, .int .i64 l.so, .int .i64 l.h0, .int .i64 l.h1], .agg #[.int .i64 x.b0, .int .i64 x.b1, .int .i64 x.w0, .int .i64 x.w1, .int .i64 x.q0, .int .i64 x.q1, .int .i64 x.s0, .int .i64 x.s1], .slice da n dcap, .int .i64 at_, .int .i64 most] w fun e w' => e = .returned (.tuple #[.int .i64 0, .int .i64 (orE E1 (orE E2 E3))]) ∧ Below w.heap.size w w' := by
  have HA := Lib.hid hA
  have H1 := Lib.hid h1
  have H2 := Lib.hid h2
  clear hA h1 h2
  have jV := (Blk.new2 w (.cells #[.int .i64 l.gr, .int .i64 l.la, (.slice va l.n cap), .int .i64 l.m0, .int .i64 l.m1, .int .i64 l.so, .int .i64 l.h0, .int .i64 l.h1] 26) (.cells #[.int .i64 x.b0, .int .i64 x.b1, .int .i64 x.w0, .int .i64 x.w1, .int .i64 x.q0, .int .i64 x.q1, .int .i64 x.s0, .int .i64 x.s1] 28) #[.slice da n dcap] 29).alloc (.cells #[.int .i64 at_] 3)
  have jA := Blk.new3 w (.cells #[.int .i64 l.gr, .int .i64 l.la, (.slice va l.n cap), .int .i64 l.m0, .int .i64 l.m1, .int .i64 l.so, .int .i64 l.h0, .int .i64 l.h1] 26) (.cells #[.int .i64 x.b0, .int .i64 x.b1, .int .i64 x.w0, .int .i64 x.w1, .int .i64 x.q0, .int .i64 x.q1, .int .i64 x.s0, .int .i64 x.s1] 28) (.cells #[.slice da n dcap] 29) #[.int .i64 at_] 3
  have jB : Below w.heap.size w ((((w.alloc (.cells #[.int .i64 l.gr, .int .i64 l.la, (.slice va l.n cap), .int .i64 l.m0, .int .i64 l.m1, .int .i64 l.so, .int .i64 l.h0, .int .i64 l.h1] 26)).alloc (.cells #[.int .i64 x.b0, .int .i64 x.b1, .int .i64 x.w0, .int .i64 x.w1, .int .i64 x.q0, .int .i64 x.q1, .int .i64 x.s0, .int .i64 x.s1] 28)).alloc (.cells #[.slice da n dcap] 29)).alloc (.cells #[.int .i64 at_] 3)) := by (repeat (first | exact Below.refl _ _ | assumption | refine Below.drew ?_ | refine Below.drewN ?_ _ | refine blT ?_ | refine blU ?_))
  by_cases g : E1 = 0
  · subst g
    rw [show orE 0 (orE E2 E3) = orE E2 E3 from rfl] at hE ⊢
    obtain ⟨E, hEE⟩ : ∃ E, orE E2 E3 = E := ⟨_, rfl⟩
    rw [hEE] at hE ⊢
    have HE := Lib.hid hEE
    have hE2 : (E != 0) = true := by simpa using hE
    clear hE hEE
    go_enter Tryz.func25, Tryz.ntmps25
    go_wp2_with fail
    refine (HA.out _ jB).mono ?_
    rintro e w1 ⟨rfl, hb⟩
    replace jV := jV.call hb
    replace jA := jA.call hb
    replace jB := bwS jB (Nat.le_refl _) hb
    clear hb HA
    have v0 := jV.cell1
    have a0 := jA.cell1
    have zV := jV.lt
    have zA := jA.lt
    go_wp2_with fail
    refine (H1.out _).mono ?_
    rintro e w2 ⟨rfl, rfl⟩
    go_wp2_with fail
    refine (H2.out _).mono ?_
    rintro e w2 ⟨rfl, rfl⟩
    go_wp2_with fail
    refine (first_two _ _ E2 E3 _ ?_ ?_).mono ?_
    · simp
    · simp
    rintro e w3 ⟨rfl, hw3⟩
    have bW3 : Below w1.heap.size w1 w3 := by rw [← hw3]; (repeat (first | exact Below.refl _ _ | assumption | refine Below.drew ?_ | refine Below.drewN ?_ _ | refine blT ?_ | refine blU ?_))
    rw [HE.out]
    clear hw3 v0 a0 zV zA H1 H2 jV jA
    replace jB := bwS jB (Nat.le_refl _) bW3
    clear bW3
    go_wp2
    exact bodyPost_ret (v := .tuple #[.int .i64 0, .int .i64 E]) (by simp [results, Tryz.results25, go_sem]) rfl ⟨rfl, jB⟩
  · rw [show orE E1 (orE E2 E3) = E1 from if_neg g]
    have g1 : (E1 == 0) = false := by simpa using g
    have g2 : (E1 != 0) = true := by simpa using g
    clear g hE
    go_enter Tryz.func25, Tryz.ntmps25
    go_wp2_with fail
    refine (HA.out _ jB).mono ?_
    rintro e w1 ⟨rfl, hb⟩
    replace jB := bwS jB (Nat.le_refl _) hb
    clear hb HA jV jA
    go_wp2
    exact bodyPost_ret (v := .tuple #[.int .i64 0, .int .i64 E1]) (by simp [results, Tryz.results25, go_sem]) rfl ⟨rfl, jB⟩

set_option maxRecDepth 100000 in
set_option maxHeartbeats 8000000 in
theorem rflood_err (l : Lw) (va : Option Addr) (cap : Nat) (x : Ic) (da : Option Addr) (n dcap : Nat) (at_ most E1 : Int) (w : World) (hE : orE E1 (orE (eN at_ 1 n) (eN most 0 200)) ≠ 0)
    (hA : ∀ W, Below w.heap.size w W → Calls Tryz.prog 38 #[.agg #[.int .i64 l.gr, .int .i64 l.la, (.slice va l.n cap), .int .i64 l.m0, .int .i64 l.m1, .int .i64 l.so, .int .i64 l.h0, .int .i64 l.h1], .agg #[.int .i64 x.b0, .int .i64 x.b1, .int .i64 x.w0, .int .i64 x.w1, .int .i64 x.q0, .int .i64 x.q1, .int .i64 x.s0, .int .i64 x.s1], .slice da n dcap] W fun e w' => e = .returned (.int .i64 E1) ∧ Below W.heap.size W w') :
    Calls Tryz.prog 26 #[.agg #[.int .i64 l.gr, .int .i64 l.la, (.slice va l.n cap), .int .i64 l.m0, .int .i64 l.m1, .int .i64 l.so, .int .i64 l.h0, .int .i64 l.h1], .agg #[.int .i64 x.b0, .int .i64 x.b1, .int .i64 x.w0, .int .i64 x.w1, .int .i64 x.q0, .int .i64 x.q1, .int .i64 x.s0, .int .i64 x.s1], .slice da n dcap, .int .i64 at_, .int .i64 most] w fun e w' => e = .returned (.tuple #[.int .i64 0, .int .i64 (orE E1 (orE (eN at_ 1 n) (eN most 0 200)))]) ∧ Below w.heap.size w w' := by
  have HA := Lib.hid hA
  clear hA
  have jL := (Blk.new w #[.int .i64 l.gr, .int .i64 l.la, (.slice va l.n cap), .int .i64 l.m0, .int .i64 l.m1, .int .i64 l.so, .int .i64 l.h0, .int .i64 l.h1] 26).alloc (.cells #[.int .i64 x.b0, .int .i64 x.b1, .int .i64 x.w0, .int .i64 x.w1, .int .i64 x.q0, .int .i64 x.q1, .int .i64 x.s0, .int .i64 x.s1] 28)
  have jX := Blk.new1 w (.cells #[.int .i64 l.gr, .int .i64 l.la, (.slice va l.n cap), .int .i64 l.m0, .int .i64 l.m1, .int .i64 l.so, .int .i64 l.h0, .int .i64 l.h1] 26) #[.int .i64 x.b0, .int .i64 x.b1, .int .i64 x.w0, .int .i64 x.w1, .int .i64 x.q0, .int .i64 x.q1, .int .i64 x.s0, .int .i64 x.s1] 28
  have jB : Below w.heap.size w ((w.alloc (.cells #[.int .i64 l.gr, .int .i64 l.la, (.slice va l.n cap), .int .i64 l.m0, .int .i64 l.m1, .int .i64 l.so, .int .i64 l.h0, .int .i64 l.h1] 26)).alloc (.cells #[.int .i64 x.b0, .int .i64 x.b1, .int .i64 x.w0, .int .i64 x.w1, .int .i64 x.q0, .int .i64 x.q1, .int .i64 x.s0, .int .i64 x.s1] 28)) := by (repeat (first | exact Below.refl _ _ | assumption | refine Below.drew ?_ | refine Below.drewN ?_ _ | refine blT ?_ | refine blU ?_))
  obtain ⟨l0, l1, l2, l3, l4, l5, l6, l7⟩ := jL.c8
  obtain ⟨x0, x1, x2, x3, x4, x5, x6, x7⟩ := jX.c8
  have yL := jL.lt
  have yX := jX.lt
  by_cases g : E1 = 0
  · subst g
    rw [show orE 0 (orE (eN at_ 1 n) (eN most 0 200)) = orE (eN at_ 1 n) (eN most 0 200) from rfl, outB_eN, outB_eN] at *
    obtain ⟨b1, hb1⟩ : ∃ b, outB at_ 1 (n : Int) = b := ⟨_, rfl⟩
    obtain ⟨b2, hb2⟩ : ∃ b, outB most 0 200 = b := ⟨_, rfl⟩
    rw [hb1, hb2] at hE ⊢
    have HB1 := Lib.hid hb1
    have HB2 := Lib.hid hb2
    clear hb1 hb2
    have h2 : orE (if b1 = true then 2 else 0) (if b2 = true then 2 else 0) = 2 := by
      cases b1 <;> cases b2 <;> first | rfl | exact absurd rfl hE
    have hbb : b1 = false → b2 = true := fun h => by
      subst h
      cases b2 with
      | true => rfl
      | false => exact absurd rfl hE
    rw [h2]
    clear h2 hE
    go_enter Tryz.func26, Tryz.ntmps26
    go_wp2_with fail
    clear l0 l1 l2 l3 l4 l5 l6 l7 x0 x1 x2 x3 x4 x5 x6 x7 yL yX
    refine (HA.out _ jB).mono ?_
    rintro e w1 ⟨rfl, hb⟩
    replace jB := bwS jB (Nat.le_refl _) hb
    clear hb HA jL jX
    go_wp2_with fail
    refine (rout_any _ _ _ _).mono ?_
    rintro e w2 ⟨he, rfl⟩
    rw [HB1.out] at he
    subst he
    cases b1 with
    | true =>
      clear hbb HB1 HB2
      go_wp2
      exact bodyPost_ret (v := .tuple #[.int .i64 0, .int .i64 2]) (by simp [results, Tryz.results26, go_sem]) rfl ⟨rfl, jB⟩
    | false =>
      obtain rfl := hbb rfl
      clear hbb HB1
      go_wp2_with fail
      refine (rout_any _ _ _ _).mono ?_
      rintro e w2 ⟨he, rfl⟩
      rw [HB2.out] at he
      subst he
      clear HB2
      go_wp2
      exact bodyPost_ret (v := .tuple #[.int .i64 0, .int .i64 2]) (by simp [results, Tryz.results26, go_sem]) rfl ⟨rfl, jB⟩
  · rw [show orE E1 (orE (eN at_ 1 n) (eN most 0 200)) = E1 from if_neg g]
    have g1 : (E1 == 0) = false := by simpa using g
    have g2 : (E1 != 0) = true := by simpa using g
    clear g hE
    go_enter Tryz.func26, Tryz.ntmps26
    go_wp2_with fail
    clear l0 l1 l2 l3 l4 l5 l6 l7 x0 x1 x2 x3 x4 x5 x6 x7 yL yX
    refine (HA.out _ jB).mono ?_
    rintro e w1 ⟨rfl, hb⟩
    replace jB := bwS jB (Nat.le_refl _) hb
    clear hb HA jL jX
    go_wp2
    exact bodyPost_ret (v := .tuple #[.int .i64 0, .int .i64 E1]) (by simp [results, Tryz.results26, go_sem]) rfl ⟨rfl, jB⟩

theorem fFlood_any (l : Lw) (v : Value) (x : Ic) (vd : Value) (n : Nat) (d : Nat → Dy) (at_ most : Int) (w : World) (hv : CovAt w v l.n l.D l.P0 l.P1) (hd : DaysAt w vd n d) :
    Calls Tryz.prog 25 #[.agg #[.int .i64 l.gr, .int .i64 l.la, v, .int .i64 l.m0, .int .i64 l.m1, .int .i64 l.so, .int .i64 l.h0, .int .i64 l.h1], .agg #[.int .i64 x.b0, .int .i64 x.b1, .int .i64 x.w0, .int .i64 x.w1, .int .i64 x.q0, .int .i64 x.q1, .int .i64 x.s0, .int .i64 x.s1], vd, .int .i64 at_, .int .i64 most] w fun e w' => e = .returned (.tuple #[.int .i64 (floV l x n d at_ most), .int .i64 (eFlo l x n d at_ most)]) ∧ Below w.heap.size w w' := by
  unfold floV
  by_cases hE : eFlo l x n d at_ most = 0
  · rw [if_pos hE, hE]
    obtain ⟨h1, h2⟩ := orE_zeros hE
    obtain ⟨h3, h4⟩ := orE_zeros h2
    obtain ⟨n1, n2⟩ := eN_zero_in h3
    obtain ⟨n3, n4⟩ := eN_zero_in h4
    obtain ⟨g1, g2, g3, g4, g5⟩ := eRun_ok h1
    obtain ⟨a1, a2⟩ := orE_zeros (show orE _ _ = 0 from h1)
    obtain ⟨j, hj⟩ := Int.eq_ofNat_of_zero_le (show 0 ≤ at_ - 1 by omega)
    obtain ⟨m, rfl⟩ := Int.eq_ofNat_of_zero_le n3
    obtain rfl : at_ = (j : Int) + 1 := by omega
    rw [show ((j : Int) + 1 - 1).toNat = j by omega, show ((m : Int)).toNat = m by omega]
    refine (flood_val l v x vd n d j m w g1 a1 hv g3 hd g4 g5 (by omega) (by omega)).mono ?_
    rintro e w' ⟨k, he, hk, hb⟩
    rw [gst_of (k := k) (fun a b p q r => dry_anti g1 g3 g5 g4 (by omega) (m := m) (by omega) a b p q r) hk]
    exact ⟨he, hb⟩
  · rw [if_neg hE]
    have hA := fun (W : World) (hW : Below w.heap.size w W) => all_any l.gr l.la v l.n l.D l.P0 l.P1 l.m0 l.m1 l.so l.h0 l.h1 x.b0 x.b1 x.w0 x.w1 x.q0 x.q1 x.s0 x.s1 vd n d W (hv.later hW) (hd.later hW)
    obtain ⟨va, cap, rfl, _, _, _⟩ := id hv
    obtain ⟨da, dcap, rfl, _, _, _⟩ := id hd
    exact flood_err l va cap x da n dcap at_ most (eRun l x n d) _ _ w hE hA (fun W => number_any _ 1 n W) (fun W => number_any _ 0 200 W)
theorem rFlood_any (l : Lw) (v : Value) (x : Ic) (vd : Value) (n : Nat) (d : Nat → Dy) (at_ most : Int) (w : World) (hv : CovAt w v l.n l.D l.P0 l.P1) (hd : DaysAt w vd n d) :
    Calls Tryz.prog 26 #[.agg #[.int .i64 l.gr, .int .i64 l.la, v, .int .i64 l.m0, .int .i64 l.m1, .int .i64 l.so, .int .i64 l.h0, .int .i64 l.h1], .agg #[.int .i64 x.b0, .int .i64 x.b1, .int .i64 x.w0, .int .i64 x.w1, .int .i64 x.q0, .int .i64 x.q1, .int .i64 x.s0, .int .i64 x.s1], vd, .int .i64 at_, .int .i64 most] w fun e w' => e = .returned (.tuple #[.int .i64 (floV l x n d at_ most), .int .i64 (eFlo l x n d at_ most)]) ∧ Below w.heap.size w w' := by
  unfold floV
  by_cases hE : eFlo l x n d at_ most = 0
  · rw [if_pos hE, hE]
    obtain ⟨h1, h2⟩ := orE_zeros hE
    obtain ⟨h3, h4⟩ := orE_zeros h2
    obtain ⟨n1, n2⟩ := eN_zero_in h3
    obtain ⟨n3, n4⟩ := eN_zero_in h4
    obtain ⟨j, hj⟩ := Int.eq_ofNat_of_zero_le (show 0 ≤ at_ - 1 by omega)
    obtain ⟨m, rfl⟩ := Int.eq_ofNat_of_zero_le n3
    obtain rfl : at_ = (j : Int) + 1 := by omega
    rw [show ((j : Int) + 1 - 1).toNat = j by omega, show ((m : Int)).toNat = m by omega]
    exact rflood_ok l v x vd n d j m w h1 hv hd (by omega) (by omega)
  · rw [if_neg hE]
    have hA := fun (W : World) (hW : Below w.heap.size w W) => rall_any l.gr l.la v l.n l.D l.P0 l.P1 l.m0 l.m1 l.so l.h0 l.h1 x vd n d W (hv.later hW) (hd.later hW)
    obtain ⟨va, cap, rfl, _, _, _⟩ := id hv
    obtain ⟨da, dcap, rfl, _, _, _⟩ := id hd
    exact rflood_err l va cap x da n dcap at_ most (eRun l x n d) w hE hA
end Go.Proofs.YtdbiijldincoiaaGreat

namespace Go.Proofs.YtdbiijldincoiaaGreat
open Go.RowKit

theorem share4_N {R : Prop} (H : Nat → World → Prop) {G : Nat → World → Prop} (main : (∀ (b0 : Nat) (W : World), H b0 W → G b0 W) → R) (sub : ∀ (b0 : Nat) (W : World), H b0 W → G b0 W) : R := main sub
theorem share4_NN {R : Prop} (H : Nat → Nat → World → Prop) {G : Nat → Nat → World → Prop} (main : (∀ (b0 b1 : Nat) (W : World), H b0 b1 W → G b0 b1 W) → R) (sub : ∀ (b0 b1 : Nat) (W : World), H b0 b1 W → G b0 b1 W) : R := main sub
theorem share4_NNN {R : Prop} (H : Nat → Nat → Nat → World → Prop) {G : Nat → Nat → Nat → World → Prop} (main : (∀ (b0 b1 b2 : Nat) (W : World), H b0 b1 b2 W → G b0 b1 b2 W) → R) (sub : ∀ (b0 b1 b2 : Nat) (W : World), H b0 b1 b2 W → G b0 b1 b2 W) : R := main sub
theorem share4_V {R : Prop} {α : Type} (H : α → World → Prop) {G : α → World → Prop} (main : (∀ (v0 : α) (W : World), H v0 W → G v0 W) → R) (sub : ∀ (v0 : α) (W : World), H v0 W → G v0 W) : R := main sub
theorem share4_VN {R : Prop} {α : Type} (H : α → Nat → World → Prop) {G : α → Nat → World → Prop} (main : (∀ (v0 : α) (b0 : Nat) (W : World), H v0 b0 W → G v0 b0 W) → R) (sub : ∀ (v0 : α) (b0 : Nat) (W : World), H v0 b0 W → G v0 b0 W) : R := main sub
theorem share4_VNN {R : Prop} {α : Type} (H : α → Nat → Nat → World → Prop) {G : α → Nat → Nat → World → Prop} (main : (∀ (v0 : α) (b0 b1 : Nat) (W : World), H v0 b0 b1 W → G v0 b0 b1 W) → R) (sub : ∀ (v0 : α) (b0 b1 : Nat) (W : World), H v0 b0 b1 W → G v0 b0 b1 W) : R := main sub
theorem share4_VNNN {R : Prop} {α : Type} (H : α → Nat → Nat → Nat → World → Prop) {G : α → Nat → Nat → Nat → World → Prop} (main : (∀ (v0 : α) (b0 b1 b2 : Nat) (W : World), H v0 b0 b1 b2 W → G v0 b0 b1 b2 W) → R) (sub : ∀ (v0 : α) (b0 b1 b2 : Nat) (W : World), H v0 b0 b1 b2 W → G v0 b0 b1 b2 W) : R := main sub
theorem share4_VNNNN {R : Prop} {α : Type} (H : α → Nat → Nat → Nat → Nat → World → Prop) {G : α → Nat → Nat → Nat → Nat → World → Prop} (main : (∀ (v0 : α) (b0 b1 b2 b3 : Nat) (W : World), H v0 b0 b1 b2 b3 W → G v0 b0 b1 b2 b3 W) → R) (sub : ∀ (v0 : α) (b0 b1 b2 b3 : Nat) (W : World), H v0 b0 b1 b2 b3 W → G v0 b0 b1 b2 b3 W) : R := main sub
theorem share4_VV {R : Prop} {α β : Type} (H : α → β → World → Prop) {G : α → β → World → Prop} (main : (∀ (v0 : α) (v1 : β) (W : World), H v0 v1 W → G v0 v1 W) → R) (sub : ∀ (v0 : α) (v1 : β) (W : World), H v0 v1 W → G v0 v1 W) : R := main sub
theorem share4_VVN {R : Prop} {α β : Type} (H : α → β → Nat → World → Prop) {G : α → β → Nat → World → Prop} (main : (∀ (v0 : α) (v1 : β) (b0 : Nat) (W : World), H v0 v1 b0 W → G v0 v1 b0 W) → R) (sub : ∀ (v0 : α) (v1 : β) (b0 : Nat) (W : World), H v0 v1 b0 W → G v0 v1 b0 W) : R := main sub
theorem share4_VVNN {R : Prop} {α β : Type} (H : α → β → Nat → Nat → World → Prop) {G : α → β → Nat → Nat → World → Prop} (main : (∀ (v0 : α) (v1 : β) (b0 b1 : Nat) (W : World), H v0 v1 b0 b1 W → G v0 v1 b0 b1 W) → R) (sub : ∀ (v0 : α) (v1 : β) (b0 b1 : Nat) (W : World), H v0 v1 b0 b1 W → G v0 v1 b0 b1 W) : R := main sub
theorem share4_VVNNN {R : Prop} {α β : Type} (H : α → β → Nat → Nat → Nat → World → Prop) {G : α → β → Nat → Nat → Nat → World → Prop} (main : (∀ (v0 : α) (v1 : β) (b0 b1 b2 : Nat) (W : World), H v0 v1 b0 b1 b2 W → G v0 v1 b0 b1 b2 W) → R) (sub : ∀ (v0 : α) (v1 : β) (b0 b1 b2 : Nat) (W : World), H v0 v1 b0 b1 b2 W → G v0 v1 b0 b1 b2 W) : R := main sub
theorem share4_VVNNNN {R : Prop} {α β : Type} (H : α → β → Nat → Nat → Nat → Nat → World → Prop) {G : α → β → Nat → Nat → Nat → Nat → World → Prop} (main : (∀ (v0 : α) (v1 : β) (b0 b1 b2 b3 : Nat) (W : World), H v0 v1 b0 b1 b2 b3 W → G v0 v1 b0 b1 b2 b3 W) → R) (sub : ∀ (v0 : α) (v1 : β) (b0 b1 b2 b3 : Nat) (W : World), H v0 v1 b0 b1 b2 b3 W → G v0 v1 b0 b1 b2 b3 W) : R := main sub
theorem share4_VVNNNNN {R : Prop} {α β : Type} (H : α → β → Nat → Nat → Nat → Nat → Nat → World → Prop) {G : α → β → Nat → Nat → Nat → Nat → Nat → World → Prop} (main : (∀ (v0 : α) (v1 : β) (b0 b1 b2 b3 b4 : Nat) (W : World), H v0 v1 b0 b1 b2 b3 b4 W → G v0 v1 b0 b1 b2 b3 b4 W) → R) (sub : ∀ (v0 : α) (v1 : β) (b0 b1 b2 b3 b4 : Nat) (W : World), H v0 v1 b0 b1 b2 b3 b4 W → G v0 v1 b0 b1 b2 b3 b4 W) : R := main sub
end Go.Proofs.YtdbiijldincoiaaGreat
