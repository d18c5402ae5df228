/-
  BearOthers says yes.
-/
import Derived.Test.YtfakmggabicdjaaTail
import Derived.Test.YtfakmggabicdjaaBNarr
import Derived.Test.YtfakmggabicdjaaOthB
import Derived.Test.YtfakmggabicdjaaOthV
import Derived.OwnWalk
set_option linter.unusedVariables false
set_option linter.unusedSimpArgs false
namespace Go.Proofs.Ytfakmggabicdjaa
open Go.RowKit

theorem grown_put1 (w : World) (b j : Nat) (u : Value) : w.grownBy (w.setCell ⟨b, j, none⟩ u) (some b) :=
  ⟨rfl, rfl, rfl, by simp, fun i _ hne => Below.heap_setCell w _ u i (fun e => hne (by rw [e]))⟩
theorem grown_put4 (w : World) (b j0 j1 j2 j3 : Nat) (u0 u1 u2 u3 : Value) : w.grownBy ((((w.setCell ⟨b, j0, none⟩ u0).setCell ⟨b, j1, none⟩ u1).setCell ⟨b, j2, none⟩ u2).setCell ⟨b, j3, none⟩ u3) (some b) :=
  grownBy_trans (grownBy_trans (grownBy_trans (grown_put1 w b j0 u0) (grown_put1 _ b j1 u1)) (grown_put1 _ b j2 u2)) (grown_put1 _ b j3 u3)

set_option maxRecDepth 100000 in
set_option maxHeartbeats 16000000 in
theorem both_others (a : Option Addr) (len cap : Nat) (w : World) (hn : NumsAt w a len) :
    Calls Try.prog 12 #[.slice a len cap] w fun e w' => e = .returned (.bool true) ∧ Below w.heap.size w w' := by
  go_enter Try.func12, Try.ntmps12
  go_wp2_with fail
  refine (newseed_at a len cap _ hn).mono ?_
  rintro e w1 ⟨rfl, hS, jB⟩
  clear hn
  obtain ⟨bs, hbs⟩ : ∃ b, w.heap.size = b := ⟨_, rfl⟩
  have zwbs : w.heap.size ≤ bs := by omega
  rw [hbs] at hS ⊢
  have hb1 : bs < w1.heap.size := hS.choose_spec.lt
  have HBS := Lib.hid hbs
  clear hbs
  go_wp2_with fail
  refine (madeof_in bs w1 hS).mono ?_
  rintro e w2 ⟨p, vS, vC, vI, vK, vL, ni, I0, I1, nc, C0, C1, n, L, rfl, hM, hR, hd⟩
  replace jB := Drawn.below jB hd zwbs
  replace hS := hd.seed
  replace hR := hR.base (b2 := bs + 1) (by omega)
  clear hd
  obtain ⟨aS, cS, rfl, _, _, _⟩ := pairs_of_row hR.S
  obtain ⟨aC, cC, rfl, _, _, _⟩ := pairs_of_row hR.C
  obtain ⟨aI, cI, rfl, _, _, _⟩ := pairs_of_row hR.I
  obtain ⟨aK, cK, rfl, _, _, _⟩ := pairs_of_row hR.K
  obtain ⟨aL, cL, rfl, _, _, _⟩ := loads_of_row hR.L
  have jX := Blk.new w2 #[.int .i64 p.s0, .int .i64 p.s1, (.slice aS p.S.n cS), (.slice aC p.C.n cC), .int .i64 p.ne, .int .i64 p.ed, .int .i64 p.gr, .int .i64 p.lo, .int .i64 p.hi, .int .i64 p.sh, .int .i64 p.wi, (.slice aI ni cI), (.slice aK nc cK), (.slice aL n cL)] 71
  go_upto_region 3 with fail
  obtain ⟨bX, hbX⟩ : ∃ b, w2.heap.size = b := ⟨_, rfl⟩
  have zX : bs < bX := by rw [← hbX]; exact hS.choose_spec.lt
  rw [hbX] at jX
  (try rw [hbX])
  clear hbX
  replace hR := hR.alloc (.cells #[.int .i64 p.s0, .int .i64 p.s1, (.slice aS p.S.n cS), (.slice aC p.C.n cC), .int .i64 p.ne, .int .i64 p.ed, .int .i64 p.gr, .int .i64 p.lo, .int .i64 p.hi, .int .i64 p.sh, .int .i64 p.wi, (.slice aI ni cI), (.slice aK nc cK), (.slice aL n cL)] 71)
  replace hS : SeedAt bs _ := hS.imp fun _ h => h.alloc (.cells #[.int .i64 p.s0, .int .i64 p.s1, (.slice aS p.S.n cS), (.slice aC p.C.n cC), .int .i64 p.ne, .int .i64 p.ed, .int .i64 p.gr, .int .i64 p.lo, .int .i64 p.hi, .int .i64 p.sh, .int .i64 p.wi, (.slice aI ni cI), (.slice aK nc cK), (.slice aL n cL)] 71)
  replace jB := bwA jB (Nat.le_refl _) (.cells #[.int .i64 p.s0, .int .i64 p.s1, (.slice aS p.S.n cS), (.slice aC p.C.n cC), .int .i64 p.ne, .int .i64 p.ed, .int .i64 p.gr, .int .i64 p.lo, .int .i64 p.hi, .int .i64 p.sh, .int .i64 p.wi, (.slice aI ni cI), (.slice aK nc cK), (.slice aL n cL)] 71)
  generalize w2.alloc (.cells #[.int .i64 p.s0, .int .i64 p.s1, (.slice aS p.S.n cS), (.slice aC p.C.n cC), .int .i64 p.ne, .int .i64 p.ed, .int .i64 p.gr, .int .i64 p.lo, .int .i64 p.hi, .int .i64 p.sh, .int .i64 p.wi, (.slice aI ni cI), (.slice aK nc cK), (.slice aL n cL)] 71) = V at jX hR hS jB ⊢
  obtain ⟨m0, m1, m2, m3, m4, m5, m6, m7, m8, m9, m10, m11, m12, m13⟩ := jX.c14
  have zM := jX.lt
  have HM := Lib.hid hM
  clear hM
  have jE : (V.alloc (.cells #[] 53)).ownsRow V.heap.size 53 4 (.slice (some ⟨V.heap.size, 0, none⟩) 0 0) 0 [] :=
    ⟨rfl, .inr ⟨V.heap.size, 0, #[], rfl, Nat.le_refl _, World.alloc_heap_new V _, Nat.le_refl _, Nat.zero_le _, rfl, rfl⟩⟩
  have hLd := (loads_of_row hR.L).later (show Below V.heap.size V (V.alloc (.cells #[] 53)) by (repeat (first | exact Below.refl _ _ | assumption | refine Below.drew ?_ | refine Below.drewN ?_ _ | refine blT ?_ | refine blU ?_)))
  have hn5 := HM.out.n5
  have qS : ∀ q, (Value.slice aS p.S.n cS).ownBlock = some q → q < V.heap.size := fun q e => (hR.S.lt q e).2
  have qC : ∀ q, (Value.slice aC p.C.n cC).ownBlock = some q → q < V.heap.size := fun q e => (hR.C.lt q e).2
  have qI : ∀ q, (Value.slice aI ni cI).ownBlock = some q → q < V.heap.size := fun q e => (hR.I.lt q e).2
  have qK : ∀ q, (Value.slice aK nc cK).ownBlock = some q → q < V.heap.size := fun q e => (hR.K.lt q e).2
  have qL : ∀ q, (Value.slice aL n cL).ownBlock = some q → q < V.heap.size := fun q e => (hR.L.lt q e).2
  have zS : bs < V.heap.size := hS.choose_spec.lt
  have zW := jB.size
  have zXV := jX.lt
  go_upto_region 4 with (at_builtin; refine append_loads rfl _ _ rfl rfl V.heap.size _ 0 [] rfl jE _ n L rfl hLd (by omega) (by simp) ?_; intro own w5 hown hgrow; simp only [Nat.zero_add, List.nil_append] at hown)
  have hg2 : (V.alloc (.cells #[] 53)).grownBy w5 (some V.heap.size) := hgrow
  clear hgrow jE hLd m0 m1 m2 m3 m4 m5 m6 m7 m8 m9 m10 m11 m12 m13 zM
  have hrr : ∀ q, (some V.heap.size : Option Nat) = some q → V.heap.size ≤ q := fun q e => by simp only [Option.some.injEq] at e; omega
  replace jX := (jX.alloc (.cells #[] 53)).grown hg2 (fun q e => by have := hrr q e; omega)
  replace hR := (hR.alloc (.cells #[] 53)).grown hg2 V.heap.size hrr qS qC qI qK qL
  replace hS : SeedAt bs w5 := hS.imp fun _ h => (h.alloc (.cells #[] 53)).grown hg2 (fun q e => by have := hrr q e; omega)
  replace jB := below_grown (bwA jB (Nat.le_refl _) (.cells #[] 53)) hg2 (fun q e => by have := hrr q e; omega) (by simp; omega)
  have z5 : V.heap.size ≤ w5.heap.size := by have := hg2.size; simp at this; omega
  clear hg2 hrr
  obtain ⟨B5, hB5⟩ : ∃ z, V.heap.size = z := ⟨_, rfl⟩
  rw [hB5] at hown qS qC qI qK qL zS zW zXV z5
  clear hB5
  have QS := Lib.hid qS
  have QC := Lib.hid qC
  have QI := Lib.hid qI
  have QK := Lib.hid qK
  have QL := Lib.hid qL
  clear qS qC qI qK qL
  have hni : 100 * (ni : Int) ≤ 400 := by have := HM.out.ni4; omega
  have hni1 : 1 ≤ ni := HM.out.ni1
  have ew0 : IntKind.i64.wrap (100 * (ni : Int)) = 100 * (ni : Int) := IntWalk.i64_in _ (by omega)
  have hD := Drawn.refl hS
  obtain ⟨m0, m1, m2, m3, m4, m5, m6, m7, m8, m9, m10, m11, m12, m13⟩ := jX.c14
  have zM := jX.lt
  go_wp2_with fail
  clear m0 m1 m2 m3 m4 m5 m6 m7 m8 m9 m10 m11 m12 m13 zM
  refine (below_in (100 * (ni : Int)) bs _ hD.seed (by omega)).mono ?_
  rintro e w6 ⟨me, rfl, me0, me1', hd⟩
  have me1 : me < 100 * (ni : Int) := by omega
  clear me1' ew0
  replace hD := hD.trans hd
  clear hd
  go_wp2_with fail
  refine (kspan_in 0 20000 bs _ hD.seed (by decide) (by decide) (by decide)).mono ?_
  rintro e w7 ⟨x0, x1, rfl, x00, x01, x11, hd⟩
  replace hD := hD.trans hd
  clear hd
  go_wp2_with fail
  refine (below_in 100 bs _ hD.seed (by decide)).mono ?_
  rintro e w8 ⟨st, rfl, st0, st1', hd⟩
  have st1 : st < 100 := by omega
  clear st1'
  replace hD := hD.trans hd
  clear hd
  replace hown := hD.row hown (by omega)
  replace jX := hD.blk jX (by omega)
  replace hR := hR.drawn hD (by omega)
  replace jB := Drawn.below jB hD zwbs
  clear hS
  have z8 : w5.heap.size ≤ w8.heap.size := hD.2.size
  clear hD
  obtain ⟨i0, hi0, hz0, hz1, hz2⟩ := info_parts Try.infoLoad
  obtain ⟨aN, cN, rfl, _, _, _⟩ := loads_of_row hown
  have h5r : ∀ z, (Value.slice aN n cN).ownBlock = some z → B5 ≤ z := fun z e => (hown.lt z e).1
  go_upto_region 5 with (at_builtin; refine wpList_append_own_at _ rfl _ _ 43 rfl B5 53 i0 (.agg #[.int .i64 0, .int .i64 0, .int .i64 0, .int .i64 0]) 4 32 Try.underlying43 hi0 hz0 hz1 hz2 rfl (by decide) _ _ _ rfl (hown.alloc _) ⟨w8.heap.size, 0, none⟩ 1 1 [.int .i64 me, .int .i64 x0, .int .i64 x1, .int .i64 st] rfl rfl (news4 _ _ _ _ _ _) (one4 _ _ _ _) (by unfold maxLen; omega) (by omega) (by simp; omega) ?_; intro vM w9 hM9 hgrow _ _; replace hM9 := (loadC_up L n ⟨me, x0, x1, st⟩).symm ▸ hM9)
  replace jX := (jX.alloc (.cells #[.int .i64 me, .int .i64 x0, .int .i64 x1, .int .i64 st] 53)).grown hgrow (fun q e => by have := h5r q e; omega)
  replace hR := (hR.alloc (.cells #[.int .i64 me, .int .i64 x0, .int .i64 x1, .int .i64 st] 53)).grown hgrow B5 h5r QS.out QC.out QI.out QK.out QL.out
  replace jB := below_grown (bwA jB (Nat.le_refl _) (.cells #[.int .i64 me, .int .i64 x0, .int .i64 x1, .int .i64 st] 53)) hgrow (fun q e => by have := h5r q e; omega) (by simp; omega)
  have z9 : B5 ≤ w9.heap.size := by have := hgrow.size; simp at this; omega
  clear hgrow hown h5r QS QC QI QK
  obtain ⟨M, hMd⟩ : ∃ M : Nat → Ld, M = upL L n ⟨me, x0, x1, st⟩ := ⟨_, rfl⟩
  rw [← hMd] at hM9
  have HMi : Hid (∀ i, i < n → M i = L i) := fun i hi => by rw [hMd]; exact upL_ne _ _ _ _ (by omega)
  have HMn : Hid (M n = ⟨me, x0, x1, st⟩) := by rw [hMd]; exact upL_at _ _ _
  clear hMd
  obtain ⟨aM, cM, rfl, _, _, _⟩ := loads_of_row hM9
  -- the list turned
  obtain ⟨m0, m1, m2, m3, m4, m5, m6, m7, m8, m9, m10, m11, m12, m13⟩ := jX.c14
  have zM := jX.lt
  go_upto_region 6 with (at_make; refine wpList_make_full _ rfl _ _ 43 rfl w9.heap.size 53 i0 (.agg #[.int .i64 0, .int .i64 0, .int .i64 0, .int .i64 0]) 4 Try.underlying43 hi0 hz0 hz1 .i64 .i64 _ _ n rfl rfl rfl rfl (by rw [hz2]; omega) (by unfold maxLen; omega) (Nat.le_refl _) ?_; intro w10 hT hg10; rw [made_loads] at hT)
  clear m0 m1 m2 m3 m4 m5 m6 m7 m8 m9 m10 m11 m12 m13 zM hi0 hz0 hz1 hz2
  have hrn : ∀ q, (none : Option Nat) = some q → w9.heap.size ≤ q := fun q e => by simp at e
  have qS : ∀ q, (Value.slice aS p.S.n cS).ownBlock = some q → q < w9.heap.size := fun q e => (hR.S.lt q e).2
  have qC : ∀ q, (Value.slice aC p.C.n cC).ownBlock = some q → q < w9.heap.size := fun q e => (hR.C.lt q e).2
  have qI : ∀ q, (Value.slice aI ni cI).ownBlock = some q → q < w9.heap.size := fun q e => (hR.I.lt q e).2
  have qK : ∀ q, (Value.slice aK nc cK).ownBlock = some q → q < w9.heap.size := fun q e => (hR.K.lt q e).2
  have qL : ∀ q, (Value.slice aL n cL).ownBlock = some q → q < w9.heap.size := fun q e => (hR.L.lt q e).2
  have qM : ∀ q, (Value.slice aM (n + 1) cM).ownBlock = some q → q < w9.heap.size := fun q e => (hM9.lt q e).2
  have zX9 := jX.lt
  replace jX := jX.grown hg10 (fun q e => by simp at e)
  replace hR := hR.grown hg10 w9.heap.size hrn qS qC qI qK qL
  replace hM9 := row_kept hM9 hg10 (fun q e f => by simp at f)
  have zB9 := jB.size
  replace jB := below_grown jB hg10 (fun q e => by simp at e) (by omega)
  clear hg10 hrn
  obtain ⟨B9, hB9⟩ : ∃ z, w9.heap.size = z := ⟨_, rfl⟩
  rw [hB9] at hT qS qC qI qK qL qM zX9 z9 zB9
  (try rw [hB9])
  clear hB9
  have QS := Lib.hid qS
  have QC := Lib.hid qC
  have QI := Lib.hid qI
  have QK := Lib.hid qK
  have QL := Lib.hid qL
  have QM := Lib.hid qM
  clear qS qC qI qK qL qM
  have HK := Lib.hid (And.intro jX (And.intro hR (And.intro hM9 jB)))
  clear jX hR hM9 jB
  go_wp2_with fail
  go_loopw [7] (fun i wr => ∃ (k : Nat) (T : Nat → Ld), k ≤ n ∧ i = .int .i64 k ∧ (∀ i, i < k → T (n - 1 - i) = L i) ∧ w10.grownBy wr (some B9) ∧ wr.ownsRow B9 53 4 (.slice (some ⟨B9, 0, none⟩) n n) n (catC (loadC T) n)) (fun i _ => n - (intOf i).toNat)
  case atStart => exact ⟨0, fun _ => ⟨0, 0, 0, 0⟩, Nat.zero_le _, rfl, fun i hi => by omega, grownBy_refl _ _, hT⟩
  case round =>
    clear hT
    obtain ⟨k, T, hk, rfl, hTi, hg, hT⟩ := hrel
    have HTi := Lib.hid hTi
    clear hTi
    have hr9 : ∀ q, (some B9 : Option Nat) = some q → B9 ≤ q := fun q e => by simp only [Option.some.injEq] at e; omega
    have jX := HK.out.1.grown hg (fun q e => by have := hr9 q e; omega)
    have hR := HK.out.2.1.grown hg B9 hr9 QS.out QC.out QI.out QK.out QL.out
    by_cases hlt2 : k < n
    · obtain ⟨m, hm⟩ : ∃ m, n - 1 = m := ⟨_, rfl⟩
      obtain ⟨j, hj⟩ : ∃ j, m - k = j := ⟨_, rfl⟩
      have ew1 : IntKind.i64.wrap ((n : Int) - 1) = (m : Int) := by rw [show (n : Int) - 1 = (m : Int) by omega]; exact IntWalk.i64_in _ (by omega)
      have ew2 : IntKind.i64.wrap ((m : Int) - (k : Int)) = (j : Int) := by rw [show (m : Int) - (k : Int) = (j : Int) by omega]; exact IntWalk.i64_in _ (by omega)
      have hjn : j < n := by omega
      have hjk : n - 1 - k = j := by omega
      have HJ := Lib.hid hjk
      clear hm hj hjk
      obtain ⟨a9, c9, hv9, _, _, h9⟩ := loads_of_row hR.L
      simp only [Value.slice.injEq] at hv9
      obtain ⟨rfl, _, rfl⟩ := hv9
      obtain ⟨b9, o9, rfl, hc9⟩ := h9 (by omega)
      obtain ⟨l0, l1, l2, l3⟩ := hc9 k hlt2
      clear hc9 h9
      have zl := World.block_lt_of_cell? _ _ l0
      obtain ⟨cur, kN⟩ : ∃ cur, Blk _ B9 cur 53 := by
        rcases hT.2 with ⟨hv, _⟩ | ⟨g, cap', cur, hv, hg, hcur, _⟩
        · simp at hv
        · simp only [Value.slice.injEq, Option.some.injEq, Addr.mk.injEq, and_true, true_and] at hv
          obtain ⟨rfl, _⟩ := hv
          exact ⟨cur, hcur⟩
      obtain ⟨a8, c8, hv8, _, _, h8⟩ := loads_of_row hT
      simp only [Value.slice.injEq] at hv8
      obtain ⟨rfl, _, rfl⟩ := hv8
      obtain ⟨b8, o8, hb8, hc8⟩ := h8 (by omega)
      simp only [Option.some.injEq, Addr.mk.injEq, and_true] at hb8
      obtain ⟨rfl, rfl⟩ := hb8
      obtain ⟨t0, t1, t2, t3⟩ := hc8 j hjn
      simp only [Nat.zero_add] at t0 t1 t2 t3
      clear hc8 h8
      have zN := kN.lt
      have f0 := kN.free (j * 4)
      have f1 := kN.free (j * 4 + 1)
      have f2 := kN.free (j * 4 + 2)
      have f3 := kN.free (j * 4 + 3)
      have kT := row_putL hT j hjn (L k)
      have kg := grownBy_trans hg (grown_put4 _ B9 (j * 4) (j * 4 + 1) (j * 4 + 2) (j * 4 + 3) (.int .i64 (L k).me) (.int .i64 (L k).w0) (.int .i64 (L k).w1) (.int .i64 (L k).st))
      obtain ⟨m0, m1, m2, m3, m4, m5, m6, m7, m8, m9, m10, m11, m12, m13⟩ := jX.c14
      have zM := jX.lt
      clear jX hR hT hg kN
      go_wp2
      go_roundw
      case rel =>
        refine ⟨k + 1, upL T j (L k), by omega, by go_num, fun i hi => ?_, kg, kT⟩
        have hjk := HJ.out
        by_cases e : i = k
        · subst e
          rw [hjk, upL_at]
        · rw [upL_ne _ _ _ _ (by omega)]
          exact HTi.out i (by omega)
      case measure => simp [intOf]; omega
    · have hkn : n = k := by omega
      subst hkn
      have hM9 := row_kept HK.out.2.2.1 hg (fun q e f => by have := hr9 q f; have := QM.out q e; omega)
      have jB := below_grown HK.out.2.2.2 hg (fun q e => by have := hr9 q e; omega) (by have := HK.out.2.2.2.size; omega)
      have HTj : Hid (∀ i, i < n → T i = L (n - 1 - i)) := fun i hi => by
        have q := HTi.out (n - 1 - i) (by omega)
        rw [show n - 1 - (n - 1 - i) = i by omega] at q
        exact q
      clear hr9 hg HTi HK QS QC QI QK QL QM
      have hMok : ∀ i, i < n + 1 → (M i).Ok ni := fun i hi => by
        by_cases e : i = n
        · subst e
          rw [HMn.out]
          exact ⟨me0, me1, x00, x01, by simp only; omega, st0, by simp only; omega⟩
        · rw [HMi.out i (by omega)]
          exact HM.out.hL i (by omega)
      have hTok : ∀ i, i < n → (T i).Ok ni := fun i hi => by
        rw [HTj.out i hi]
        exact HM.out.hL _ (by omega)
      have HMok := Lib.hid hMok
      have HTok := Lib.hid hTok
      clear hMok hTok
      obtain ⟨W, hW⟩ : ∃ W, W = wr := ⟨_, rfl⟩
      subst hW
      obtain ⟨m0, m1, m2, m3, m4, m5, m6, m7, m8, m9, m10, m11, m12, m13⟩ := jX.c14
      have zX3 := jX.lt
      go_wp2_with fail
      clear m0 m1 m2 m3 m4 m5 m6 m7 m8 m9 m10 m11 m12 m13 zX3
      refine (holds_valid HM.out.hp (by have := HM.out.ni4; omega) (fun i hi => by have := HM.out.hi i hi; omega) (by have := HM.out.nc3; omega) (fun i hi => by have := HM.out.hc i hi; omega) (by omega) HM.out.hL _ _ _ _ _ _ (pairs_of_row hR.S) (pairs_of_row hR.C) (pairs_of_row hR.I) (pairs_of_row hR.K) (loads_of_row hR.L)).mono ?_
      rintro e w11 ⟨vR, rfl, rR, hb⟩
      replace rR := ints_of_row rR
      replace jX := jX.call hb
      replace hR := hR.call hb
      replace hM9 := row_call hM9 hb
      replace hT := row_call hT hb
      replace jB := bwS jB (Nat.le_refl _) hb
      clear hb
      obtain ⟨aR, cR, rfl, _, _, _⟩ := id rR
      obtain ⟨m0, m1, m2, m3, m4, m5, m6, m7, m8, m9, m10, m11, m12, m13⟩ := jX.c14
      have zX3 := jX.lt
      go_wp2_with fail
      clear m0 m1 m2 m3 m4 m5 m6 m7 m8 m9 m10 m11 m12 m13 zX3
      refine (holds_valid HM.out.hp (by have := HM.out.ni4; omega) (fun i hi => by have := HM.out.hi i hi; omega) (by have := HM.out.nc3; omega) (fun i hi => by have := HM.out.hc i hi; omega) (by omega) HMok.out _ _ _ _ _ _ (pairs_of_row hR.S) (pairs_of_row hR.C) (pairs_of_row hR.I) (pairs_of_row hR.K) (loads_of_row hM9)).mono ?_
      rintro e w12 ⟨vQ, rfl, rQ, hb⟩
      replace rQ := ints_of_row rQ
      replace rR := rR.later hb
      replace jX := jX.call hb
      replace hR := hR.call hb
      replace hM9 := row_call hM9 hb
      replace hT := row_call hT hb
      replace jB := bwS jB (Nat.le_refl _) hb
      clear hb
      obtain ⟨aQ, cQ, rfl, _, _, _⟩ := id rQ
      obtain ⟨m0, m1, m2, m3, m4, m5, m6, m7, m8, m9, m10, m11, m12, m13⟩ := jX.c14
      have zX3 := jX.lt
      go_wp2_with fail
      clear m0 m1 m2 m3 m4 m5 m6 m7 m8 m9 m10 m11 m12 m13 zX3
      refine (holds_valid HM.out.hp (by have := HM.out.ni4; omega) (fun i hi => by have := HM.out.hi i hi; omega) (by have := HM.out.nc3; omega) (fun i hi => by have := HM.out.hc i hi; omega) (by omega) HTok.out _ _ _ _ _ _ (pairs_of_row hR.S) (pairs_of_row hR.C) (pairs_of_row hR.I) (pairs_of_row hR.K) (loads_of_row hT)).mono ?_
      rintro e w13 ⟨vZ, rfl, rZ, hb⟩
      replace rZ := ints_of_row rZ
      replace rR := rR.later hb
      replace rQ := rQ.later hb
      replace jX := jX.call hb
      replace hR := hR.call hb
      replace hM9 := row_call hM9 hb
      replace jB := bwS jB (Nat.le_refl _) hb
      clear hb hT
      obtain ⟨aZ, cZ, rfl, _, _, _⟩ := id rZ
      obtain ⟨X, hX⟩ : ∃ X : Nat → Int, X = fun i => verdV p I0 I1 nc C0 C1 n L (L i) := ⟨_, rfl⟩
      obtain ⟨Y, hY⟩ : ∃ Y : Nat → Int, Y = fun i => verdV p I0 I1 nc C0 C1 (n + 1) M (M i) := ⟨_, rfl⟩
      obtain ⟨Z, hZ⟩ : ∃ Z : Nat → Int, Z = fun i => verdV p I0 I1 nc C0 C1 n T (T i) := ⟨_, rfl⟩
      rw [← hX] at rR
      rw [← hY] at rQ
      rw [← hZ] at rZ
      have HVe : Hid (∀ i : Nat, i < n → Z (n - 1 - i) = X i ∧ (Y i = 1 → X i = 1) ∧ (X i = 2 → Y i = 2) ∧ (p.S.val (farV me (L i).me) = 0 → Y i = X i)) := fun i hi => by
        rw [hX, hY, hZ]
        simp only
        have e1 : verdV p I0 I1 nc C0 C1 n T (T (n - 1 - i)) = verdV p I0 I1 nc C0 C1 n L (L i) := by
          rw [verd_turn (fun j hj => HTj.out j hj), HTj.out _ (by omega), show n - 1 - (n - 1 - i) = i by omega]
        have e2 := verd_more HM.out.hp (I0 := I0) (I1 := I1) (nc := nc) (C0 := C0) (C1 := C1) (fun j hj => HMi.out j hj) (by rw [HMn.out]; exact ⟨x00, x01⟩) (L i)
        rw [HMi.out i hi]
        refine ⟨e1, e2.1, fun h => ?_, fun h => ?_⟩
        · rcases e2.2 h with g | g
          · exact g
          · rw [e2.1 g] at h
            simp at h
        · exact verd_apart (fun j hj => HMi.out j hj) (L i) (by unfold partL; rw [HMn.out, far_comm]; exact h)
      clear hX hY hZ HTj HTok HMok
      -- last
      obtain ⟨a9, c9, hv9, _, _, h9⟩ := loads_of_row hM9
      simp only [Value.slice.injEq] at hv9
      obtain ⟨rfl, _, rfl⟩ := hv9
      obtain ⟨b9, o9, rfl, hc9⟩ := h9 (by omega)
      obtain ⟨l0, l1, l2, l3⟩ := hc9 n (by omega)
      rw [HMn.out] at l0 l1 l2 l3
      clear hc9 h9
      have ew1 : IntKind.i64.wrap (((n + 1 : Nat) : Int) - 1) = (n : Int) := by rw [show ((n + 1 : Nat) : Int) - 1 = (n : Int) by omega]; exact IntWalk.i64_in _ (by omega)
      have zl := World.block_lt_of_cell? _ _ l0
      have RX := Lib.hid rR
      have RY := Lib.hid rQ
      have RZ := Lib.hid rZ
      have HR := Lib.hid (And.intro (loads_of_row hR.L) (pairs_of_row hR.S))
      have HB := Lib.hid jB
      clear rR rQ rZ hM9
      obtain ⟨m0, m1, m2, m3, m4, m5, m6, m7, m8, m9, m10, m11, m12, m13⟩ := jX.c14
      have zX3 := jX.lt
      have jL := Blk.new w13 #[.int .i64 me, .int .i64 x0, .int .i64 x1, .int .i64 st] 53
      go_upto_region 16 with fail
      clear m0 m1 m2 m3 m4 m5 m6 m7 m8 m9 m10 m11 m12 m13 zX3 l0 l1 l2 l3 zl ew1
      obtain ⟨bL, hbL⟩ : ∃ z, w13.heap.size = z := ⟨_, rfl⟩
      rw [hbL] at jL
      (try rw [hbL])
      have hA : Below w13.heap.size w13 (w13.alloc (.cells #[.int .i64 me, .int .i64 x0, .int .i64 x1, .int .i64 st] 53)) := by (repeat (first | exact Below.refl _ _ | assumption | refine Below.drew ?_ | refine Below.drewN ?_ _ | refine blT ?_ | refine blU ?_))
      clear hbL
      replace jX := jX.alloc (.cells #[.int .i64 me, .int .i64 x0, .int .i64 x1, .int .i64 st] 53)
      replace RX : Hid _ := RX.out.later hA
      replace RY : Hid _ := RY.out.later hA
      replace RZ : Hid _ := RZ.out.later hA
      replace HR : Hid _ := And.intro (HR.out.1.later hA) (HR.out.2.later hA)
      replace HB : Hid _ := bwS HB.out (Nat.le_refl _) hA
      clear hA hR jB
      generalize w13.alloc (.cells #[.int .i64 me, .int .i64 x0, .int .i64 x1, .int .i64 st] 53) = V9 at jX jL RX RY RZ HR HB ⊢
      have HJ := Lib.hid (And.intro jX jL)
      clear jX jL
      have hmeB := And.intro me0 (And.intro me1 hni)
      have HF0 : Hid (∀ q : Int, 0 ≤ q → q < 1000 → ∀ W, Calls Try.prog 64 #[.int .i64 me, .int .i64 q] W fun e w' => e = .returned (.int .i64 (farV me q)) ∧ Below W.heap.size W w') := fun q q0 q1 W => kfar_any me q (by omega) (by omega) W
      have HT0 : Hid (∀ q : Int, ∀ W, Below V9.heap.size V9 W → Calls Try.prog 63 #[(.slice aS p.S.n cS), .int .i64 q] W fun e w' => e = .returned (.int .i64 (p.S.val q)) ∧ Below W.heap.size W w') := fun q W hW => ktable_any _ p.S q W (HR.out.2.later hW)
      have HLm : Hid (∀ i, i < n → 0 ≤ (L i).me ∧ (L i).me < 1000) := fun i hi => by have g := HM.out.hL i hi; have := g.me0; have := g.me1; omega
      clear HM HMi HMn me0 me1 x00 x01 x11 st0 st1 hni hni1 hmeB
      go_wp2_with fail
      go_loopw [15, 16] (fun ap i wr => ∃ (b : Bool) (k : Nat), ap = .bool b ∧ (b = true → ∀ i, i < k → Y i = X i) ∧ k ≤ n ∧ i = .int .i64 k ∧ Below V9.heap.size V9 wr) (fun _ i _ => n - (intOf i).toNat)
      case atStart => exact ⟨true, 0, rfl, fun _ i hi => by omega, Nat.zero_le _, rfl, Below.refl _ _⟩
      case round =>
        obtain ⟨ap, k, rfl, hap, hk, rfl, hB⟩ := hrel
        by_cases hlt3 : k < n
        · obtain ⟨hv1, hv2, hv3, hv4⟩ := HVe.out k hlt3
          obtain ⟨a1, c1, hw1, _, _, h1⟩ := RX.out
          simp only [Value.slice.injEq] at hw1
          obtain ⟨rfl, _, rfl⟩ := hw1
          obtain ⟨b1, o1, rfl, hc1⟩ := h1 (by omega)
          obtain ⟨a2, c2, hw2, _, _, h2⟩ := RY.out
          simp only [Value.slice.injEq] at hw2
          obtain ⟨rfl, _, rfl⟩ := hw2
          obtain ⟨b2, o2, rfl, hc2⟩ := h2 (by omega)
          obtain ⟨a3, c3, hw3, _, _, h3⟩ := RZ.out
          simp only [Value.slice.injEq] at hw3
          obtain ⟨rfl, _, rfl⟩ := hw3
          obtain ⟨b3, o3, rfl, hc3⟩ := h3 (by omega)
          obtain ⟨a4, c4, hw4, _, _, h4⟩ := HR.out.1
          simp only [Value.slice.injEq] at hw4
          obtain ⟨rfl, _, rfl⟩ := hw4
          obtain ⟨b4, o4, rfl, hc4⟩ := h4 (by omega)
          obtain ⟨m, hm⟩ : ∃ m, n - 1 = m := ⟨_, rfl⟩
          obtain ⟨j, hj⟩ : ∃ j, m - k = j := ⟨_, rfl⟩
          have ew1 : IntKind.i64.wrap ((n : Int) - 1) = (m : Int) := by rw [show (n : Int) - 1 = (m : Int) by omega]; exact IntWalk.i64_in _ (by omega)
          have ew2 : IntKind.i64.wrap ((m : Int) - (k : Int)) = (j : Int) := by rw [show (m : Int) - (k : Int) = (j : Int) by omega]; exact IntWalk.i64_in _ (by omega)
          have hjn : j < n := by omega
          have R1 := Lib.hid (hc1 k hlt3)
          have R2 := Lib.hid (hc2 k (by omega))
          have r3 := hc3 j hjn
          rw [show n - 1 - k = j by omega] at hv1
          rw [hv1] at r3
          have R3 := Lib.hid r3
          have HL0 := Lib.hid (hc4 k hlt3).1
          have HLk := HLm.out k hlt3
          have HV2 := Lib.hid hv2
          have HV3 := Lib.hid hv3
          have HF := Lib.hid (HF0.out (L k).me HLk.1 HLk.2)
          have HT := Lib.hid (HT0.out (farV me (L k).me))
          have HD : Hid (ap = true → p.S.val (farV me (L k).me) = 0 → ∀ i, i < k + 1 → Y i = X i) := fun ha h0 i hi => by
            by_cases e : i = k
            · subst e; exact hv4 h0
            · exact hap ha i (by omega)
          clear hc1 h1 hc2 h2 hc3 h3 hc4 h4 hv1 hv2 hv3 hv4 r3 hm hj HLk hap
          generalize p.S.val (farV me (L k).me) = tv at HT HD
          generalize farV me (L k).me = fv at HF HT
          generalize (L k).me = me2 at HF HL0
          obtain ⟨xv, hxv⟩ : ∃ x, X k = x := ⟨_, rfl⟩
          obtain ⟨yv, hyv⟩ : ∃ x, Y k = x := ⟨_, rfl⟩
          rw [hxv] at R1 R3 HV2 HV3
          rw [hyv] at R2 HV2 HV3
          clear hxv hyv
          go_upto_region 20 with fail
          go_cut [15] (fun s15 wx => ∃ b : Bool, s15 = .bool b ∧ (b = true → ∀ i, i < k + 1 → Y i = X i) ∧ Below V9.heap.size V9 wx)
          case first =>
            clear R1 R2 R3 HV2 HV3 ew1 ew2
            cases ap with
            | true =>
              by_cases h0 : tv = 0
              · subst h0
                have HD2 := Lib.hid (HD.out rfl rfl)
                clear HD
                refine wp_region_held_drew (S := (fun v => Below V9.heap.size V9 v)) (by kernel_rfl) ?_ (fun hH => ?_)
                · (try dsimp only); (exact hB.drew)
                refine tkY 0 (some 140) ?_ ?_ ?_
                rotate_left
                · intro w _; go_simp; (try with_reducible rfl)
                (try simp only [cq])
                refine tkY 1 (some 141) ?_ ?_ ?_
                rotate_left
                · intro w _; go_simp; (try with_reducible rfl)
                (try simp only [cq])
                refine tkY 2 (some 142) ?_ ?_ ?_
                rotate_left
                · intro w hS0; (try dsimp only at hS0); have kX := HJ.out.1.call hS0; have kL := HJ.out.2.call hS0; obtain ⟨m0, m1, m2, m3, m4, m5, m6, m7, m8, m9, m10, m11, m12, m13⟩ := kX.c14; obtain ⟨g0, g1, g2, g3⟩ := kL.c4; have gl := cell_later hS0 HL0.out; have y1 := kX.lt; have y2 := kL.lt; have y3 := World.block_lt_of_cell? _ _ gl;go_simp; (try with_reducible rfl)
                (try simp only [cq])
                refine tkY 3 (some 143) ?_ ?_ ?_
                rotate_left
                · intro w hS0; (try dsimp only at hS0); have kX := HJ.out.1.call hS0; have kL := HJ.out.2.call hS0; obtain ⟨m0, m1, m2, m3, m4, m5, m6, m7, m8, m9, m10, m11, m12, m13⟩ := kX.c14; obtain ⟨g0, g1, g2, g3⟩ := kL.c4; have gl := cell_later hS0 HL0.out; have y1 := kX.lt; have y2 := kL.lt; have y3 := World.block_lt_of_cell? _ _ gl;go_simp; (try with_reducible rfl)
                (try simp only [cq])
                refine tkY 4 (some 144) ?_ ?_ ?_
                rotate_left
                · intro w hS0; (try dsimp only at hS0); have kX := HJ.out.1.call hS0; have kL := HJ.out.2.call hS0; obtain ⟨m0, m1, m2, m3, m4, m5, m6, m7, m8, m9, m10, m11, m12, m13⟩ := kX.c14; obtain ⟨g0, g1, g2, g3⟩ := kL.c4; have gl := cell_later hS0 HL0.out; have y1 := kX.lt; have y2 := kL.lt; have y3 := World.block_lt_of_cell? _ _ gl;go_simp; (try with_reducible rfl)
                (try simp only [cq])
                refine tkY 5 (some 145) ?_ ?_ ?_
                rotate_left
                · intro w hS0; (try dsimp only at hS0); have kX := HJ.out.1.call hS0; have kL := HJ.out.2.call hS0; obtain ⟨m0, m1, m2, m3, m4, m5, m6, m7, m8, m9, m10, m11, m12, m13⟩ := kX.c14; obtain ⟨g0, g1, g2, g3⟩ := kL.c4; have gl := cell_later hS0 HL0.out; have y1 := kX.lt; have y2 := kL.lt; have y3 := World.block_lt_of_cell? _ _ gl;go_simp; (try with_reducible rfl)
                (try simp only [cq])
                refine tkY 6 (some 146) ?_ ?_ ?_
                rotate_left
                · intro w hS0; (try dsimp only at hS0); have kX := HJ.out.1.call hS0; have kL := HJ.out.2.call hS0; obtain ⟨m0, m1, m2, m3, m4, m5, m6, m7, m8, m9, m10, m11, m12, m13⟩ := kX.c14; obtain ⟨g0, g1, g2, g3⟩ := kL.c4; have gl := cell_later hS0 HL0.out; have y1 := kX.lt; have y2 := kL.lt; have y3 := World.block_lt_of_cell? _ _ gl;go_simp; (try with_reducible rfl)
                (try simp only [cq])
                refine tkY 7 (some 147) ?_ ?_ ?_
                rotate_left
                · intro w hS0; (try dsimp only at hS0); have kX := HJ.out.1.call hS0; have kL := HJ.out.2.call hS0; obtain ⟨m0, m1, m2, m3, m4, m5, m6, m7, m8, m9, m10, m11, m12, m13⟩ := kX.c14; obtain ⟨g0, g1, g2, g3⟩ := kL.c4; have gl := cell_later hS0 HL0.out; have y1 := kX.lt; have y2 := kL.lt; have y3 := World.block_lt_of_cell? _ _ gl;go_simp; (try with_reducible rfl)
                (try simp only [cq])
                refine tkY 8 (some 148) ?_ ?_ ?_
                rotate_left
                · intro w hS0; (try dsimp only at hS0); have kX := HJ.out.1.call hS0; have kL := HJ.out.2.call hS0; obtain ⟨m0, m1, m2, m3, m4, m5, m6, m7, m8, m9, m10, m11, m12, m13⟩ := kX.c14; obtain ⟨g0, g1, g2, g3⟩ := kL.c4; have gl := cell_later hS0 HL0.out; have y1 := kX.lt; have y2 := kL.lt; have y3 := World.block_lt_of_cell? _ _ gl;go_simp; (try with_reducible rfl)
                (try simp only [cq])
                refine tkY 9 (some 149) ?_ ?_ ?_
                rotate_left
                · intro w _; go_simp; (try with_reducible rfl)
                (try simp only [cq])
                refine tkY 10 (some 150) ?_ ?_ ?_
                rotate_left
                · intro w hS0; (try dsimp only at hS0); have kX := HJ.out.1.call hS0; have kL := HJ.out.2.call hS0; obtain ⟨m0, m1, m2, m3, m4, m5, m6, m7, m8, m9, m10, m11, m12, m13⟩ := kX.c14; obtain ⟨g0, g1, g2, g3⟩ := kL.c4; have gl := cell_later hS0 HL0.out; have y1 := kX.lt; have y2 := kL.lt; have y3 := World.block_lt_of_cell? _ _ gl;go_simp; (try with_reducible rfl)
                (try simp only [cq])
                refine tkY 11 (some 151) ?_ ?_ ?_
                rotate_left
                · intro w hS0; (try dsimp only at hS0); have kX := HJ.out.1.call hS0; have kL := HJ.out.2.call hS0; obtain ⟨m0, m1, m2, m3, m4, m5, m6, m7, m8, m9, m10, m11, m12, m13⟩ := kX.c14; obtain ⟨g0, g1, g2, g3⟩ := kL.c4; have gl := cell_later hS0 HL0.out; have y1 := kX.lt; have y2 := kL.lt; have y3 := World.block_lt_of_cell? _ _ gl;go_simp; (try with_reducible rfl)
                (try simp only [cq])
                refine tkY 12 (some 152) ?_ ?_ ?_
                rotate_left
                · intro w hS0; (try dsimp only at hS0); have kX := HJ.out.1.call hS0; have kL := HJ.out.2.call hS0; obtain ⟨m0, m1, m2, m3, m4, m5, m6, m7, m8, m9, m10, m11, m12, m13⟩ := kX.c14; obtain ⟨g0, g1, g2, g3⟩ := kL.c4; have gl := cell_later hS0 HL0.out; have y1 := kX.lt; have y2 := kL.lt; have y3 := World.block_lt_of_cell? _ _ gl;go_simp; (try with_reducible rfl)
                (try simp only [cq])
                refine wpAnyH_ready (rs := [13]) (by kernel_rfl) (by simp) ?_
                refine arc1 (some 153) fun K hK => ?_
                go_simp
                (refine (HF.out _).mono ?_; rintro e w' ⟨rfl, hb⟩)
                refine hK.out _ _ ?_ ?_
                · (exact bwS hH (Nat.le_refl _) hb)
                (try clear hH); (try clear hb)
                intro hH
                clear hK K
                (try simp only [cq])
                refine wpAnyH_ready (rs := [14]) (by kernel_rfl) (by simp) ?_
                refine arc1 (some 154) fun K hK => ?_
                go_simp
                (refine (HT.out _ hH).mono ?_; rintro e w' ⟨rfl, hb⟩)
                refine hK.out _ _ ?_ ?_
                · (exact bwS hH (Nat.le_refl _) hb)
                (try clear hH); (try clear hb)
                intro hH
                clear hK K
                (try simp only [cq])
                refine tkY 15 (some 155) ?_ ?_ ?_
                rotate_left
                · intro w _; go_simp; (try with_reducible rfl)
                (try simp only [cq])
                refine tkY 16 (some 156) ?_ ?_ ?_
                rotate_left
                · intro w _; go_simp; (try with_reducible rfl)
                (try simp only [cq])
                refine tkY 17 (some 15) ?_ ?_ ?_
                rotate_left
                · intro w _; go_simp; (try with_reducible rfl)
                (try simp only [cq])
                refine wpAnyH_done (by kernel_rfl) ?_ _
                (try dsimp only [Act.put])
                (try simp only [cq])
                go_wp2_with fail
                go_meet
                exact ⟨true, rfl, fun _ => HD2.out, hH⟩
              · have e0 : (tv == 0) = false := by simpa using h0
                clear HD
                refine wp_region_held_drew (S := (fun v => Below V9.heap.size V9 v)) (by kernel_rfl) ?_ (fun hH => ?_)
                · (try dsimp only); (exact hB.drew)
                refine tkY 0 (some 140) ?_ ?_ ?_
                rotate_left
                · intro w _; go_simp; (try with_reducible rfl)
                (try simp only [cq])
                refine tkY 1 (some 141) ?_ ?_ ?_
                rotate_left
                · intro w _; go_simp; (try with_reducible rfl)
                (try simp only [cq])
                refine tkY 2 (some 142) ?_ ?_ ?_
                rotate_left
                · intro w hS0; (try dsimp only at hS0); have kX := HJ.out.1.call hS0; have kL := HJ.out.2.call hS0; obtain ⟨m0, m1, m2, m3, m4, m5, m6, m7, m8, m9, m10, m11, m12, m13⟩ := kX.c14; obtain ⟨g0, g1, g2, g3⟩ := kL.c4; have gl := cell_later hS0 HL0.out; have y1 := kX.lt; have y2 := kL.lt; have y3 := World.block_lt_of_cell? _ _ gl;go_simp; (try with_reducible rfl)
                (try simp only [cq])
                refine tkY 3 (some 143) ?_ ?_ ?_
                rotate_left
                · intro w hS0; (try dsimp only at hS0); have kX := HJ.out.1.call hS0; have kL := HJ.out.2.call hS0; obtain ⟨m0, m1, m2, m3, m4, m5, m6, m7, m8, m9, m10, m11, m12, m13⟩ := kX.c14; obtain ⟨g0, g1, g2, g3⟩ := kL.c4; have gl := cell_later hS0 HL0.out; have y1 := kX.lt; have y2 := kL.lt; have y3 := World.block_lt_of_cell? _ _ gl;go_simp; (try with_reducible rfl)
                (try simp only [cq])
                refine tkY 4 (some 144) ?_ ?_ ?_
                rotate_left
                · intro w hS0; (try dsimp only at hS0); have kX := HJ.out.1.call hS0; have kL := HJ.out.2.call hS0; obtain ⟨m0, m1, m2, m3, m4, m5, m6, m7, m8, m9, m10, m11, m12, m13⟩ := kX.c14; obtain ⟨g0, g1, g2, g3⟩ := kL.c4; have gl := cell_later hS0 HL0.out; have y1 := kX.lt; have y2 := kL.lt; have y3 := World.block_lt_of_cell? _ _ gl;go_simp; (try with_reducible rfl)
                (try simp only [cq])
                refine tkY 5 (some 145) ?_ ?_ ?_
                rotate_left
                · intro w hS0; (try dsimp only at hS0); have kX := HJ.out.1.call hS0; have kL := HJ.out.2.call hS0; obtain ⟨m0, m1, m2, m3, m4, m5, m6, m7, m8, m9, m10, m11, m12, m13⟩ := kX.c14; obtain ⟨g0, g1, g2, g3⟩ := kL.c4; have gl := cell_later hS0 HL0.out; have y1 := kX.lt; have y2 := kL.lt; have y3 := World.block_lt_of_cell? _ _ gl;go_simp; (try with_reducible rfl)
                (try simp only [cq])
                refine tkY 6 (some 146) ?_ ?_ ?_
                rotate_left
                · intro w hS0; (try dsimp only at hS0); have kX := HJ.out.1.call hS0; have kL := HJ.out.2.call hS0; obtain ⟨m0, m1, m2, m3, m4, m5, m6, m7, m8, m9, m10, m11, m12, m13⟩ := kX.c14; obtain ⟨g0, g1, g2, g3⟩ := kL.c4; have gl := cell_later hS0 HL0.out; have y1 := kX.lt; have y2 := kL.lt; have y3 := World.block_lt_of_cell? _ _ gl;go_simp; (try with_reducible rfl)
                (try simp only [cq])
                refine tkY 7 (some 147) ?_ ?_ ?_
                rotate_left
                · intro w hS0; (try dsimp only at hS0); have kX := HJ.out.1.call hS0; have kL := HJ.out.2.call hS0; obtain ⟨m0, m1, m2, m3, m4, m5, m6, m7, m8, m9, m10, m11, m12, m13⟩ := kX.c14; obtain ⟨g0, g1, g2, g3⟩ := kL.c4; have gl := cell_later hS0 HL0.out; have y1 := kX.lt; have y2 := kL.lt; have y3 := World.block_lt_of_cell? _ _ gl;go_simp; (try with_reducible rfl)
                (try simp only [cq])
                refine tkY 8 (some 148) ?_ ?_ ?_
                rotate_left
                · intro w hS0; (try dsimp only at hS0); have kX := HJ.out.1.call hS0; have kL := HJ.out.2.call hS0; obtain ⟨m0, m1, m2, m3, m4, m5, m6, m7, m8, m9, m10, m11, m12, m13⟩ := kX.c14; obtain ⟨g0, g1, g2, g3⟩ := kL.c4; have gl := cell_later hS0 HL0.out; have y1 := kX.lt; have y2 := kL.lt; have y3 := World.block_lt_of_cell? _ _ gl;go_simp; (try with_reducible rfl)
                (try simp only [cq])
                refine tkY 9 (some 149) ?_ ?_ ?_
                rotate_left
                · intro w _; go_simp; (try with_reducible rfl)
                (try simp only [cq])
                refine tkY 10 (some 150) ?_ ?_ ?_
                rotate_left
                · intro w hS0; (try dsimp only at hS0); have kX := HJ.out.1.call hS0; have kL := HJ.out.2.call hS0; obtain ⟨m0, m1, m2, m3, m4, m5, m6, m7, m8, m9, m10, m11, m12, m13⟩ := kX.c14; obtain ⟨g0, g1, g2, g3⟩ := kL.c4; have gl := cell_later hS0 HL0.out; have y1 := kX.lt; have y2 := kL.lt; have y3 := World.block_lt_of_cell? _ _ gl;go_simp; (try with_reducible rfl)
                (try simp only [cq])
                refine tkY 11 (some 151) ?_ ?_ ?_
                rotate_left
                · intro w hS0; (try dsimp only at hS0); have kX := HJ.out.1.call hS0; have kL := HJ.out.2.call hS0; obtain ⟨m0, m1, m2, m3, m4, m5, m6, m7, m8, m9, m10, m11, m12, m13⟩ := kX.c14; obtain ⟨g0, g1, g2, g3⟩ := kL.c4; have gl := cell_later hS0 HL0.out; have y1 := kX.lt; have y2 := kL.lt; have y3 := World.block_lt_of_cell? _ _ gl;go_simp; (try with_reducible rfl)
                (try simp only [cq])
                refine tkY 12 (some 152) ?_ ?_ ?_
                rotate_left
                · intro w hS0; (try dsimp only at hS0); have kX := HJ.out.1.call hS0; have kL := HJ.out.2.call hS0; obtain ⟨m0, m1, m2, m3, m4, m5, m6, m7, m8, m9, m10, m11, m12, m13⟩ := kX.c14; obtain ⟨g0, g1, g2, g3⟩ := kL.c4; have gl := cell_later hS0 HL0.out; have y1 := kX.lt; have y2 := kL.lt; have y3 := World.block_lt_of_cell? _ _ gl;go_simp; (try with_reducible rfl)
                (try simp only [cq])
                refine wpAnyH_ready (rs := [13]) (by kernel_rfl) (by simp) ?_
                refine arc1 (some 153) fun K hK => ?_
                go_simp
                (refine (HF.out _).mono ?_; rintro e w' ⟨rfl, hb⟩)
                refine hK.out _ _ ?_ ?_
                · (exact bwS hH (Nat.le_refl _) hb)
                (try clear hH); (try clear hb)
                intro hH
                clear hK K
                (try simp only [cq])
                refine wpAnyH_ready (rs := [14]) (by kernel_rfl) (by simp) ?_
                refine arc1 (some 154) fun K hK => ?_
                go_simp
                (refine (HT.out _ hH).mono ?_; rintro e w' ⟨rfl, hb⟩)
                refine hK.out _ _ ?_ ?_
                · (exact bwS hH (Nat.le_refl _) hb)
                (try clear hH); (try clear hb)
                intro hH
                clear hK K
                (try simp only [cq])
                refine tkY 15 (some 155) ?_ ?_ ?_
                rotate_left
                · intro w _; go_simp; (try with_reducible rfl)
                (try simp only [cq])
                refine tkY 16 (some 156) ?_ ?_ ?_
                rotate_left
                · intro w _; go_simp; (try with_reducible rfl)
                (try simp only [cq])
                refine tkY 17 (some 15) ?_ ?_ ?_
                rotate_left
                · intro w _; go_simp; (try with_reducible rfl)
                (try simp only [cq])
                refine wpAnyH_done (by kernel_rfl) ?_ _
                (try dsimp only [Act.put])
                (try simp only [cq])
                go_wp2_with fail
                go_meet
                exact ⟨false, rfl, fun h => by simp at h, hH⟩
            | false =>
              clear HF HT HD
              refine wp_region_held_drew (S := (fun v => Below V9.heap.size V9 v)) (by kernel_rfl) ?_ (fun hH => ?_)
              · (try dsimp only); (exact hB.drew)
              refine tkY 0 (some 140) ?_ ?_ ?_
              rotate_left
              · intro w _; go_simp; (try with_reducible rfl)
              (try simp only [cq])
              refine tkY 1 (some 141) ?_ ?_ ?_
              rotate_left
              · intro w _; go_simp; (try with_reducible rfl)
              (try simp only [cq])
              refine tkN 2 (some 142) ?_
              (try simp only [cq])
              refine tkN 3 (some 143) ?_
              (try simp only [cq])
              refine tkN 4 (some 144) ?_
              (try simp only [cq])
              refine tkN 5 (some 145) ?_
              (try simp only [cq])
              refine tkN 6 (some 146) ?_
              (try simp only [cq])
              refine tkN 7 (some 147) ?_
              (try simp only [cq])
              refine tkN 8 (some 148) ?_
              (try simp only [cq])
              refine tkN 9 (some 149) ?_
              (try simp only [cq])
              refine tkN 10 (some 150) ?_
              (try simp only [cq])
              refine tkN 11 (some 151) ?_
              (try simp only [cq])
              refine tkN 12 (some 152) ?_
              (try simp only [cq])
              refine tkN 13 (some 153) ?_
              (try simp only [cq])
              refine tkN 14 (some 154) ?_
              (try simp only [cq])
              refine tkN 15 (some 155) ?_
              (try simp only [cq])
              refine tkY 16 (some 156) ?_ ?_ ?_
              rotate_left
              · intro w _; go_simp; (try with_reducible rfl)
              (try simp only [cq])
              refine tkY 17 (some 15) ?_ ?_ ?_
              rotate_left
              · intro w _; go_simp; (try with_reducible rfl)
              (try simp only [cq])
              refine wpAnyH_done (by kernel_rfl) ?_ _
              (try dsimp only [Act.put])
              (try simp only [cq])
              go_wp2_with fail
              go_meet
              exact ⟨false, rfl, fun h => by simp at h, hH⟩
          case rest =>
            clear hB HF HT HD
            obtain ⟨ap2, rfl, hap2, hB⟩ := hcut
            have r1 := cell_later hB R1.out
            have r2 := cell_later hB R2.out
            have r3 := cell_later hB R3.out
            have hk1 : (k : Int) < (n : Int) + 1 := by omega
            have z1 := World.block_lt_of_cell? _ _ r1
            have z2 := World.block_lt_of_cell? _ _ r2
            have z3 := World.block_lt_of_cell? _ _ r3
            clear R1 R2 R3 HL0
            by_cases h1 : yv = 1
            · have hx := HV2.out h1
              subst h1 hx
              clear HV2 HV3
              go_upto_region 21 with fail
              refine wp_region_held_drew (S := (fun v => v.cell? ⟨b1, o1 + k, none⟩ = some (.int .i64 1) ∧ v.cell? ⟨b2, o2 + k, none⟩ = some (.int .i64 1) ∧ v.cell? ⟨b3, o3 + j, none⟩ = some (.int .i64 1) ∧ Below V9.heap.size V9 v)) (by kernel_rfl) ?_ (fun hH => ?_)
              · (try dsimp only); (exact ⟨r1, r2, r3, hB.drew⟩)
              refine tkY 0 (some 157) ?_ ?_ ?_
              rotate_left
              · intro w _; go_simp; (try with_reducible rfl)
              (try simp only [cq])
              refine tkY 1 (some 158) ?_ ?_ ?_
              rotate_left
              · intro w _; go_simp; (try with_reducible rfl)
              (try simp only [cq])
              refine tkY 2 (some 159) ?_ ?_ ?_
              rotate_left
              · intro w hS0; (try dsimp only at hS0); obtain ⟨g1, g2, g3, _⟩ := hS0; have y1 := World.block_lt_of_cell? _ _ g1; have y2 := World.block_lt_of_cell? _ _ g2; have y3 := World.block_lt_of_cell? _ _ g3;go_simp; (try with_reducible rfl)
              (try simp only [cq])
              refine tkY 3 (some 160) ?_ ?_ ?_
              rotate_left
              · intro w _; go_simp; (try with_reducible rfl)
              (try simp only [cq])
              refine tkY 4 (some 161) ?_ ?_ ?_
              rotate_left
              · intro w _; go_simp; (try with_reducible rfl)
              (try simp only [cq])
              refine tkY 5 (some 162) ?_ ?_ ?_
              rotate_left
              · intro w _; go_simp; (try with_reducible rfl)
              (try simp only [cq])
              refine tkY 6 (some 163) ?_ ?_ ?_
              rotate_left
              · intro w hS0; (try dsimp only at hS0); obtain ⟨g1, g2, g3, _⟩ := hS0; have y1 := World.block_lt_of_cell? _ _ g1; have y2 := World.block_lt_of_cell? _ _ g2; have y3 := World.block_lt_of_cell? _ _ g3;go_simp; (try with_reducible rfl)
              (try simp only [cq])
              refine tkY 7 (some 164) ?_ ?_ ?_
              rotate_left
              · intro w hS0; (try dsimp only at hS0); obtain ⟨g1, g2, g3, _⟩ := hS0; have y1 := World.block_lt_of_cell? _ _ g1; have y2 := World.block_lt_of_cell? _ _ g2; have y3 := World.block_lt_of_cell? _ _ g3;go_simp; (try with_reducible rfl)
              (try simp only [cq])
              refine tkY 8 (some 165) ?_ ?_ ?_
              rotate_left
              · intro w _; go_simp; (try with_reducible rfl)
              (try simp only [cq])
              refine tkY 9 (some 166) ?_ ?_ ?_
              rotate_left
              · intro w _; go_simp; (try with_reducible rfl)
              (try simp only [cq])
              refine tkY 10 (some 167) ?_ ?_ ?_
              rotate_left
              · intro w hS0; (try dsimp only at hS0); obtain ⟨g1, g2, g3, _⟩ := hS0; have y1 := World.block_lt_of_cell? _ _ g1; have y2 := World.block_lt_of_cell? _ _ g2; have y3 := World.block_lt_of_cell? _ _ g3;go_simp; (try with_reducible rfl)
              (try simp only [cq])
              refine tkY 11 (some 168) ?_ ?_ ?_
              rotate_left
              · intro w hS0; (try dsimp only at hS0); obtain ⟨g1, g2, g3, _⟩ := hS0; have y1 := World.block_lt_of_cell? _ _ g1; have y2 := World.block_lt_of_cell? _ _ g2; have y3 := World.block_lt_of_cell? _ _ g3;go_simp; (try with_reducible rfl)
              (try simp only [cq])
              refine tkY 12 (some 169) ?_ ?_ ?_
              rotate_left
              · intro w _; go_simp; (try with_reducible rfl)
              (try simp only [cq])
              refine tkY 13 (some 170) ?_ ?_ ?_
              rotate_left
              · intro w _; go_simp; (try with_reducible rfl)
              (try simp only [cq])
              refine tkY 14 (some 171) ?_ ?_ ?_
              rotate_left
              · intro w _; go_simp; (try with_reducible rfl)
              (try simp only [cq])
              refine tkY 15 (some 172) ?_ ?_ ?_
              rotate_left
              · intro w _; go_simp; (try with_reducible rfl)
              (try simp only [cq])
              refine tkY 16 (some 173) ?_ ?_ ?_
              rotate_left
              · intro w hS0; (try dsimp only at hS0); obtain ⟨g1, g2, g3, _⟩ := hS0; have y1 := World.block_lt_of_cell? _ _ g1; have y2 := World.block_lt_of_cell? _ _ g2; have y3 := World.block_lt_of_cell? _ _ g3;go_simp; (try with_reducible rfl)
              (try simp only [cq])
              refine tkY 17 (some 174) ?_ ?_ ?_
              rotate_left
              · intro w hS0; (try dsimp only at hS0); obtain ⟨g1, g2, g3, _⟩ := hS0; have y1 := World.block_lt_of_cell? _ _ g1; have y2 := World.block_lt_of_cell? _ _ g2; have y3 := World.block_lt_of_cell? _ _ g3;go_simp; (try with_reducible rfl)
              (try simp only [cq])
              refine tkY 18 (some 175) ?_ ?_ ?_
              rotate_left
              · intro w _; go_simp; (try with_reducible rfl)
              (try simp only [cq])
              refine tkY 19 (some 176) ?_ ?_ ?_
              rotate_left
              · intro w _; go_simp; (try with_reducible rfl)
              (try simp only [cq])
              refine tkY 20 (some 177) ?_ ?_ ?_
              rotate_left
              · intro w _; go_simp; (try with_reducible rfl)
              (try simp only [cq])
              refine tkY 21 (some 178) ?_ ?_ ?_
              rotate_left
              · intro w _; go_simp; (try with_reducible rfl)
              (try simp only [cq])
              refine tkY 22 (some 179) ?_ ?_ ?_
              rotate_left
              · intro w hS0; (try dsimp only at hS0); obtain ⟨g1, g2, g3, _⟩ := hS0; have y1 := World.block_lt_of_cell? _ _ g1; have y2 := World.block_lt_of_cell? _ _ g2; have y3 := World.block_lt_of_cell? _ _ g3;go_simp; (try with_reducible rfl)
              (try simp only [cq])
              refine tkY 23 (some 180) ?_ ?_ ?_
              rotate_left
              · intro w hS0; (try dsimp only at hS0); obtain ⟨g1, g2, g3, _⟩ := hS0; have y1 := World.block_lt_of_cell? _ _ g1; have y2 := World.block_lt_of_cell? _ _ g2; have y3 := World.block_lt_of_cell? _ _ g3;go_simp; (try with_reducible rfl)
              (try simp only [cq])
              refine tkY 24 (some 181) ?_ ?_ ?_
              rotate_left
              · intro w _; go_simp; (try with_reducible rfl)
              (try simp only [cq])
              refine tkY 25 (some 182) ?_ ?_ ?_
              rotate_left
              · intro w _; go_simp; (try with_reducible rfl)
              (try simp only [cq])
              refine tkY 26 (some 183) ?_ ?_ ?_
              rotate_left
              · intro w _; go_simp; (try with_reducible rfl)
              (try simp only [cq])
              refine tkY 27 (some 184) ?_ ?_ ?_
              rotate_left
              · intro w _; go_simp; (try with_reducible rfl)
              (try simp only [cq])
              refine tkY 28 (some 185) ?_ ?_ ?_
              rotate_left
              · intro w _; go_simp; (try with_reducible rfl)
              (try simp only [cq])
              refine tkY 29 (some 186) ?_ ?_ ?_
              rotate_left
              · intro w _; go_simp; (try with_reducible rfl)
              (try simp only [cq])
              refine tkY 30 (some 187) ?_ ?_ ?_
              rotate_left
              · intro w hS0; (try dsimp only at hS0); obtain ⟨g1, g2, g3, _⟩ := hS0; have y1 := World.block_lt_of_cell? _ _ g1; have y2 := World.block_lt_of_cell? _ _ g2; have y3 := World.block_lt_of_cell? _ _ g3;go_simp; (try with_reducible rfl)
              (try simp only [cq])
              refine tkY 31 (some 188) ?_ ?_ ?_
              rotate_left
              · intro w hS0; (try dsimp only at hS0); obtain ⟨g1, g2, g3, _⟩ := hS0; have y1 := World.block_lt_of_cell? _ _ g1; have y2 := World.block_lt_of_cell? _ _ g2; have y3 := World.block_lt_of_cell? _ _ g3;go_simp; (try with_reducible rfl)
              (try simp only [cq])
              refine tkY 32 (some 189) ?_ ?_ ?_
              rotate_left
              · intro w _; go_simp; (try with_reducible rfl)
              (try simp only [cq])
              refine tkY 33 (some 190) ?_ ?_ ?_
              rotate_left
              · intro w _; go_simp; (try with_reducible rfl)
              (try simp only [cq])
              refine tkN 34 (some 191) ?_
              (try simp only [cq])
              refine tkN 35 (some 192) ?_
              (try simp only [cq])
              refine tkN 36 (some 193) ?_
              (try simp only [cq])
              refine tkN 37 (some 194) ?_
              (try simp only [cq])
              refine tkN 38 (some 195) ?_
              (try simp only [cq])
              refine tkY 39 (some 196) ?_ ?_ ?_
              rotate_left
              · intro w _; go_simp; (try with_reducible rfl)
              (try simp only [cq])
              refine tkY 40 (some 197) ?_ ?_ ?_
              rotate_left
              · intro w _; go_simp; (try with_reducible rfl)
              (try simp only [cq])
              refine wpAnyH_done (by kernel_rfl) ?_ _
              (try dsimp only [Act.put])
              (try simp only [cq])
              have hB2 := hH.2.2.2
              clear hH r1 r2 r3 z1 z2 z3 hB
              go_wp2
              go_roundw
              case rel => exact ⟨ap2, k + 1, rfl, hap2, by omega, by go_num, hB2⟩
              case measure => simp [intOf]; omega
            · by_cases h2 : xv = 2
              · have hy := HV3.out h2
                subst h2 hy
                clear HV2 HV3 h1
                go_upto_region 21 with fail
                refine wp_region_held_drew (S := (fun v => v.cell? ⟨b1, o1 + k, none⟩ = some (.int .i64 2) ∧ v.cell? ⟨b2, o2 + k, none⟩ = some (.int .i64 2) ∧ v.cell? ⟨b3, o3 + j, none⟩ = some (.int .i64 2) ∧ Below V9.heap.size V9 v)) (by kernel_rfl) ?_ (fun hH => ?_)
                · (try dsimp only); (exact ⟨r1, r2, r3, hB.drew⟩)
                refine tkY 0 (some 157) ?_ ?_ ?_
                rotate_left
                · intro w _; go_simp; (try with_reducible rfl)
                (try simp only [cq])
                refine tkY 1 (some 158) ?_ ?_ ?_
                rotate_left
                · intro w _; go_simp; (try with_reducible rfl)
                (try simp only [cq])
                refine tkY 2 (some 159) ?_ ?_ ?_
                rotate_left
                · intro w hS0; (try dsimp only at hS0); obtain ⟨g1, g2, g3, _⟩ := hS0; have y1 := World.block_lt_of_cell? _ _ g1; have y2 := World.block_lt_of_cell? _ _ g2; have y3 := World.block_lt_of_cell? _ _ g3;go_simp; (try with_reducible rfl)
                (try simp only [cq])
                refine tkY 3 (some 160) ?_ ?_ ?_
                rotate_left
                · intro w _; go_simp; (try with_reducible rfl)
                (try simp only [cq])
                refine tkY 4 (some 161) ?_ ?_ ?_
                rotate_left
                · intro w _; go_simp; (try with_reducible rfl)
                (try simp only [cq])
                refine tkY 5 (some 162) ?_ ?_ ?_
                rotate_left
                · intro w _; go_simp; (try with_reducible rfl)
                (try simp only [cq])
                refine tkY 6 (some 163) ?_ ?_ ?_
                rotate_left
                · intro w hS0; (try dsimp only at hS0); obtain ⟨g1, g2, g3, _⟩ := hS0; have y1 := World.block_lt_of_cell? _ _ g1; have y2 := World.block_lt_of_cell? _ _ g2; have y3 := World.block_lt_of_cell? _ _ g3;go_simp; (try with_reducible rfl)
                (try simp only [cq])
                refine tkY 7 (some 164) ?_ ?_ ?_
                rotate_left
                · intro w hS0; (try dsimp only at hS0); obtain ⟨g1, g2, g3, _⟩ := hS0; have y1 := World.block_lt_of_cell? _ _ g1; have y2 := World.block_lt_of_cell? _ _ g2; have y3 := World.block_lt_of_cell? _ _ g3;go_simp; (try with_reducible rfl)
                (try simp only [cq])
                refine tkY 8 (some 165) ?_ ?_ ?_
                rotate_left
                · intro w _; go_simp; (try with_reducible rfl)
                (try simp only [cq])
                refine tkY 9 (some 166) ?_ ?_ ?_
                rotate_left
                · intro w _; go_simp; (try with_reducible rfl)
                (try simp only [cq])
                refine tkY 10 (some 167) ?_ ?_ ?_
                rotate_left
                · intro w hS0; (try dsimp only at hS0); obtain ⟨g1, g2, g3, _⟩ := hS0; have y1 := World.block_lt_of_cell? _ _ g1; have y2 := World.block_lt_of_cell? _ _ g2; have y3 := World.block_lt_of_cell? _ _ g3;go_simp; (try with_reducible rfl)
                (try simp only [cq])
                refine tkY 11 (some 168) ?_ ?_ ?_
                rotate_left
                · intro w hS0; (try dsimp only at hS0); obtain ⟨g1, g2, g3, _⟩ := hS0; have y1 := World.block_lt_of_cell? _ _ g1; have y2 := World.block_lt_of_cell? _ _ g2; have y3 := World.block_lt_of_cell? _ _ g3;go_simp; (try with_reducible rfl)
                (try simp only [cq])
                refine tkY 12 (some 169) ?_ ?_ ?_
                rotate_left
                · intro w _; go_simp; (try with_reducible rfl)
                (try simp only [cq])
                refine tkY 13 (some 170) ?_ ?_ ?_
                rotate_left
                · intro w _; go_simp; (try with_reducible rfl)
                (try simp only [cq])
                refine tkY 14 (some 171) ?_ ?_ ?_
                rotate_left
                · intro w _; go_simp; (try with_reducible rfl)
                (try simp only [cq])
                refine tkY 15 (some 172) ?_ ?_ ?_
                rotate_left
                · intro w _; go_simp; (try with_reducible rfl)
                (try simp only [cq])
                refine tkY 16 (some 173) ?_ ?_ ?_
                rotate_left
                · intro w hS0; (try dsimp only at hS0); obtain ⟨g1, g2, g3, _⟩ := hS0; have y1 := World.block_lt_of_cell? _ _ g1; have y2 := World.block_lt_of_cell? _ _ g2; have y3 := World.block_lt_of_cell? _ _ g3;go_simp; (try with_reducible rfl)
                (try simp only [cq])
                refine tkY 17 (some 174) ?_ ?_ ?_
                rotate_left
                · intro w hS0; (try dsimp only at hS0); obtain ⟨g1, g2, g3, _⟩ := hS0; have y1 := World.block_lt_of_cell? _ _ g1; have y2 := World.block_lt_of_cell? _ _ g2; have y3 := World.block_lt_of_cell? _ _ g3;go_simp; (try with_reducible rfl)
                (try simp only [cq])
                refine tkY 18 (some 175) ?_ ?_ ?_
                rotate_left
                · intro w _; go_simp; (try with_reducible rfl)
                (try simp only [cq])
                refine tkY 19 (some 176) ?_ ?_ ?_
                rotate_left
                · intro w _; go_simp; (try with_reducible rfl)
                (try simp only [cq])
                refine tkN 20 (some 177) ?_
                (try simp only [cq])
                refine tkN 21 (some 178) ?_
                (try simp only [cq])
                refine tkN 22 (some 179) ?_
                (try simp only [cq])
                refine tkN 23 (some 180) ?_
                (try simp only [cq])
                refine tkN 24 (some 181) ?_
                (try simp only [cq])
                refine tkY 25 (some 182) ?_ ?_ ?_
                rotate_left
                · intro w _; go_simp; (try with_reducible rfl)
                (try simp only [cq])
                refine tkY 26 (some 183) ?_ ?_ ?_
                rotate_left
                · intro w _; go_simp; (try with_reducible rfl)
                (try simp only [cq])
                refine tkY 27 (some 184) ?_ ?_ ?_
                rotate_left
                · intro w _; go_simp; (try with_reducible rfl)
                (try simp only [cq])
                refine tkY 28 (some 185) ?_ ?_ ?_
                rotate_left
                · intro w _; go_simp; (try with_reducible rfl)
                (try simp only [cq])
                refine tkY 29 (some 186) ?_ ?_ ?_
                rotate_left
                · intro w _; go_simp; (try with_reducible rfl)
                (try simp only [cq])
                refine tkY 30 (some 187) ?_ ?_ ?_
                rotate_left
                · intro w hS0; (try dsimp only at hS0); obtain ⟨g1, g2, g3, _⟩ := hS0; have y1 := World.block_lt_of_cell? _ _ g1; have y2 := World.block_lt_of_cell? _ _ g2; have y3 := World.block_lt_of_cell? _ _ g3;go_simp; (try with_reducible rfl)
                (try simp only [cq])
                refine tkY 31 (some 188) ?_ ?_ ?_
                rotate_left
                · intro w hS0; (try dsimp only at hS0); obtain ⟨g1, g2, g3, _⟩ := hS0; have y1 := World.block_lt_of_cell? _ _ g1; have y2 := World.block_lt_of_cell? _ _ g2; have y3 := World.block_lt_of_cell? _ _ g3;go_simp; (try with_reducible rfl)
                (try simp only [cq])
                refine tkY 32 (some 189) ?_ ?_ ?_
                rotate_left
                · intro w _; go_simp; (try with_reducible rfl)
                (try simp only [cq])
                refine tkY 33 (some 190) ?_ ?_ ?_
                rotate_left
                · intro w _; go_simp; (try with_reducible rfl)
                (try simp only [cq])
                refine tkY 34 (some 191) ?_ ?_ ?_
                rotate_left
                · intro w _; go_simp; (try with_reducible rfl)
                (try simp only [cq])
                refine tkY 35 (some 192) ?_ ?_ ?_
                rotate_left
                · intro w _; go_simp; (try with_reducible rfl)
                (try simp only [cq])
                refine tkY 36 (some 193) ?_ ?_ ?_
                rotate_left
                · intro w hS0; (try dsimp only at hS0); obtain ⟨g1, g2, g3, _⟩ := hS0; have y1 := World.block_lt_of_cell? _ _ g1; have y2 := World.block_lt_of_cell? _ _ g2; have y3 := World.block_lt_of_cell? _ _ g3;go_simp; (try with_reducible rfl)
                (try simp only [cq])
                refine tkY 37 (some 194) ?_ ?_ ?_
                rotate_left
                · intro w hS0; (try dsimp only at hS0); obtain ⟨g1, g2, g3, _⟩ := hS0; have y1 := World.block_lt_of_cell? _ _ g1; have y2 := World.block_lt_of_cell? _ _ g2; have y3 := World.block_lt_of_cell? _ _ g3;go_simp; (try with_reducible rfl)
                (try simp only [cq])
                refine tkY 38 (some 195) ?_ ?_ ?_
                rotate_left
                · intro w _; go_simp; (try with_reducible rfl)
                (try simp only [cq])
                refine tkY 39 (some 196) ?_ ?_ ?_
                rotate_left
                · intro w _; go_simp; (try with_reducible rfl)
                (try simp only [cq])
                refine tkY 40 (some 197) ?_ ?_ ?_
                rotate_left
                · intro w _; go_simp; (try with_reducible rfl)
                (try simp only [cq])
                refine wpAnyH_done (by kernel_rfl) ?_ _
                (try dsimp only [Act.put])
                (try simp only [cq])
                have hB2 := hH.2.2.2
                clear hH r1 r2 r3 z1 z2 z3 hB
                go_wp2
                go_roundw
                case rel => exact ⟨ap2, k + 1, rfl, hap2, by omega, by go_num, hB2⟩
                case measure => simp [intOf]; omega
              · have e1 : (yv == 1) = false := by simpa using h1
                have e2 : (xv == 2) = false := by simpa using h2
                clear HV2 HV3 h1 h2
                go_upto_region 21 with fail
                refine wp_region_held_drew (S := (fun v => v.cell? ⟨b1, o1 + k, none⟩ = some (.int .i64 xv) ∧ v.cell? ⟨b2, o2 + k, none⟩ = some (.int .i64 yv) ∧ v.cell? ⟨b3, o3 + j, none⟩ = some (.int .i64 xv) ∧ Below V9.heap.size V9 v)) (by kernel_rfl) ?_ (fun hH => ?_)
                · (try dsimp only); (exact ⟨r1, r2, r3, hB.drew⟩)
                refine tkY 0 (some 157) ?_ ?_ ?_
                rotate_left
                · intro w _; go_simp; (try with_reducible rfl)
                (try simp only [cq])
                refine tkY 1 (some 158) ?_ ?_ ?_
                rotate_left
                · intro w _; go_simp; (try with_reducible rfl)
                (try simp only [cq])
                refine tkY 2 (some 159) ?_ ?_ ?_
                rotate_left
                · intro w hS0; (try dsimp only at hS0); obtain ⟨g1, g2, g3, _⟩ := hS0; have y1 := World.block_lt_of_cell? _ _ g1; have y2 := World.block_lt_of_cell? _ _ g2; have y3 := World.block_lt_of_cell? _ _ g3;go_simp; (try with_reducible rfl)
                (try simp only [cq])
                refine tkY 3 (some 160) ?_ ?_ ?_
                rotate_left
                · intro w _; go_simp; (try with_reducible rfl)
                (try simp only [cq])
                refine tkY 4 (some 161) ?_ ?_ ?_
                rotate_left
                · intro w _; go_simp; (try with_reducible rfl)
                (try simp only [cq])
                refine tkY 5 (some 162) ?_ ?_ ?_
                rotate_left
                · intro w _; go_simp; (try with_reducible rfl)
                (try simp only [cq])
                refine tkY 6 (some 163) ?_ ?_ ?_
                rotate_left
                · intro w hS0; (try dsimp only at hS0); obtain ⟨g1, g2, g3, _⟩ := hS0; have y1 := World.block_lt_of_cell? _ _ g1; have y2 := World.block_lt_of_cell? _ _ g2; have y3 := World.block_lt_of_cell? _ _ g3;go_simp; (try with_reducible rfl)
                (try simp only [cq])
                refine tkY 7 (some 164) ?_ ?_ ?_
                rotate_left
                · intro w hS0; (try dsimp only at hS0); obtain ⟨g1, g2, g3, _⟩ := hS0; have y1 := World.block_lt_of_cell? _ _ g1; have y2 := World.block_lt_of_cell? _ _ g2; have y3 := World.block_lt_of_cell? _ _ g3;go_simp; (try with_reducible rfl)
                (try simp only [cq])
                refine tkY 8 (some 165) ?_ ?_ ?_
                rotate_left
                · intro w _; go_simp; (try with_reducible rfl)
                (try simp only [cq])
                refine tkY 9 (some 166) ?_ ?_ ?_
                rotate_left
                · intro w _; go_simp; (try with_reducible rfl)
                (try simp only [cq])
                refine tkY 10 (some 167) ?_ ?_ ?_
                rotate_left
                · intro w hS0; (try dsimp only at hS0); obtain ⟨g1, g2, g3, _⟩ := hS0; have y1 := World.block_lt_of_cell? _ _ g1; have y2 := World.block_lt_of_cell? _ _ g2; have y3 := World.block_lt_of_cell? _ _ g3;go_simp; (try with_reducible rfl)
                (try simp only [cq])
                refine tkY 11 (some 168) ?_ ?_ ?_
                rotate_left
                · intro w hS0; (try dsimp only at hS0); obtain ⟨g1, g2, g3, _⟩ := hS0; have y1 := World.block_lt_of_cell? _ _ g1; have y2 := World.block_lt_of_cell? _ _ g2; have y3 := World.block_lt_of_cell? _ _ g3;go_simp; (try with_reducible rfl)
                (try simp only [cq])
                refine tkY 12 (some 169) ?_ ?_ ?_
                rotate_left
                · intro w _; go_simp; (try with_reducible rfl)
                (try simp only [cq])
                refine tkY 13 (some 170) ?_ ?_ ?_
                rotate_left
                · intro w _; go_simp; (try with_reducible rfl)
                (try simp only [cq])
                refine tkY 14 (some 171) ?_ ?_ ?_
                rotate_left
                · intro w _; go_simp; (try with_reducible rfl)
                (try simp only [cq])
                refine tkY 15 (some 172) ?_ ?_ ?_
                rotate_left
                · intro w _; go_simp; (try with_reducible rfl)
                (try simp only [cq])
                refine tkY 16 (some 173) ?_ ?_ ?_
                rotate_left
                · intro w hS0; (try dsimp only at hS0); obtain ⟨g1, g2, g3, _⟩ := hS0; have y1 := World.block_lt_of_cell? _ _ g1; have y2 := World.block_lt_of_cell? _ _ g2; have y3 := World.block_lt_of_cell? _ _ g3;go_simp; (try with_reducible rfl)
                (try simp only [cq])
                refine tkY 17 (some 174) ?_ ?_ ?_
                rotate_left
                · intro w hS0; (try dsimp only at hS0); obtain ⟨g1, g2, g3, _⟩ := hS0; have y1 := World.block_lt_of_cell? _ _ g1; have y2 := World.block_lt_of_cell? _ _ g2; have y3 := World.block_lt_of_cell? _ _ g3;go_simp; (try with_reducible rfl)
                (try simp only [cq])
                refine tkY 18 (some 175) ?_ ?_ ?_
                rotate_left
                · intro w _; go_simp; (try with_reducible rfl)
                (try simp only [cq])
                refine tkY 19 (some 176) ?_ ?_ ?_
                rotate_left
                · intro w _; go_simp; (try with_reducible rfl)
                (try simp only [cq])
                refine tkN 20 (some 177) ?_
                (try simp only [cq])
                refine tkN 21 (some 178) ?_
                (try simp only [cq])
                refine tkN 22 (some 179) ?_
                (try simp only [cq])
                refine tkN 23 (some 180) ?_
                (try simp only [cq])
                refine tkN 24 (some 181) ?_
                (try simp only [cq])
                refine tkY 25 (some 182) ?_ ?_ ?_
                rotate_left
                · intro w _; go_simp; (try with_reducible rfl)
                (try simp only [cq])
                refine tkY 26 (some 183) ?_ ?_ ?_
                rotate_left
                · intro w _; go_simp; (try with_reducible rfl)
                (try simp only [cq])
                refine tkY 27 (some 184) ?_ ?_ ?_
                rotate_left
                · intro w _; go_simp; (try with_reducible rfl)
                (try simp only [cq])
                refine tkY 28 (some 185) ?_ ?_ ?_
                rotate_left
                · intro w _; go_simp; (try with_reducible rfl)
                (try simp only [cq])
                refine tkY 29 (some 186) ?_ ?_ ?_
                rotate_left
                · intro w _; go_simp; (try with_reducible rfl)
                (try simp only [cq])
                refine tkY 30 (some 187) ?_ ?_ ?_
                rotate_left
                · intro w hS0; (try dsimp only at hS0); obtain ⟨g1, g2, g3, _⟩ := hS0; have y1 := World.block_lt_of_cell? _ _ g1; have y2 := World.block_lt_of_cell? _ _ g2; have y3 := World.block_lt_of_cell? _ _ g3;go_simp; (try with_reducible rfl)
                (try simp only [cq])
                refine tkY 31 (some 188) ?_ ?_ ?_
                rotate_left
                · intro w hS0; (try dsimp only at hS0); obtain ⟨g1, g2, g3, _⟩ := hS0; have y1 := World.block_lt_of_cell? _ _ g1; have y2 := World.block_lt_of_cell? _ _ g2; have y3 := World.block_lt_of_cell? _ _ g3;go_simp; (try with_reducible rfl)
                (try simp only [cq])
                refine tkY 32 (some 189) ?_ ?_ ?_
                rotate_left
                · intro w _; go_simp; (try with_reducible rfl)
                (try simp only [cq])
                refine tkY 33 (some 190) ?_ ?_ ?_
                rotate_left
                · intro w _; go_simp; (try with_reducible rfl)
                (try simp only [cq])
                refine tkN 34 (some 191) ?_
                (try simp only [cq])
                refine tkN 35 (some 192) ?_
                (try simp only [cq])
                refine tkN 36 (some 193) ?_
                (try simp only [cq])
                refine tkN 37 (some 194) ?_
                (try simp only [cq])
                refine tkN 38 (some 195) ?_
                (try simp only [cq])
                refine tkY 39 (some 196) ?_ ?_ ?_
                rotate_left
                · intro w _; go_simp; (try with_reducible rfl)
                (try simp only [cq])
                refine tkY 40 (some 197) ?_ ?_ ?_
                rotate_left
                · intro w _; go_simp; (try with_reducible rfl)
                (try simp only [cq])
                refine wpAnyH_done (by kernel_rfl) ?_ _
                (try dsimp only [Act.put])
                (try simp only [cq])
                have hB2 := hH.2.2.2
                clear hH r1 r2 r3 z1 z2 z3 hB
                go_wp2
                go_roundw
                case rel => exact ⟨ap2, k + 1, rfl, hap2, by omega, by go_num, hB2⟩
                case measure => simp [intOf]; omega
        · obtain rfl : k = n := by omega
          clear HVe HF0 HT0 HLm RZ HR HJ
          cases ap with
          | true =>
            have HE := Lib.hid (hap rfl)
            clear hap
            obtain ⟨aT, cT, hTs, rT⟩ := ints_head RY.out k (by omega)
            have S1 : ∀ W, (Instr.slice 27 (.slice aQ (k + 1) cQ) none (some (.int .i64 (k : Int))) none).run Try.prog W = .ok (.slice aT k cT) W := fun W => by rw [← hTs]; exact slice_int aQ (k + 1) cQ k (by obtain ⟨_, _, hq, h9, _, _⟩ := RY.out; simp only [Value.slice.injEq] at hq; omega) W
            have HS : Hid (∀ W, Below V9.heap.size V9 W → Calls Try.prog 37 #[.slice aR k cR, .slice aT k cT] W fun e w' => e = .returned (.bool true) ∧ Below W.heap.size W w') := fun W hW => ksame_yes _ _ k X W (IntsAt.later (show IntsAt V9 (.slice aR k cR) k X from RX.out) hW) ((IntsAt.later rT hW).congr (fun i hi => HE.out i hi))
            clear hTs rT HE RX RY
            go_wp2_with fail
            refine (HS.out _ hB).mono ?_
            rintro e w19 ⟨rfl, hb⟩
            replace hB := bwS hB (Nat.le_refl _) hb
            clear hb HS S1
            have jB := bwS HB.out (by have := HB.out.size; omega) hB
            clear hB
            go_wp2_with fail
            refine (awake_any _).mono ?_
            rintro e w20 ⟨rfl, hb⟩
            replace jB := bwS jB (Nat.le_refl _) hb
            go_wp2
            go_ret
            exact ⟨rfl, jB⟩
          | false =>
            have jB := bwS HB.out (by have := HB.out.size; omega) hB
            clear hB hap RX RY
            go_wp2_with fail
            refine (awake_any _).mono ?_
            rintro e w20 ⟨rfl, hb⟩
            replace jB := bwS jB (Nat.le_refl _) hb
            go_wp2
            go_ret
            exact ⟨rfl, jB⟩
end Go.Proofs.Ytfakmggabicdjaa
