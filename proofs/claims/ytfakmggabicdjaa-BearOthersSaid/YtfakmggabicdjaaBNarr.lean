/-
  BearNarrows says yes.
-/
import Derived.Test.YtfakmggabicdjaaTail
import Derived.Test.YtfakmggabicdjaaBTruth
import Derived.Test.YtfakmggabicdjaaNarV
set_option linter.unusedVariables false
set_option linter.unusedSimpArgs false
namespace Go.Proofs.Ytfakmggabicdjaa
open Go.RowKit

theorem row_kept {W w' : World} {r : Option Nat} {base s n : Nat} {e : TypeId} {v : Value} {xs : List Value} (h : W.ownsRow base e s v n xs) (g : W.grownBy w' r) (hne : ∀ k, v.ownBlock = some k → r ≠ some k) : w'.ownsRow base e s v n xs :=
  h.kept g (by
    cases hv : v.ownBlock with
    | none => exact .inl rfl
    | some k => exact .inr (fun e => hne k hv e.symm))
theorem Rows.put {base : Nat} {w : World} {p : Pl} {vS vC vI vK vL : Value} {ni : Nat} {I0 I1 : Nat → Int} {nc : Nat} {C0 C1 : Nat → Int} {n : Nat} {L : Nat → Ld} (h : Rows w base p vS vC vI vK vL ni I0 I1 nc C0 C1 n L) {b : Nat} {C : Array Value} {t : TypeId} (k : Blk w b C t) (h1 : t ≠ 68) (h2 : t ≠ 23) (h3 : t ≠ 53) (j : Nat) (u : Value) : Rows (w.setCell ⟨b, j, none⟩ u) base p vS vC vI vK vL ni I0 I1 nc C0 C1 n L :=
  ⟨row_put h.S k h1 j u, row_put h.C k h1 j u, row_put h.I k h2 j u, row_put h.K k h2 j u, row_put h.L k h3 j u⟩
theorem Rows.putL {base : Nat} {w : World} {p : Pl} {vS vC vI vK vL : Value} {ni : Nat} {I0 I1 : Nat → Int} {nc : Nat} {C0 C1 : Nat → Int} {n : Nat} {L : Nat → Ld} (h : Rows w base p vS vC vI vK vL ni I0 I1 nc C0 C1 n L) {b : Nat} {C : Array Value} (k : Blk w b C 53) (hL : ∀ q, vL.ownBlock = some q → q < b) (j : Nat) (u : Value) : Rows (w.setCell ⟨b, j, none⟩ u) base p vS vC vI vK vL ni I0 I1 nc C0 C1 n L :=
  ⟨row_put h.S k (by decide) j u, row_put h.C k (by decide) j u, row_put h.I k (by decide) j u, row_put h.K k (by decide) j u, ownsRow_other h.L _ _ (fun q e => hL q e)⟩
theorem Rows.grown {base : Nat} {w : World} {p : Pl} {vS vC vI vK vL : Value} {ni : Nat} {I0 I1 : Nat → Int} {nc : Nat} {C0 C1 : Nat → Int} {n : Nat} {L : Nat → Ld} (h : Rows w base p vS vC vI vK vL ni I0 I1 nc C0 C1 n L) {w' : World} {r : Option Nat} (g : w.grownBy w' r) (B : Nat) (hr : ∀ q, r = some q → B ≤ q) (hS : ∀ q, vS.ownBlock = some q → q < B) (hC : ∀ q, vC.ownBlock = some q → q < B) (hI : ∀ q, vI.ownBlock = some q → q < B) (hK : ∀ q, vK.ownBlock = some q → q < B) (hL : ∀ q, vL.ownBlock = some q → q < B) : Rows w' base p vS vC vI vK vL ni I0 I1 nc C0 C1 n L :=
  ⟨row_kept h.S g (fun k e f => by have := hr k f; have := hS k e; omega), row_kept h.C g (fun k e f => by have := hr k f; have := hC k e; omega), row_kept h.I g (fun k e f => by have := hr k f; have := hI k e; omega), row_kept h.K g (fun k e f => by have := hr k f; have := hK k e; omega), row_kept h.L g (fun k e f => by have := hr k f; have := hL k e; omega)⟩
theorem SeedAt.put {bs : Nat} {w : World} (h : SeedAt bs w) {b : Nat} {C : Array Value} {t : TypeId} (k : Blk w b C t) (ht : 92 ≠ t) (j : Nat) (u : Value) : SeedAt bs (w.setCell ⟨b, j, none⟩ u) := by
  obtain ⟨x, q⟩ := h
  exact ⟨x, q.other _ _ (blk_ne q k ht)⟩

set_option maxRecDepth 100000 in
set_option maxHeartbeats 16000000 in
theorem bnarr_any (a : Option Addr) (len cap : Nat) (w : World) (hn : NumsAt w a len) :
    Calls Try.prog 11 #[.slice a len cap] w fun e w' => e = .returned (.bool true) ∧ Below w.heap.size w w' := by
  go_enter Try.func11, Try.ntmps11
  go_wp2_with fail
  refine (newseed_at a len cap _ hn).mono ?_
  rintro e w1 ⟨rfl, hS, jB⟩
  clear hn
  obtain ⟨bs, hbs⟩ : ∃ b, w.heap.size = b := ⟨_, rfl⟩
  have zwbs : w.heap.size ≤ bs := by omega
  rw [hbs] at hS ⊢
  have hb1 : bs < w1.heap.size := hS.choose_spec.lt
  have HBS := Lib.hid hbs
  clear hbs
  go_wp2_with fail
  refine (madeof_in bs w1 hS).mono ?_
  rintro e w2 ⟨p, vS, vC, vI, vK, vL, ni, I0, I1, nc, C0, C1, n, L, rfl, hM, hR, hd⟩
  replace jB := Drawn.below jB hd zwbs
  replace hS := hd.seed
  replace hR := hR.base (b2 := bs + 1) (by omega)
  clear hd
  obtain ⟨aS, cS, rfl, _, _, _⟩ := pairs_of_row hR.S
  obtain ⟨aC, cC, rfl, _, _, _⟩ := pairs_of_row hR.C
  obtain ⟨aI, cI, rfl, _, _, _⟩ := pairs_of_row hR.I
  obtain ⟨aK, cK, rfl, _, _, _⟩ := pairs_of_row hR.K
  obtain ⟨aL, cL, rfl, _, _, _⟩ := loads_of_row hR.L
  have jX := Blk.new w2 #[.int .i64 p.s0, .int .i64 p.s1, (.slice aS p.S.n cS), (.slice aC p.C.n cC), .int .i64 p.ne, .int .i64 p.ed, .int .i64 p.gr, .int .i64 p.lo, .int .i64 p.hi, .int .i64 p.sh, .int .i64 p.wi, (.slice aI ni cI), (.slice aK nc cK), (.slice aL n cL)] 71
  go_upto_region 3 with fail
  obtain ⟨bX, hbX⟩ : ∃ b, w2.heap.size = b := ⟨_, rfl⟩
  have zX : bs < bX := by rw [← hbX]; exact hS.choose_spec.lt
  rw [hbX] at jX
  (try rw [hbX])
  clear hbX
  replace hR := hR.alloc (.cells #[.int .i64 p.s0, .int .i64 p.s1, (.slice aS p.S.n cS), (.slice aC p.C.n cC), .int .i64 p.ne, .int .i64 p.ed, .int .i64 p.gr, .int .i64 p.lo, .int .i64 p.hi, .int .i64 p.sh, .int .i64 p.wi, (.slice aI ni cI), (.slice aK nc cK), (.slice aL n cL)] 71)
  replace hS : SeedAt bs _ := hS.imp fun _ h => h.alloc (.cells #[.int .i64 p.s0, .int .i64 p.s1, (.slice aS p.S.n cS), (.slice aC p.C.n cC), .int .i64 p.ne, .int .i64 p.ed, .int .i64 p.gr, .int .i64 p.lo, .int .i64 p.hi, .int .i64 p.sh, .int .i64 p.wi, (.slice aI ni cI), (.slice aK nc cK), (.slice aL n cL)] 71)
  replace jB := bwA jB (Nat.le_refl _) (.cells #[.int .i64 p.s0, .int .i64 p.s1, (.slice aS p.S.n cS), (.slice aC p.C.n cC), .int .i64 p.ne, .int .i64 p.ed, .int .i64 p.gr, .int .i64 p.lo, .int .i64 p.hi, .int .i64 p.sh, .int .i64 p.wi, (.slice aI ni cI), (.slice aK nc cK), (.slice aL n cL)] 71)
  generalize w2.alloc (.cells #[.int .i64 p.s0, .int .i64 p.s1, (.slice aS p.S.n cS), (.slice aC p.C.n cC), .int .i64 p.ne, .int .i64 p.ed, .int .i64 p.gr, .int .i64 p.lo, .int .i64 p.hi, .int .i64 p.sh, .int .i64 p.wi, (.slice aI ni cI), (.slice aK nc cK), (.slice aL n cL)] 71) = V at jX hR hS jB ⊢
  obtain ⟨m0, m1, m2, m3, m4, m5, m6, m7, m8, m9, m10, m11, m12, m13⟩ := jX.c14
  have zM := jX.lt
  go_upto_region 4 with fail
  clear m0 m1 m2 m3 m4 m5 m6 m7 m8 m9 m10 m11 m12 m13 zM
  obtain ⟨bP, hbP⟩ : ∃ b, V.heap.size = b := ⟨_, rfl⟩
  have zXP : bX < bP := by rw [← hbP]; exact jX.lt
  have zwP : w.heap.size ≤ bP := by rw [← hbP]; exact jB.size
  have jP := Blk.new V #[.int .i64 p.s0, .int .i64 p.s1, (.slice aS p.S.n cS), (.slice aC p.C.n cC), .int .i64 p.ne, .int .i64 p.ed, .int .i64 p.gr, .int .i64 p.lo, .int .i64 p.hi, .int .i64 p.sh, .int .i64 p.wi] 26
  rw [hbP] at jP
  (try rw [hbP])
  clear hbP
  replace jX := jX.alloc (.cells #[.int .i64 p.s0, .int .i64 p.s1, (.slice aS p.S.n cS), (.slice aC p.C.n cC), .int .i64 p.ne, .int .i64 p.ed, .int .i64 p.gr, .int .i64 p.lo, .int .i64 p.hi, .int .i64 p.sh, .int .i64 p.wi] 26)
  replace hR := hR.alloc (.cells #[.int .i64 p.s0, .int .i64 p.s1, (.slice aS p.S.n cS), (.slice aC p.C.n cC), .int .i64 p.ne, .int .i64 p.ed, .int .i64 p.gr, .int .i64 p.lo, .int .i64 p.hi, .int .i64 p.sh, .int .i64 p.wi] 26)
  replace hS : SeedAt bs _ := hS.imp fun _ h => h.alloc (.cells #[.int .i64 p.s0, .int .i64 p.s1, (.slice aS p.S.n cS), (.slice aC p.C.n cC), .int .i64 p.ne, .int .i64 p.ed, .int .i64 p.gr, .int .i64 p.lo, .int .i64 p.hi, .int .i64 p.sh, .int .i64 p.wi] 26)
  replace jB := bwA jB (Nat.le_refl _) (.cells #[.int .i64 p.s0, .int .i64 p.s1, (.slice aS p.S.n cS), (.slice aC p.C.n cC), .int .i64 p.ne, .int .i64 p.ed, .int .i64 p.gr, .int .i64 p.lo, .int .i64 p.hi, .int .i64 p.sh, .int .i64 p.wi] 26)
  generalize V.alloc (.cells #[.int .i64 p.s0, .int .i64 p.s1, (.slice aS p.S.n cS), (.slice aC p.C.n cC), .int .i64 p.ne, .int .i64 p.ed, .int .i64 p.gr, .int .i64 p.lo, .int .i64 p.hi, .int .i64 p.sh, .int .i64 p.wi] 26) = V1 at jX jP hR hS jB ⊢
  have hp0 := hM.hp.s0
  have hp1 := hM.hp.s1
  have hp2 := hM.hp.s01
  obtain ⟨c0, c1, c2, c3, c4, c5, c6, c7, c8, c9, c10⟩ := jP.c11
  have zP := jP.lt
  go_wp2_with fail
  clear c0 c1 c2 c3 c4 c5 c6 c7 c8 c9 c10 zP
  refine (kpart_in p.s0 p.s1 bs _ hS (by omega) (by omega) (by omega)).mono ?_
  rintro e w4 ⟨s0, s1, rfl, sy0, sy1, sy2, hd⟩
  replace jX := hd.blk jX (by omega)
  replace jP := hd.blk jP (by omega)
  replace hR := hR.drawn hd (by omega)
  replace jB := Drawn.below jB hd zwbs
  replace hS := hd.seed
  clear hd
  obtain ⟨c0, c1, c2, c3, c4, c5, c6, c7, c8, c9, c10⟩ := jP.c11
  have zP := jP.lt
  have f0 := jP.free 0
  have f1 := jP.free 1
  have kP : Blk _ bP #[.int .i64 s0, .int .i64 s1, (.slice aS p.S.n cS), (.slice aC p.C.n cC), .int .i64 p.ne, .int .i64 p.ed, .int .i64 p.gr, .int .i64 p.lo, .int .i64 p.hi, .int .i64 p.sh, .int .i64 p.wi] _ := (jP.set 0 (.int .i64 s0)).set 1 (.int .i64 s1)
  have kX := (jX.other ⟨bP, 0, none⟩ (.int .i64 s0) (by simp; omega)).other ⟨bP, 1, none⟩ (.int .i64 s1) (by simp; omega)
  have kR := (hR.put jP (by decide) (by decide) (by decide) 0 (.int .i64 s0)).put (jP.set 0 (.int .i64 s0)) (by decide) (by decide) (by decide) 1 (.int .i64 s1)
  have kS := (hS.put jP (by decide) 0 (.int .i64 s0)).put (jP.set 0 (.int .i64 s0)) (by decide) 1 (.int .i64 s1)
  have kB := (jB.setCell (p := ⟨bP, 0, none⟩) (by simp; omega) (.int .i64 s0)).setCell (p := ⟨bP, 1, none⟩) (by simp; omega) (.int .i64 s1)
  go_upto_region 5 with fail
  clear c0 c1 c2 c3 c4 c5 c6 c7 c8 c9 c10 zP f0 f1 jX jP hR hS jB
  generalize (w4.setCell ⟨bP, 0, none⟩ (.int .i64 s0)).setCell ⟨bP, 1, none⟩ (.int .i64 s1) = V2 at kP kX kR kS kB ⊢
  obtain ⟨m0, m1, m2, m3, m4, m5, m6, m7, m8, m9, m10, m11, m12, m13⟩ := kX.c14
  have zM := kX.lt
  have zP := kP.lt
  have jE : (V2.alloc (.cells #[] 53)).ownsRow V2.heap.size 53 4 (.slice (some ⟨V2.heap.size, 0, none⟩) 0 0) 0 [] :=
    ⟨rfl, .inr ⟨V2.heap.size, 0, #[], rfl, Nat.le_refl _, World.alloc_heap_new V2 _, Nat.le_refl _, Nat.zero_le _, rfl, rfl⟩⟩
  have hLd := (loads_of_row kR.L).later (show Below V2.heap.size V2 (V2.alloc (.cells #[] 53)) by (repeat (first | exact Below.refl _ _ | assumption | refine Below.drew ?_ | refine Below.drewN ?_ _ | refine blT ?_ | refine blU ?_)))
  have hn5 := hM.n5
  have qS : ∀ q, (Value.slice aS p.S.n cS).ownBlock = some q → q < V2.heap.size := fun q e => (kR.S.lt q e).2
  have qC : ∀ q, (Value.slice aC p.C.n cC).ownBlock = some q → q < V2.heap.size := fun q e => (kR.C.lt q e).2
  have qI : ∀ q, (Value.slice aI ni cI).ownBlock = some q → q < V2.heap.size := fun q e => (kR.I.lt q e).2
  have qK : ∀ q, (Value.slice aK nc cK).ownBlock = some q → q < V2.heap.size := fun q e => (kR.K.lt q e).2
  have qL : ∀ q, (Value.slice aL n cL).ownBlock = some q → q < V2.heap.size := fun q e => (kR.L.lt q e).2
  have zS : bs < V2.heap.size := kS.choose_spec.lt
  have zW := kB.size
  go_upto_region 6 with (at_builtin; refine append_loads rfl _ _ rfl rfl V2.heap.size _ 0 [] rfl jE _ n L rfl hLd (by omega) (by simp) ?_; intro own w5 hown hgrow; simp only [Nat.zero_add, List.nil_append] at hown)
  have hg2 : (V2.alloc (.cells #[] 53)).grownBy w5 (some V2.heap.size) := hgrow
  clear hgrow jE hLd m0 m1 m2 m3 m4 m5 m6 m7 m8 m9 m10 m11 m12 m13
  have hrr : ∀ q, (some V2.heap.size : Option Nat) = some q → V2.heap.size ≤ q := fun q e => by simp only [Option.some.injEq] at e; omega
  have jX := (kX.alloc (.cells #[] 53)).grown hg2 (fun q e => by have := hrr q e; omega)
  have jP := (kP.alloc (.cells #[] 53)).grown hg2 (fun q e => by have := hrr q e; omega)
  have hR := (kR.alloc (.cells #[] 53)).grown hg2 V2.heap.size hrr qS qC qI qK qL
  have hS : SeedAt bs w5 := kS.imp fun _ h => (h.alloc (.cells #[] 53)).grown hg2 (fun q e => by have := hrr q e; omega)
  have jB := below_grown (bwA kB (Nat.le_refl _) (.cells #[] 53)) hg2 (fun q e => by have := hrr q e; omega) (by simp; omega)
  clear kX kP kR kS kB hg2 hrr qS qC qI qK
  obtain ⟨B5, hB5⟩ : ∃ z, V2.heap.size = z := ⟨_, rfl⟩
  rw [hB5] at hown qL zS zW zM zP
  clear hB5
  obtain ⟨aN, cN, rfl, _, _, _⟩ := loads_of_row hown
  have QL := Lib.hid qL
  clear qL
  go_wp2_with fail
  go_loopw [7] (fun i wr => ∃ (k : Nat) (M : Nat → Ld), k ≤ n ∧ i = .int .i64 k ∧ (∀ i, i < k → (M i).me = (L i).me ∧ (M i).st = (L i).st ∧ (L i).w0 ≤ (M i).w0 ∧ (M i).w0 ≤ (M i).w1 ∧ (M i).w1 ≤ (L i).w1) ∧ (∀ i, k ≤ i → M i = L i) ∧ wr.ownsRow B5 53 4 (.slice aN n cN) n (catC (loadC M) n) ∧ Blk wr bX #[.int .i64 p.s0, .int .i64 p.s1, (.slice aS p.S.n cS), (.slice aC p.C.n cC), .int .i64 p.ne, .int .i64 p.ed, .int .i64 p.gr, .int .i64 p.lo, .int .i64 p.hi, .int .i64 p.sh, .int .i64 p.wi, (.slice aI ni cI), (.slice aK nc cK), (.slice aL n cL)] 71 ∧ Blk wr bP #[.int .i64 s0, .int .i64 s1, (.slice aS p.S.n cS), (.slice aC p.C.n cC), .int .i64 p.ne, .int .i64 p.ed, .int .i64 p.gr, .int .i64 p.lo, .int .i64 p.hi, .int .i64 p.sh, .int .i64 p.wi] 26 ∧ Rows wr (bs + 1) p (.slice aS p.S.n cS) (.slice aC p.C.n cC) (.slice aI ni cI) (.slice aK nc cK) (.slice aL n cL) ni I0 I1 nc C0 C1 n L ∧ SeedAt bs wr ∧ Below w.heap.size w wr) (fun i _ => n - (intOf i).toNat)
  case atStart => exact ⟨0, L, Nat.zero_le _, rfl, fun i hi => by omega, fun i _ => rfl, hown, jX, jP, hR, hS, jB⟩
  case round =>
    clear hown jX jP hR hS jB
    obtain ⟨k, M, hk, rfl, hM1, hM2, hown, jX, jP, hR, hS, jB⟩ := hrel
    have HM1 := Lib.hid hM1
    have HM2 := Lib.hid hM2
    clear hM1 hM2
    by_cases hlt2 : k < n
    · rcases id hown.2 with ⟨_, h0⟩ | ⟨g, cap', cur, hv, hg, hcur, _⟩
      · omega
      simp only [Value.slice.injEq] at hv
      obtain ⟨rfl, _, rfl⟩ := hv
      have kN : Blk _ g cur 53 := hcur
      clear hcur
      have hLk := hM.hL k hlt2
      have hMk := HM2.out k (Nat.le_refl _)
      rw [← hMk] at hLk
      have HMk := Lib.hid hMk
      clear hMk
      have hw0 := hLk.w0
      have hw1 := hLk.w01
      have hw2 := hLk.w1
      clear hLk
      obtain ⟨a9, c9, hv9, _, _, h9⟩ := loads_of_row hown
      simp only [Value.slice.injEq] at hv9
      obtain ⟨rfl, _, rfl⟩ := hv9
      obtain ⟨b9, o9, hb9, hc9⟩ := h9 (by omega)
      simp only [Option.some.injEq, Addr.mk.injEq, and_true] at hb9
      obtain ⟨rfl, rfl⟩ := hb9
      obtain ⟨l0, l1, l2, l3⟩ := hc9 k hlt2
      simp only [Nat.zero_add] at l0 l1 l2 l3
      clear hc9 h9
      have zN := kN.lt
      obtain ⟨q0, hq0⟩ : ∃ z, (M k).w0 = z := ⟨_, rfl⟩
      obtain ⟨q1, hq1⟩ : ∃ z, (M k).w1 = z := ⟨_, rfl⟩
      have HQ0 := Lib.hid hq0
      have HQ1 := Lib.hid hq1
      rw [hq0] at l1
      rw [hq1] at l2
      have HI := Lib.hid (kpart_in q0 q1 bs _ hS (by omega) (by omega) (by omega))
      clear hq0 hq1 hw0 hw1 hw2 l0 l3
      go_wp2_with fail
      clear l1 l2 zN
      refine HI.out.mono ?_
      rintro e w6 ⟨x, y, rfl, y0, y1, y2, hd⟩
      clear HI
      replace hown := hd.row hown (by omega)
      replace jX := hd.blk jX (by omega)
      replace jP := hd.blk jP (by omega)
      replace kN := hd.blk kN (by omega)
      replace hR := hR.drawn hd (by omega)
      replace jB := Drawn.below jB hd zwbs
      replace hS := hd.seed
      clear hd
      obtain ⟨a8, c8, hv8, _, _, h8⟩ := loads_of_row hown
      simp only [Value.slice.injEq] at hv8
      obtain ⟨rfl, _, rfl⟩ := hv8
      obtain ⟨b8, o8, hb8, hc8⟩ := h8 (by omega)
      simp only [Option.some.injEq, Addr.mk.injEq, and_true] at hb8
      obtain ⟨rfl, rfl⟩ := hb8
      obtain ⟨l0, l1, l2, l3⟩ := hc8 k hlt2
      simp only [Nat.zero_add] at l0 l1 l2 l3
      rw [HQ0.out] at l1
      rw [HQ1.out] at l2
      clear hc8 h8 l0 l3
      have zN := kN.lt
      have f1 := kN.free (k * 4 + 1)
      have f2 := kN.free (k * 4 + 2)
      have kOwn := row_setL hown k hlt2 x y
      have kX := (jX.other ⟨g, k * 4 + 1, none⟩ (.int .i64 x) (by simp; omega)).other ⟨g, k * 4 + 2, none⟩ (.int .i64 y) (by simp; omega)
      have kP := (jP.other ⟨g, k * 4 + 1, none⟩ (.int .i64 x) (by simp; omega)).other ⟨g, k * 4 + 2, none⟩ (.int .i64 y) (by simp; omega)
      have kR := (hR.putL kN (fun q e => by have := QL.out q e; omega) (k * 4 + 1) (.int .i64 x)).putL (kN.set (k * 4 + 1) (.int .i64 x)) (fun q e => by have := QL.out q e; omega) (k * 4 + 2) (.int .i64 y)
      have kS := (hS.put kN (by decide) (k * 4 + 1) (.int .i64 x)).put (kN.set (k * 4 + 1) (.int .i64 x)) (by decide) (k * 4 + 2) (.int .i64 y)
      have kB := (jB.setCell (p := ⟨g, k * 4 + 1, none⟩) (by simp; omega) (.int .i64 x)).setCell (p := ⟨g, k * 4 + 2, none⟩) (by simp; omega) (.int .i64 y)
      clear hown jX jP hR hS jB kN
      go_wp2
      go_roundw
      case rel =>
        refine ⟨k + 1, upL M k ⟨(M k).me, x, y, (M k).st⟩, by omega, by go_num, fun i hi => ?_, fun i hi => ?_, kOwn, kX, kP, kR, kS, kB⟩
        · by_cases e : i = k
          · subst e
            rw [upL_at]
            have e := HMk.out
            exact ⟨show (M i).me = (L i).me by rw [e], show (M i).st = (L i).st by rw [e], by rw [← e, HQ0.out]; exact y0, y1, by rw [← e, HQ1.out]; exact y2⟩
          · rw [upL_ne _ _ _ _ e]
            exact HM1.out i (by omega)
        · rw [upL_ne _ _ _ _ (by omega)]
          exact HM2.out i (by omega)
      case measure => simp [intOf]; omega
    · have hkn : n = k := by omega
      subst hkn
      clear HM2
      obtain ⟨m0, m1, m2, m3, m4, m5, m6, m7, m8, m9, m10, m11, m12, m13⟩ := jX.c14
      have zX3 := jX.lt
      go_wp2_with fail
      clear m0 m1 m2 m3 m4 m5 m6 m7 m8 m9 m10 m11 m12 m13 zX3
      refine (holds_valid hM.hp (by have := hM.ni4; omega) (fun i hi => by have := hM.hi i hi; omega) (by have := hM.nc3; omega) (fun i hi => by have := hM.hc i hi; omega) (by have := hM.n5; omega) hM.hL _ _ _ _ _ _ (pairs_of_row hR.S) (pairs_of_row hR.C) (pairs_of_row hR.I) (pairs_of_row hR.K) (loads_of_row hR.L)).mono ?_
      rintro e w7 ⟨vR, rfl, rR, hb⟩
      have zV := hS.choose_spec.lt
      replace rR := ownsRow_base (b1 := bs + 1) rR (by omega)
      clear zV
      replace jX := jX.call hb
      replace jP := jP.call hb
      replace hR := hR.call hb
      replace hown := ownsRow_base (b1 := bs + 1) (row_call hown hb) (by omega)
      replace hS : SeedAt bs _ := hS.imp fun _ h => h.call hb
      replace jB := bwS jB (Nat.le_refl _) hb
      clear hb
      obtain ⟨aR, cR, rfl, _, _, _⟩ := ints_of_row rR
      obtain ⟨X, hX⟩ : ∃ X : Nat → Int, X = fun i => verdV p I0 I1 nc C0 C1 n L (L i) := ⟨_, rfl⟩
      rw [← hX] at rR
      have HX := Lib.hid hX
      have HM := Lib.hid hM
      clear hX hM
      go_upto_region 11 with fail
      refine wp_region_held_drew (S := (fun w' => Blk w' bX #[.int .i64 p.s0, .int .i64 p.s1, (.slice aS p.S.n cS), (.slice aC p.C.n cC), .int .i64 p.ne, .int .i64 p.ed, .int .i64 p.gr, .int .i64 p.lo, .int .i64 p.hi, .int .i64 p.sh, .int .i64 p.wi, (.slice aI ni cI), (.slice aK nc cK), (.slice aL n cL)] 71 ∧ Blk w' bP #[.int .i64 s0, .int .i64 s1, (.slice aS p.S.n cS), (.slice aC p.C.n cC), .int .i64 p.ne, .int .i64 p.ed, .int .i64 p.gr, .int .i64 p.lo, .int .i64 p.hi, .int .i64 p.sh, .int .i64 p.wi] 26 ∧ Rows w' (bs + 1) p (.slice aS p.S.n cS) (.slice aC p.C.n cC) (.slice aI ni cI) (.slice aK nc cK) (.slice aL n cL) ni I0 I1 nc C0 C1 n L ∧ w'.ownsRow (bs + 1) 53 4 (.slice aN n cN) n (catC (loadC M) n) ∧ w'.ownsRow (bs + 1) 3 1 (.slice aR n cR) n (catC (intC X) n) ∧ SeedAt bs w' ∧ Below w.heap.size w w')) (by kernel_rfl) ?_ (fun hH => ?_)
      · (try dsimp only); (exact ⟨jX.drew, jP.drew, hR.drew, hown, rR, hS, jB.drew⟩)
      refine tkY 0 (some 58) ?_ ?_ ?_
      rotate_left
      · intro w hS0; (try dsimp only at hS0); obtain ⟨kX, kP, _⟩ := hS0; obtain ⟨m0, m1, m2, m3, m4, m5, m6, m7, m8, m9, m10, m11, m12, m13⟩ := kX.c14; obtain ⟨c0, c1, c2, c3, c4, c5, c6, c7, c8, c9, c10⟩ := kP.c11; have y1 := kX.lt; have y2 := kP.lt;go_simp; (try with_reducible rfl)
      (try simp only [cq])
      refine tkY 1 (some 59) ?_ ?_ ?_
      rotate_left
      · intro w _; go_simp; (try with_reducible rfl)
      (try simp only [cq])
      refine tkY 2 (some 60) ?_ ?_ ?_
      rotate_left
      · intro w hS0; (try dsimp only at hS0); obtain ⟨kX, kP, _⟩ := hS0; obtain ⟨m0, m1, m2, m3, m4, m5, m6, m7, m8, m9, m10, m11, m12, m13⟩ := kX.c14; obtain ⟨c0, c1, c2, c3, c4, c5, c6, c7, c8, c9, c10⟩ := kP.c11; have y1 := kX.lt; have y2 := kP.lt;go_simp; (try with_reducible rfl)
      (try simp only [cq])
      refine tkY 3 (some 61) ?_ ?_ ?_
      rotate_left
      · intro w hS0; (try dsimp only at hS0); obtain ⟨kX, kP, _⟩ := hS0; obtain ⟨m0, m1, m2, m3, m4, m5, m6, m7, m8, m9, m10, m11, m12, m13⟩ := kX.c14; obtain ⟨c0, c1, c2, c3, c4, c5, c6, c7, c8, c9, c10⟩ := kP.c11; have y1 := kX.lt; have y2 := kP.lt;go_simp; (try with_reducible rfl)
      (try simp only [cq])
      refine tkY 5 (some 63) ?_ ?_ ?_
      rotate_left
      · intro w _; go_simp; (try with_reducible rfl)
      (try simp only [cq])
      refine tkY 6 (some 64) ?_ ?_ ?_
      rotate_left
      · intro w hS0; (try dsimp only at hS0); obtain ⟨kX, kP, _⟩ := hS0; obtain ⟨m0, m1, m2, m3, m4, m5, m6, m7, m8, m9, m10, m11, m12, m13⟩ := kX.c14; obtain ⟨c0, c1, c2, c3, c4, c5, c6, c7, c8, c9, c10⟩ := kP.c11; have y1 := kX.lt; have y2 := kP.lt;go_simp; (try with_reducible rfl)
      (try simp only [cq])
      refine tkY 7 (some 65) ?_ ?_ ?_
      rotate_left
      · intro w hS0; (try dsimp only at hS0); obtain ⟨kX, kP, _⟩ := hS0; obtain ⟨m0, m1, m2, m3, m4, m5, m6, m7, m8, m9, m10, m11, m12, m13⟩ := kX.c14; obtain ⟨c0, c1, c2, c3, c4, c5, c6, c7, c8, c9, c10⟩ := kP.c11; have y1 := kX.lt; have y2 := kP.lt;go_simp; (try with_reducible rfl)
      (try simp only [cq])
      refine tkY 9 (some 67) ?_ ?_ ?_
      rotate_left
      · intro w _; go_simp; (try with_reducible rfl)
      (try simp only [cq])
      refine wpAnyH_ready (rs := [4]) (by kernel_rfl) (by simp) ?_
      refine arc1 (some 62) fun K hK => ?_
      have zz := hH.2.2.2.2.2.1.choose_spec.lt
      go_simp
      (refine (kparts_in (bs + 1) ni _ I0 I1 (by have := HM.out.ni4; omega) (fun i hi => by have := HM.out.hi i hi; omega) bs (by omega) _ hH.2.2.2.2.2.1 hH.2.2.1.I).mono ?_; rintro e w' ⟨uI, J0, J1, rfl, hJ, rI, hd⟩; replace rI := ownsRow_base (b1 := bs + 1) rI (by omega); clear zz)
      refine hK.out _ _ ?_ ?_
      · (exact ⟨hd.blk hH.1 (by omega), hd.blk hH.2.1 (by omega), hH.2.2.1.drawn hd (by omega), hd.row hH.2.2.2.1 (by omega), hd.row hH.2.2.2.2.1 (by omega), hd.seed, Drawn.below hH.2.2.2.2.2.2 hd zwbs⟩)
      (try clear hH); (try clear hd); (try clear hb)
      intro hH
      clear hK K
      (try simp only [cq])
      refine wpAnyH_ready (rs := [8]) (by kernel_rfl) (by simp) ?_
      refine arc1 (some 66) fun K hK => ?_
      have zz := hH.2.2.2.2.2.1.choose_spec.lt
      go_simp
      (refine (kparts_in (bs + 1) nc _ C0 C1 (by have := HM.out.nc3; omega) (fun i hi => by have := HM.out.hc i hi; omega) bs (by omega) _ hH.2.2.2.2.2.1 hH.2.2.1.K).mono ?_; rintro e w' ⟨uK, D0, D1, rfl, hD, rK, hd⟩; replace rK := ownsRow_base (b1 := bs + 1) rK (by omega); clear zz; replace rI := hd.row rI (by omega))
      refine hK.out _ _ ?_ ?_
      · (exact ⟨hd.blk hH.1 (by omega), hd.blk hH.2.1 (by omega), hH.2.2.1.drawn hd (by omega), hd.row hH.2.2.2.1 (by omega), hd.row hH.2.2.2.2.1 (by omega), hd.seed, Drawn.below hH.2.2.2.2.2.2 hd zwbs⟩)
      (try clear hH); (try clear hd); (try clear hb)
      intro hH
      clear hK K
      (try simp only [cq])
      refine wpAnyH_ready (rs := [10]) (by kernel_rfl) (by simp) ?_
      refine arc1 (some 68) fun K hK => ?_
      have zz := hH.2.2.2.2.2.1.choose_spec.lt
      have hq : Pl.Ok ⟨s0, s1, p.S, p.C, p.ne, p.ed, p.gr, p.lo, p.hi, p.sh, p.wi⟩ := ⟨by simp only; omega, by simp only; omega, by have := HM.out.hp.s1; simp only; omega, HM.out.hp.S, HM.out.hp.C, HM.out.hp.ne0, HM.out.hp.ne1, HM.out.hp.ed0, HM.out.hp.ed1, HM.out.hp.gr0, HM.out.hp.gr1, HM.out.hp.lo0, HM.out.hp.loh, HM.out.hp.hi1, HM.out.hp.sh0, HM.out.hp.sh1, HM.out.hp.wi0, HM.out.hp.wi1⟩
      go_simp
      (refine (holds_valid hq (by have := HM.out.ni4; omega) (fun i hi => by have := HM.out.hi i hi; have := hJ i hi; omega) (by have := HM.out.nc3; omega) (fun i hi => by have := HM.out.hc i hi; have := hD i hi; omega) (by omega) (fun i hi => by
                  have g := HM.out.hL i hi
                  obtain ⟨g1, g2, g3, g4, g5⟩ := HM1.out i hi
                  exact ⟨by rw [g1]; exact g.me0, by rw [g1]; exact g.me1, Int.le_trans g.w0 g3, g4, Int.le_trans g5 g.w1, by rw [g2]; exact g.st0, by rw [g2]; exact g.st1⟩) _ _ _ _ _ _ (pairs_of_row hH.2.2.1.S) (pairs_of_row hH.2.2.1.C) (pairs_of_row rI) (pairs_of_row rK) (loads_of_row hH.2.2.2.1)).mono ?_; rintro e w' ⟨vQ, rfl, rQ, hb⟩; replace rQ := ownsRow_base (b1 := bs + 1) rQ (by omega); clear zz)
      refine hK.out _ _ ?_ ?_
      · exact ⟨hH.1.call hb, hH.2.1.call hb, hH.2.2.1.call hb, row_call hH.2.2.2.1 hb, row_call hH.2.2.2.2.1 hb, hH.2.2.2.2.2.1.imp (fun _ h => h.call hb), bwS hH.2.2.2.2.2.2 (Nat.le_refl _) hb⟩
      (try clear hH); (try clear hd); (try clear hb)
      intro hH
      clear hK K
      (try simp only [cq])
      refine tkY 11 (some 57) ?_ ?_ ?_
      rotate_left
      · intro w _; go_simp; (try with_reducible rfl)
      (try simp only [cq])
      refine tkY 12 (some 69) ?_ ?_ ?_
      rotate_left
      · intro w _; go_simp; (try with_reducible rfl)
      (try simp only [cq])
      refine tkY 13 (some 70) ?_ ?_ ?_
      rotate_left
      · intro w _; go_simp; (try with_reducible rfl)
      (try simp only [cq])
      refine tkY 14 (some 10) ?_ ?_ ?_
      rotate_left
      · intro w _; go_simp; (try with_reducible rfl)
      (try simp only [cq])
      refine tkY 15 (some 11) ?_ ?_ ?_
      rotate_left
      · intro w _; go_simp; (try with_reducible rfl)
      (try simp only [cq])
      refine wpAnyH_done (by kernel_rfl) ?_ _
      (try dsimp only [Act.put])
      (try simp only [cq])
      obtain ⟨jX, jP, hR, hown, rR, hS, jB⟩ := hH
      obtain ⟨aQ, cQ, rfl, _, _, _⟩ := ints_of_row rQ
      obtain ⟨Y, hY⟩ : ∃ Y : Nat → Int, Y = fun i => verdV ⟨s0, s1, p.S, p.C, p.ne, p.ed, p.gr, p.lo, p.hi, p.sh, p.wi⟩ J0 J1 nc D0 D1 n M (M i) := ⟨_, rfl⟩
      rw [← hY] at rQ
      have HY := Lib.hid hY
      have HVe : Hid (∀ i : Nat, i < n → X i ≠ 3 → Y i = X i) := fun i hi h3 => by
        have g := within_verd (p := p) (q := ⟨s0, s1, p.S, p.C, p.ne, p.ed, p.gr, p.lo, p.hi, p.sh, p.wi⟩) (ni := ni) (I0 := I0) (I1 := I1) (J0 := J0) (J1 := J1) (nc := nc) (C0 := C0) (C1 := C1) (D0 := D0) (D1 := D1) (n := n) (L := L) (M := M) HM.out.hp hq ⟨sy0, sy2, rfl, rfl, rfl, rfl, hJ, hD, HM1.out⟩ (fun i hi => (HM.out.hi i hi).1) HM.out.hL hi
        rw [HX.out] at h3 ⊢
        rw [HY.out]
        show verdV _ J0 J1 nc D0 D1 n M (M i) = verdV p I0 I1 nc C0 C1 n L (L i)
        replace h3 : verdV p I0 I1 nc C0 C1 n L (L i) ≠ 3 := h3
        have t : verdV p I0 I1 nc C0 C1 n L (L i) = 1 ∨ verdV p I0 I1 nc C0 C1 n L (L i) = 2 ∨ verdV p I0 I1 nc C0 C1 n L (L i) = 3 := by
          unfold verdV
          cases bearsV p false I0 I1 nc C0 C1 n L (L i) <;> cases bearsV p true I0 I1 nc C0 C1 n L (L i) <;> simp
        rcases t with t | t | t
        · rw [t]; exact g.1 t
        · rw [t]; exact g.2 t
        · exact absurd t h3
      have RX := Lib.hid (ints_of_row rR)
      have RY := Lib.hid (ints_of_row rQ)
      have HB := Lib.hid jB
      have hn5b := HM.out.n5
      clear hY hq hJ hD rI rK rQ rR hown hR hS jP jB HM1 HM HX HY QL
      obtain ⟨m0, m1, m2, m3, m4, m5, m6, m7, m8, m9, m10, m11, m12, m13⟩ := jX.c14
      have zX4 := jX.lt
      go_wp2_with fail
      clear m0 m1 m2 m3 m4 m5 m6 m7 m8 m9 m10 m11 m12 m13 zX4 jX
      obtain ⟨V9, hV9⟩ : ∃ V, w' = V := ⟨_, rfl⟩
      subst hV9
      go_loopw [12] (fun i wr => ∃ k : Nat, k ≤ n ∧ i = .int .i64 k ∧ Below w'.heap.size w' wr) (fun i _ => n - (intOf i).toNat)
      case atStart => exact ⟨0, Nat.zero_le _, rfl, Below.refl _ _⟩
      case round =>
        obtain ⟨k, hk, rfl, hB⟩ := hrel
        by_cases hlt3 : k < n
        · obtain ⟨a1, c1, hv1, _, _, h1⟩ := RX.out
          simp only [Value.slice.injEq] at hv1
          obtain ⟨rfl, _, rfl⟩ := hv1
          obtain ⟨b1, o1, rfl, hc1⟩ := h1 (by omega)
          obtain ⟨a2, c2, hv2, _, _, h2⟩ := RY.out
          simp only [Value.slice.injEq] at hv2
          obtain ⟨rfl, _, rfl⟩ := hv2
          obtain ⟨b2, o2, rfl, hc2⟩ := h2 (by omega)
          have r1 := cell_later hB (hc1 k hlt3)
          have r2 := cell_later hB (hc2 k hlt3)
          clear hc1 h1 hc2 h2
          have HE := Lib.hid (HVe.out k hlt3)
          generalize X k = xv at r1 HE
          generalize Y k = yv at r2 HE
          have z1 := World.block_lt_of_cell? _ _ r1
          have z2 := World.block_lt_of_cell? _ _ r2
          by_cases hx : xv = 3
          · subst hx
            clear HE
            go_upto_region 17 with fail
            refine wp_region_held_drew (S := (fun v => v.cell? ⟨b1, o1 + k, none⟩ = some (.int .i64 3) ∧ Below w'.heap.size w' v)) (by kernel_rfl) ?_ (fun hH => ?_)
            · (try dsimp only); (exact ⟨r1, hB.drew⟩)
            refine tkY 0 (some 98) ?_ ?_ ?_
            rotate_left
            · intro w _; go_simp; (try with_reducible rfl)
            (try simp only [cq])
            refine tkY 1 (some 99) ?_ ?_ ?_
            rotate_left
            · intro w _; go_simp; (try with_reducible rfl)
            (try simp only [cq])
            refine tkY 2 (some 100) ?_ ?_ ?_
            rotate_left
            · intro w hS0; (try dsimp only at hS0); obtain ⟨g1, _⟩ := hS0; have y1 := World.block_lt_of_cell? _ _ g1;go_simp; (try with_reducible rfl)
            (try simp only [cq])
            refine tkY 3 (some 101) ?_ ?_ ?_
            rotate_left
            · intro w hS0; (try dsimp only at hS0); obtain ⟨g1, _⟩ := hS0; have y1 := World.block_lt_of_cell? _ _ g1;go_simp; (try with_reducible rfl)
            (try simp only [cq])
            refine tkY 4 (some 102) ?_ ?_ ?_
            rotate_left
            · intro w _; go_simp; (try with_reducible rfl)
            (try simp only [cq])
            refine tkY 5 (some 103) ?_ ?_ ?_
            rotate_left
            · intro w _; go_simp; (try with_reducible rfl)
            (try simp only [cq])
            refine tkN 6 (some 104) ?_
            (try simp only [cq])
            refine tkN 7 (some 105) ?_
            (try simp only [cq])
            refine tkN 8 (some 106) ?_
            (try simp only [cq])
            refine tkN 9 (some 107) ?_
            (try simp only [cq])
            refine tkN 10 (some 108) ?_
            (try simp only [cq])
            refine tkN 11 (some 109) ?_
            (try simp only [cq])
            refine tkN 12 (some 110) ?_
            (try simp only [cq])
            refine tkN 13 (some 111) ?_
            (try simp only [cq])
            refine tkN 14 (some 112) ?_
            (try simp only [cq])
            refine tkY 15 (some 113) ?_ ?_ ?_
            rotate_left
            · intro w _; go_simp; (try with_reducible rfl)
            (try simp only [cq])
            refine wpAnyH_done (by kernel_rfl) ?_ _
            (try dsimp only [Act.put])
            (try simp only [cq])
            have hB2 := hH.2
            clear hH r1 r2 z1 z2 hB
            go_wp2
            go_roundw
            case rel => exact ⟨k + 1, by omega, by go_num, hB2⟩
            case measure => simp [intOf]; omega
          · have he := HE.out hx
            subst he
            have hx3 : (yv != 3) = true := by simpa using hx
            clear HE
            go_upto_region 17 with fail
            refine wp_region_held_drew (S := (fun v => v.cell? ⟨b1, o1 + k, none⟩ = some (.int .i64 yv) ∧ v.cell? ⟨b2, o2 + k, none⟩ = some (.int .i64 yv) ∧ Below w'.heap.size w' v)) (by kernel_rfl) ?_ (fun hH => ?_)
            · (try dsimp only); (exact ⟨r1, r2, hB.drew⟩)
            refine tkY 0 (some 98) ?_ ?_ ?_
            rotate_left
            · intro w _; go_simp; (try with_reducible rfl)
            (try simp only [cq])
            refine tkY 1 (some 99) ?_ ?_ ?_
            rotate_left
            · intro w _; go_simp; (try with_reducible rfl)
            (try simp only [cq])
            refine tkY 2 (some 100) ?_ ?_ ?_
            rotate_left
            · intro w hS0; (try dsimp only at hS0); obtain ⟨g1, g2, _⟩ := hS0; have y1 := World.block_lt_of_cell? _ _ g1; have y2 := World.block_lt_of_cell? _ _ g2;go_simp; (try with_reducible rfl)
            (try simp only [cq])
            refine tkY 3 (some 101) ?_ ?_ ?_
            rotate_left
            · intro w hS0; (try dsimp only at hS0); obtain ⟨g1, g2, _⟩ := hS0; have y1 := World.block_lt_of_cell? _ _ g1; have y2 := World.block_lt_of_cell? _ _ g2;go_simp; (try with_reducible rfl)
            (try simp only [cq])
            refine tkY 4 (some 102) ?_ ?_ ?_
            rotate_left
            · intro w _; go_simp; (try with_reducible rfl)
            (try simp only [cq])
            refine tkY 5 (some 103) ?_ ?_ ?_
            rotate_left
            · intro w _; go_simp; (try with_reducible rfl)
            (try simp only [cq])
            refine tkY 6 (some 104) ?_ ?_ ?_
            rotate_left
            · intro w _; go_simp; (try with_reducible rfl)
            (try simp only [cq])
            refine tkY 7 (some 105) ?_ ?_ ?_
            rotate_left
            · intro w _; go_simp; (try with_reducible rfl)
            (try simp only [cq])
            refine tkY 8 (some 106) ?_ ?_ ?_
            rotate_left
            · intro w hS0; (try dsimp only at hS0); obtain ⟨g1, g2, _⟩ := hS0; have y1 := World.block_lt_of_cell? _ _ g1; have y2 := World.block_lt_of_cell? _ _ g2;go_simp; (try with_reducible rfl)
            (try simp only [cq])
            refine tkY 9 (some 107) ?_ ?_ ?_
            rotate_left
            · intro w hS0; (try dsimp only at hS0); obtain ⟨g1, g2, _⟩ := hS0; have y1 := World.block_lt_of_cell? _ _ g1; have y2 := World.block_lt_of_cell? _ _ g2;go_simp; (try with_reducible rfl)
            (try simp only [cq])
            refine tkY 10 (some 108) ?_ ?_ ?_
            rotate_left
            · intro w _; go_simp; (try with_reducible rfl)
            (try simp only [cq])
            refine tkY 11 (some 109) ?_ ?_ ?_
            rotate_left
            · intro w _; go_simp; (try with_reducible rfl)
            (try simp only [cq])
            refine tkY 12 (some 110) ?_ ?_ ?_
            rotate_left
            · intro w hS0; (try dsimp only at hS0); obtain ⟨g1, g2, _⟩ := hS0; have y1 := World.block_lt_of_cell? _ _ g1; have y2 := World.block_lt_of_cell? _ _ g2;go_simp; (try with_reducible rfl)
            (try simp only [cq])
            refine tkY 13 (some 111) ?_ ?_ ?_
            rotate_left
            · intro w hS0; (try dsimp only at hS0); obtain ⟨g1, g2, _⟩ := hS0; have y1 := World.block_lt_of_cell? _ _ g1; have y2 := World.block_lt_of_cell? _ _ g2;go_simp; (try with_reducible rfl)
            (try simp only [cq])
            refine tkY 14 (some 112) ?_ ?_ ?_
            rotate_left
            · intro w _; go_simp; (try with_reducible rfl)
            (try simp only [cq])
            refine tkY 15 (some 113) ?_ ?_ ?_
            rotate_left
            · intro w _; go_simp; (try with_reducible rfl)
            (try simp only [cq])
            refine wpAnyH_done (by kernel_rfl) ?_ _
            (try dsimp only [Act.put])
            (try simp only [cq])
            have hB2 := hH.2.2
            clear hH r1 r2 z1 z2 hB hx hx3
            go_wp2
            go_roundw
            case rel => exact ⟨k + 1, by omega, by go_num, hB2⟩
            case measure => simp [intOf]; omega
        · have jB := bwS HB.out (by have := HB.out.size; omega) hB
          clear hB
          go_wp2_with fail
          refine (awake_any _).mono ?_
          rintro e w9 ⟨rfl, hb⟩
          replace jB := bwS jB (Nat.le_refl _) hb
          go_wp2
          go_ret
          exact ⟨rfl, jB⟩
end Go.Proofs.Ytfakmggabicdjaa
