/-
  BearBoth says yes.
-/
import Derived.Test.YtfakmggabicdjaaTail
import Derived.Test.YtfakmggabicdjaaBTruth
import Derived.Test.YtfakmggabicdjaaEndB
set_option linter.unusedVariables false
set_option linter.unusedSimpArgs false
namespace Go.Proofs.Ytfakmggabicdjaa
open Go.RowKit

theorem mv_in {near : Bool} {a c0 c1 : Int} (h : c0 ≤ c1) : c0 ≤ mvV near a c0 c1 ∧ mvV near a c0 c1 ≤ c1 := by
  cases near with
  | true =>
    simp only [mvV, if_true]
    exact ⟨(Int.le_min).2 ⟨Int.le_max_right _ _, h⟩, Int.min_le_right _ _⟩
  | false =>
    simp only [mvV, Bool.false_eq_true, if_false]
    by_cases hf : farV a c1 < farV a c0
    · rw [if_pos hf]; omega
    · rw [if_neg hf]; omega
theorem wst_in {p : Pl} {ni : Nat} {I0 I1 : Nat → Int} {nc : Nat} {C0 C1 : Nat → Int} {n : Nat} {L : Nat → Ld} (h : Made p ni I0 I1 nc C0 C1 n L) (best : Bool) {i : Nat} (hi : i < n) (a : Int) : (wstT p best I0 I1 C0 C1 L a).In p I0 I1 nc C0 C1 n L (L i).me := by
  have q := h.hL i hi
  have q0 := q.me0
  have q1 := q.me1
  have hk : ((L i).me / 100).toNat < ni := by omega
  have hI := h.hi _ hk
  have s01 := h.hp.s01
  refine ⟨?_, ?_, ?_, ?_, hI.1, fun j hj => mv_in (h.hc j hj).2.1, fun j hj => ?_⟩
  · cases best <;> simp [wstT, endV]; exact s01
  · cases best <;> simp [wstT, endV]; exact s01
  · cases best <;> simp [wstT, endV]; exact hI.2.1
  · cases best <;> simp [wstT, endV]; exact hI.2.1
  · have r0 := (h.hL j hj).w0
    have r1 := (h.hL j hj).w01
    cases best <;> simp [wstT, endV] <;> omega
theorem wst_room {p : Pl} {ni : Nat} {I0 I1 : Nat → Int} {nc : Nat} {C0 C1 : Nat → Int} {n : Nat} {L : Nat → Ld} (h : Made p ni I0 I1 nc C0 C1 n L) (best : Bool) {i : Nat} (hi : i < n) (a : Int) : TruthIn (wstT p best I0 I1 C0 C1 L a) ni nc n L (L i) := by
  have q := h.hL i hi
  have q0 := q.me0
  have q1 := q.me1
  have n4 := h.ni4
  refine ⟨?_, fun k hk => ?_, fun k hk => ?_, fun k hk => ?_, by have := h.n5; omega, fun k hk => ?_, by omega, q1⟩
  · have := h.hp.s0; have := h.hp.s01; have := h.hp.s1
    cases best <;> simp [wstT, endV] <;> omega
  · have r := h.hi k hk
    cases best <;> simp [wstT, endV] <;> omega
  · have r := h.hc k hk
    have s := mv_in (near := !best) (a := a) r.2.1
    simp only [wstT]
    omega
  · have r := h.hL k hk
    have := r.w0; have := r.w01; have := r.w1
    cases best <;> simp [wstT, endV] <;> omega
  · have r := h.hL k hk
    have := r.me0; have := r.me1
    omega

theorem borne_w (best : Bool) {p : Pl} {ni : Nat} {I0 I1 : Nat → Int} {nc : Nat} {C0 C1 : Nat → Int} {n : Nat} {L : Nat → Ld} (h : Made p ni I0 I1 nc C0 C1 n L) {k : Nat} (hk : k < n) {m : Int} (hm : (L k).me = m) (vS vC vL vT vc vW : Value) (W : World)
    (hS : TabAt W vS p.S) (hC : TabAt W vC p.C) (hL : LoadsAt W vL n L) (hT : IntsAt W vT ni (wstT p best I0 I1 C0 C1 L m).T) (hc : IntsAt W vc nc (wstT p best I0 I1 C0 C1 L m).c) (hW : IntsAt W vW n (wstT p best I0 I1 C0 C1 L m).W) :
    Calls Try.prog 58 #[.agg #[.int .i64 p.s0, .int .i64 p.s1, vS, vC, .int .i64 p.ne, .int .i64 p.ed, .int .i64 p.gr, .int .i64 p.lo, .int .i64 p.hi, .int .i64 p.sh, .int .i64 p.wi], vL, .agg #[.int .i64 (endV best p.s0 p.s1), vT, vc, vW], .int .i64 k] W fun e w' => e = .returned (.bool (bearsV p best I0 I1 nc C0 C1 n L (L k))) ∧ Below W.heap.size W w' := by
  subst hm
  rw [← wst_borne best (fun j hj => (h.hc j hj).2.1)]
  exact borne_any p h.hp vS vC vL vT vc vW (wstT p best I0 I1 C0 C1 L (L k).me) ni nc n L k hk (wst_room h best hk _) W hS hC hL hT hc hW
theorem borne_lo {p : Pl} {ni : Nat} {I0 I1 : Nat → Int} {nc : Nat} {C0 C1 : Nat → Int} {n : Nat} {L : Nat → Ld} (h : Made p ni I0 I1 nc C0 C1 n L) {k : Nat} (hk : k < n) {m : Int} (hm : (L k).me = m) (vS vC vL vT vc vW : Value) (W : World)
    (hS : TabAt W vS p.S) (hC : TabAt W vC p.C) (hL : LoadsAt W vL n L) (hT : IntsAt W vT ni (wstT p false I0 I1 C0 C1 L m).T) (hc : IntsAt W vc nc (wstT p false I0 I1 C0 C1 L m).c) (hW : IntsAt W vW n (wstT p false I0 I1 C0 C1 L m).W) :
    Calls Try.prog 58 #[.agg #[.int .i64 p.s0, .int .i64 p.s1, vS, vC, .int .i64 p.ne, .int .i64 p.ed, .int .i64 p.gr, .int .i64 p.lo, .int .i64 p.hi, .int .i64 p.sh, .int .i64 p.wi], vL, .agg #[.int .i64 p.s0, vT, vc, vW], .int .i64 k] W fun e w' => e = .returned (.bool (bearsV p false I0 I1 nc C0 C1 n L (L k))) ∧ Below W.heap.size W w' := by
  have e : endV false p.s0 p.s1 = p.s0 := rfl
  rw [← e]
  exact borne_w false h hk hm vS vC vL vT vc vW W hS hC hL hT hc hW
theorem borne_hi {p : Pl} {ni : Nat} {I0 I1 : Nat → Int} {nc : Nat} {C0 C1 : Nat → Int} {n : Nat} {L : Nat → Ld} (h : Made p ni I0 I1 nc C0 C1 n L) {k : Nat} (hk : k < n) {m : Int} (hm : (L k).me = m) (vS vC vL vT vc vW : Value) (W : World)
    (hS : TabAt W vS p.S) (hC : TabAt W vC p.C) (hL : LoadsAt W vL n L) (hT : IntsAt W vT ni (wstT p true I0 I1 C0 C1 L m).T) (hc : IntsAt W vc nc (wstT p true I0 I1 C0 C1 L m).c) (hW : IntsAt W vW n (wstT p true I0 I1 C0 C1 L m).W) :
    Calls Try.prog 58 #[.agg #[.int .i64 p.s0, .int .i64 p.s1, vS, vC, .int .i64 p.ne, .int .i64 p.ed, .int .i64 p.gr, .int .i64 p.lo, .int .i64 p.hi, .int .i64 p.sh, .int .i64 p.wi], vL, .agg #[.int .i64 p.s1, vT, vc, vW], .int .i64 k] W fun e w' => e = .returned (.bool (bearsV p true I0 I1 nc C0 C1 n L (L k))) ∧ Below W.heap.size W w' := by
  have e : endV true p.s0 p.s1 = p.s1 := rfl
  rw [← e]
  exact borne_w true h hk hm vS vC vL vT vc vW W hS hC hL hT hc hW
theorem worst_best {p : Pl} {ni : Nat} {I0 I1 : Nat → Int} {nc : Nat} {C0 C1 : Nat → Int} {n : Nat} {L : Nat → Ld} (h : Made p ni I0 I1 nc C0 C1 n L) {k : Nat} (hk : k < n) (hb : bearsV p false I0 I1 nc C0 C1 n L (L k) = true) : bearsV p true I0 I1 nc C0 C1 n L (L k) = true := by
  have q := true_worst h.hp (wst_in h true hk (L k).me) hb
  rw [wst_borne true (fun j hj => (h.hc j hj).2.1)] at q
  exact q

set_option maxRecDepth 100000 in
set_option maxHeartbeats 16000000 in
theorem bboth_any (a : Option Addr) (len cap : Nat) (w : World) (hn : NumsAt w a len) :
    Calls Try.prog 10 #[.slice a len cap] w fun e w' => e = .returned (.bool true) ∧ Below w.heap.size w w' := by
  go_enter Try.func10, Try.ntmps10
  go_wp2_with fail
  refine (newseed_at a len cap _ hn).mono ?_
  rintro e w1 ⟨rfl, hS, jB⟩
  clear hn
  obtain ⟨bs, hbs⟩ : ∃ b, w.heap.size = b := ⟨_, rfl⟩
  have zwbs : w.heap.size ≤ bs := by omega
  rw [hbs] at hS ⊢
  have hb1 : bs < w1.heap.size := hS.choose_spec.lt
  have HBS := Lib.hid hbs
  clear hbs
  go_wp2_with fail
  refine (madeof_in bs w1 hS).mono ?_
  rintro e w2 ⟨p, vS, vC, vI, vK, vL, ni, I0, I1, nc, C0, C1, n, L, rfl, hM, hR, hd⟩
  replace jB := Drawn.below jB hd zwbs
  replace hS := hd.seed
  replace hR := hR.base (b2 := bs + 1) (by omega)
  clear hd
  obtain ⟨aS, cS, rfl, _, _, _⟩ := pairs_of_row hR.S
  obtain ⟨aC, cC, rfl, _, _, _⟩ := pairs_of_row hR.C
  obtain ⟨aI, cI, rfl, _, _, _⟩ := pairs_of_row hR.I
  obtain ⟨aK, cK, rfl, _, _, _⟩ := pairs_of_row hR.K
  obtain ⟨aL, cL, rfl, _, _, _⟩ := loads_of_row hR.L
  have jX := Blk.new w2 #[.int .i64 p.s0, .int .i64 p.s1, (.slice aS p.S.n cS), (.slice aC p.C.n cC), .int .i64 p.ne, .int .i64 p.ed, .int .i64 p.gr, .int .i64 p.lo, .int .i64 p.hi, .int .i64 p.sh, .int .i64 p.wi, (.slice aI ni cI), (.slice aK nc cK), (.slice aL n cL)] 71
  go_upto_region 3 with fail
  obtain ⟨bX, hbX⟩ : ∃ b, w2.heap.size = b := ⟨_, rfl⟩
  have zX : bs < bX := by rw [← hbX]; exact hS.choose_spec.lt
  rw [hbX] at jX
  (try rw [hbX])
  clear hbX
  replace hR := hR.alloc (.cells #[.int .i64 p.s0, .int .i64 p.s1, (.slice aS p.S.n cS), (.slice aC p.C.n cC), .int .i64 p.ne, .int .i64 p.ed, .int .i64 p.gr, .int .i64 p.lo, .int .i64 p.hi, .int .i64 p.sh, .int .i64 p.wi, (.slice aI ni cI), (.slice aK nc cK), (.slice aL n cL)] 71)
  replace hS : SeedAt bs _ := hS.imp fun _ h => h.alloc (.cells #[.int .i64 p.s0, .int .i64 p.s1, (.slice aS p.S.n cS), (.slice aC p.C.n cC), .int .i64 p.ne, .int .i64 p.ed, .int .i64 p.gr, .int .i64 p.lo, .int .i64 p.hi, .int .i64 p.sh, .int .i64 p.wi, (.slice aI ni cI), (.slice aK nc cK), (.slice aL n cL)] 71)
  replace jB := bwA jB (Nat.le_refl _) (.cells #[.int .i64 p.s0, .int .i64 p.s1, (.slice aS p.S.n cS), (.slice aC p.C.n cC), .int .i64 p.ne, .int .i64 p.ed, .int .i64 p.gr, .int .i64 p.lo, .int .i64 p.hi, .int .i64 p.sh, .int .i64 p.wi, (.slice aI ni cI), (.slice aK nc cK), (.slice aL n cL)] 71)
  generalize w2.alloc (.cells #[.int .i64 p.s0, .int .i64 p.s1, (.slice aS p.S.n cS), (.slice aC p.C.n cC), .int .i64 p.ne, .int .i64 p.ed, .int .i64 p.gr, .int .i64 p.lo, .int .i64 p.hi, .int .i64 p.sh, .int .i64 p.wi, (.slice aI ni cI), (.slice aK nc cK), (.slice aL n cL)] 71) = V at jX hR hS jB ⊢
  obtain ⟨m0, m1, m2, m3, m4, m5, m6, m7, m8, m9, m10, m11, m12, m13⟩ := jX.c14
  have zM := jX.lt
  go_wp2_with fail
  clear m0 m1 m2 m3 m4 m5 m6 m7 m8 m9 m10 m11 m12 m13 zM
  refine (holds_valid hM.hp (by have := hM.ni4; omega) (fun i hi => by have := hM.hi i hi; omega) (by have := hM.nc3; omega) (fun i hi => by have := hM.hc i hi; omega) (by have := hM.n5; omega) hM.hL _ _ _ _ _ _ (pairs_of_row hR.S) (pairs_of_row hR.C) (pairs_of_row hR.I) (pairs_of_row hR.K) (loads_of_row hR.L)).mono ?_
  rintro e w3 ⟨vR, rfl, rR, hb⟩
  have zV := jX.lt
  replace rR := ownsRow_base (b1 := bs + 1) rR (by omega)
  clear zV
  replace jX := jX.call hb
  replace hR := hR.call hb
  replace hS : SeedAt bs _ := hS.imp fun _ h => h.call hb
  replace jB := bwS jB (Nat.le_refl _) hb
  clear hb
  obtain ⟨aR, cR, rfl, _, _, _⟩ := ints_of_row rR
  obtain ⟨X, hX⟩ : ∃ X : Nat → Int, X = fun i => verdV p I0 I1 nc C0 C1 n L (L i) := ⟨_, rfl⟩
  rw [← hX] at rR
  have HX := Lib.hid hX
  clear hX
  obtain ⟨m0, m1, m2, m3, m4, m5, m6, m7, m8, m9, m10, m11, m12, m13⟩ := jX.c14
  have zM := jX.lt
  clear m0 m1 m2 m3 m4 m5 m6 m7 m8 m9 m10 m11 m12 m13 zM
  (try obtain ⟨m0, m1, m2, m3, m4, m5, m6, m7, m8, m9, m10, m11, m12, m13⟩ := jX.c14)
  have zM := jX.lt
  go_wp2_with fail
  clear m0 m1 m2 m3 m4 m5 m6 m7 m8 m9 m10 m11 m12 m13 zM
  have hHM := Lib.hid hM
  have hn5 := hM.n5
  have hni4 := hM.ni4
  have hnc3 := hM.nc3
  have HJ := Lib.hid jX
  have HB := Lib.hid jB
  have HI := Lib.hid (pairs_of_row hR.I)
  have HKp := Lib.hid (pairs_of_row hR.K)
  have HLd := Lib.hid (loads_of_row hR.L)
  have HSt := Lib.hid (pairs_of_row hR.S)
  have HCt := Lib.hid (pairs_of_row hR.C)
  have HRi := Lib.hid (ints_of_row rR)
  have HCb : Hid (∀ i, i < nc → -1000000000 ≤ C0 i ∧ C0 i ≤ 1000000000 ∧ -1000000000 ≤ C1 i ∧ C1 i ≤ 1000000000) := fun i hi => by have := hM.hc i hi; omega
  clear hM jX jB hR rR hS
  obtain ⟨V3, hV3⟩ : ∃ V, w3 = V := ⟨_, rfl⟩
  subst hV3
  go_loopw [7] (fun i wr => ∃ k : Nat, k ≤ n ∧ i = .int .i64 k ∧ Below w3.heap.size w3 wr) (fun i _ => n - (intOf i).toNat)
  case atStart => exact ⟨0, Nat.zero_le _, rfl, Below.refl _ _⟩
  case round =>
    obtain ⟨k, hk, rfl, hB⟩ := hrel
    by_cases hlt2 : k < n
    · obtain ⟨aL2, cL2, hvL, _, _, hL3⟩ := HLd.out
      simp only [Value.slice.injEq] at hvL
      obtain ⟨rfl, _, rfl⟩ := hvL
      obtain ⟨bl, ol, rfl, hlc⟩ := hL3 (by omega)
      have l0 := cell_later hB (hlc k hlt2).1
      clear hlc hL3
      have hx0 := (hHM.out.hL k hlt2).me0
      have hx1 := (hHM.out.hL k hlt2).me1
      obtain ⟨m, hm⟩ : ∃ m, (L k).me = m := ⟨_, rfl⟩
      have Hm := Lib.hid hm
      rw [hm] at l0 hx0 hx1
      clear hm
      have jX := HJ.out.call hB
      obtain ⟨m0, m1, m2, m3, m4, m5, m6, m7, m8, m9, m10, m11, m12, m13⟩ := jX.c14
      have zX := jX.lt
      have zl := World.block_lt_of_cell? _ _ l0
      go_upto_region 10 with fail
      clear m0 m1 m2 m3 m4 m5 m6 m7 m8 m9 m10 m11 m12 m13 zX zl l0 jX
      obtain ⟨B9, hB9⟩ : ∃ z, wr.heap.size = z := ⟨_, rfl⟩
      have HB9 := Lib.hid hB9
      have GB9 : Hid (∀ W, Below B9 wr W → Below wr.heap.size wr W) := fun W h => by rw [hB9]; exact h
      clear hB9
      go_cut [9] (fun s9 wx => ∃ (bT : Nat) (vT vc vW : Value), s9 = .pointer (some ⟨bT, 0, none⟩) ∧ Blk wx bT #[.int .i64 p.s0, vT, vc, vW] 77 ∧ IntsAt wx vT ni (wstT p false I0 I1 C0 C1 L m).T ∧ IntsAt wx vc nc (wstT p false I0 I1 C0 C1 L m).c ∧ IntsAt wx vW n (wstT p false I0 I1 C0 C1 L m).W ∧ Below wr.heap.size wr wx)
      case first =>
        (
 refine wp_region_held_drew (S := (fun w' => Below B9 wr w')) (by kernel_rfl) ?_ (fun hH => ?_)
 · (try dsimp only); (rw [← HB9.out]; exact (Below.refl _ _).drew)
 refine tkY 0 (some 49) ?_ ?_ ?_
 rotate_left
 · intro w hS0; (try dsimp only at hS0); have kX := HJ.out.call (bwS hB (Nat.le_refl _) (GB9.out _ hS0)); obtain ⟨m0, m1, m2, m3, m4, m5, m6, m7, m8, m9, m10, m11, m12, m13⟩ := kX.c14; have y1 := kX.lt;go_simp; (try with_reducible rfl)
 (try simp only [cq])
 refine tkY 1 (some 50) ?_ ?_ ?_
 rotate_left
 · intro w hS0; (try dsimp only at hS0); have kX := HJ.out.call (bwS hB (Nat.le_refl _) (GB9.out _ hS0)); obtain ⟨m0, m1, m2, m3, m4, m5, m6, m7, m8, m9, m10, m11, m12, m13⟩ := kX.c14; have y1 := kX.lt;go_simp; (try with_reducible rfl)
 (try simp only [cq])
 refine tkY 2 (some 51) ?_ ?_ ?_
 rotate_left
 · intro w hS0; (try dsimp only at hS0); have kX := HJ.out.call (bwS hB (Nat.le_refl _) (GB9.out _ hS0)); obtain ⟨m0, m1, m2, m3, m4, m5, m6, m7, m8, m9, m10, m11, m12, m13⟩ := kX.c14; have y1 := kX.lt;go_simp; (try with_reducible rfl)
 (try simp only [cq])
 refine tkY 3 (some 52) ?_ ?_ ?_
 rotate_left
 · intro w hS0; (try dsimp only at hS0); have kX := HJ.out.call (bwS hB (Nat.le_refl _) (GB9.out _ hS0)); obtain ⟨m0, m1, m2, m3, m4, m5, m6, m7, m8, m9, m10, m11, m12, m13⟩ := kX.c14; have y1 := kX.lt;go_simp; (try with_reducible rfl)
 (try simp only [cq])
 refine tkY 4 (some 53) ?_ ?_ ?_
 rotate_left
 · intro w hS0; (try dsimp only at hS0); have kX := HJ.out.call (bwS hB (Nat.le_refl _) (GB9.out _ hS0)); obtain ⟨m0, m1, m2, m3, m4, m5, m6, m7, m8, m9, m10, m11, m12, m13⟩ := kX.c14; have y1 := kX.lt;go_simp; (try with_reducible rfl)
 (try simp only [cq])
 refine tkY 5 (some 54) ?_ ?_ ?_
 rotate_left
 · intro w hS0; (try dsimp only at hS0); have kX := HJ.out.call (bwS hB (Nat.le_refl _) (GB9.out _ hS0)); obtain ⟨m0, m1, m2, m3, m4, m5, m6, m7, m8, m9, m10, m11, m12, m13⟩ := kX.c14; have y1 := kX.lt;go_simp; (try with_reducible rfl)
 (try simp only [cq])
 refine tkY 7 (some 56) ?_ ?_ ?_
 rotate_left
 · intro w hS0; (try dsimp only at hS0); have kX := HJ.out.call (bwS hB (Nat.le_refl _) (GB9.out _ hS0)); obtain ⟨m0, m1, m2, m3, m4, m5, m6, m7, m8, m9, m10, m11, m12, m13⟩ := kX.c14; have y1 := kX.lt;go_simp; (try with_reducible rfl)
 (try simp only [cq])
 refine tkY 8 (some 57) ?_ ?_ ?_
 rotate_left
 · intro w hS0; (try dsimp only at hS0); have kX := HJ.out.call (bwS hB (Nat.le_refl _) (GB9.out _ hS0)); obtain ⟨m0, m1, m2, m3, m4, m5, m6, m7, m8, m9, m10, m11, m12, m13⟩ := kX.c14; have y1 := kX.lt;go_simp; (try with_reducible rfl)
 (try simp only [cq])
 refine tkY 9 (some 58) ?_ ?_ ?_
 rotate_left
 · intro w _; go_simp; (try with_reducible rfl)
 (try simp only [cq])
 refine tkY 11 (some 60) ?_ ?_ ?_
 rotate_left
 · intro w hS0; (try dsimp only at hS0); have kX := HJ.out.call (bwS hB (Nat.le_refl _) (GB9.out _ hS0)); obtain ⟨m0, m1, m2, m3, m4, m5, m6, m7, m8, m9, m10, m11, m12, m13⟩ := kX.c14; have y1 := kX.lt;go_simp; (try with_reducible rfl)
 (try simp only [cq])
 refine tkY 12 (some 61) ?_ ?_ ?_
 rotate_left
 · intro w hS0; (try dsimp only at hS0); have kX := HJ.out.call (bwS hB (Nat.le_refl _) (GB9.out _ hS0)); obtain ⟨m0, m1, m2, m3, m4, m5, m6, m7, m8, m9, m10, m11, m12, m13⟩ := kX.c14; have y1 := kX.lt;go_simp; (try with_reducible rfl)
 (try simp only [cq])
 refine wpAnyH_ready (rs := [6, 16]) (by kernel_rfl) (by simp) ?_
 refine arc (some 55) (fun K hK => ?_) ?_
 {
 go_simp
 (refine (kend_any ni _ I0 I1 false (by omega) _ (HI.out.later (bwS hB (Nat.le_refl _) (GB9.out _ hH)))).mono ?_; rintro e w' ⟨uT, rfl, rT, hb⟩; replace rT := ownsRow_base (b1 := 0) rT (Nat.zero_le _); obtain ⟨aT, cT, hvT, _, _, _⟩ := ints_of_row rT; subst hvT; (try replace kN := kN.call hb))
 refine hK.out _ _ ?_ ?_
 · (exact hH.trans (hb.mono (by have := hH.size; have := HB9.out; omega)))
 (try clear hH); (try clear hb)
 intro hH
 clear hK K
 (try simp only [cq])
 refine wpAnyH_ready (rs := [10, 16]) (by kernel_rfl) (by simp) ?_
 refine arc (some 59) (fun K hK => ?_) ?_
 {
 go_simp
 (refine (kmoved_any nc _ C0 C1 m true (by omega) (by omega) HCb.out _ (HKp.out.later (bwS hB (Nat.le_refl _) (GB9.out _ hH)))).mono ?_; rintro e w' ⟨uc, rfl, rc, hb⟩; replace rc := ownsRow_base (b1 := 0) rc (Nat.zero_le _); obtain ⟨ac, cc, hvc, _, _, _⟩ := ints_of_row rc; subst hvc; replace rT := row_call rT hb; (try replace kN := kN.call hb))
 refine hK.out _ _ ?_ ?_
 · (exact hH.trans (hb.mono (by have := hH.size; have := HB9.out; omega)))
 (try clear hH); (try clear hb)
 intro hH
 clear hK K
 (try simp only [cq])
 refine wpAnyH_ready (rs := [13, 16]) (by kernel_rfl) (by simp) ?_
 refine arc (some 62) (fun K hK => ?_) ?_
 {
 go_simp
 (refine (kweights_any n _ L (by omega) _ (HLd.out.later (bwS hB (Nat.le_refl _) (GB9.out _ hH)))).mono ?_; rintro e w' ⟨uV, rfl, rV, hb⟩; replace rV := ownsRow_base (b1 := 0) rV (Nat.zero_le _); replace rT := row_call rT hb; replace rc := row_call rc hb; (try replace kN := kN.call hb))
 refine hK.out _ _ ?_ ?_
 · (exact hH.trans (hb.mono (by have := hH.size; have := HB9.out; omega)))
 (try clear hH); (try clear hb)
 intro hH
 clear hK K
 (try simp only [cq])
 refine wpAnyH_ready (rs := [14, 16]) (by kernel_rfl) (by simp) ?_
 refine arc (some 63) (fun K hK => ?_) ?_
 {
 go_simp
 (refine (kend_any n _ (fun i => (L i).w0) (fun i => (L i).w1) true (by omega) _ (pairs_of_row rV)).mono ?_; rintro e w' ⟨uW, rfl, rW, hb⟩; replace rW := ownsRow_base (b1 := 0) rW (Nat.zero_le _); obtain ⟨aW, cW, hvW, _, _, _⟩ := ints_of_row rW; subst hvW; replace rT := row_call rT hb; replace rc := row_call rc hb; (try replace kN := kN.call hb); clear rV)
 refine hK.out _ _ ?_ ?_
 · (exact hH.trans (hb.mono (by have := hH.size; have := HB9.out; omega)))
 (try clear hH); (try clear hb)
 intro hH
 clear hK K
 (try simp only [cq])
 refine tkY 15 (some 64) ?_ ?_ ?_
 rotate_left
 · intro w _; go_simp; (try with_reducible rfl)
 (try simp only [cq])
 refine wpAnyH_ready (rs := [16]) (by kernel_rfl) (by simp) ?_
 refine arc1 (some 9) fun K hK => ?_
 have zz := Nat.le_trans (Nat.le_of_eq HB9.out.symm) hH.size
 go_simp
 first | refine oA hK ?_ (fun hH hA => ?_) | refine oD hK ?_ (fun hH hA => ?_)
 · exact hH.alloc (by have := hH.size; have := HB9.out; omega) _
 have kN := hA
 clear hA
 obtain ⟨bN, hbN⟩ : ∃ b, Blk.num kN = b := ⟨_, rfl⟩
 simp only [Blk.num] at hbN
 have zN : B9 ≤ bN := by rw [← hbN]; exact zz
 rw [hbN] at kN ⊢
 clear hbN zz
 (try replace rT := rT.alloc (.cells #[.int .i64 0, .slice none 0 0, .slice none 0 0, .slice none 0 0] 77))
 (try replace rc := rc.alloc (.cells #[.int .i64 0, .slice none 0 0, .slice none 0 0, .slice none 0 0] 77))
 (try replace rV := rV.alloc (.cells #[.int .i64 0, .slice none 0 0, .slice none 0 0, .slice none 0 0] 77))
 (try replace rW := rW.alloc (.cells #[.int .i64 0, .slice none 0 0, .slice none 0 0, .slice none 0 0] 77))
 clear hK K
 (try simp only [cq])
 refine wpAnyH_ready (rs := [17]) (by kernel_rfl) (by simp) ?_
 refine arc1 none fun K hK => ?_
 obtain ⟨q0, q1, q2, q3⟩ := kN.c4
 have f0 := kN.free 0
 have f1 := kN.free 1
 have f2 := kN.free 2
 have f3 := kN.free 3
 have zN2 := kN.lt
 have HS := Lib.hid (kN.set4 (.int .i64 p.s0) (.slice aT ni cT) (.slice ac nc cc) (.slice aW n cW))
 have HG := Lib.hid (below_set4 hH zN (.int .i64 p.s0) (.slice aT ni cT) (.slice ac nc cc) (.slice aW n cW))
 have GT := Lib.hid (ints_of_row (row_put4 rT kN (by decide) (.int .i64 p.s0) (.slice aT ni cT) (.slice ac nc cc) (.slice aW n cW)))
 have Gc := Lib.hid (ints_of_row (row_put4 rc kN (by decide) (.int .i64 p.s0) (.slice aT ni cT) (.slice ac nc cc) (.slice aW n cW)))
 have GW := Lib.hid (ints_of_row (row_put4 rW kN (by decide) (.int .i64 p.s0) (.slice aT ni cT) (.slice ac nc cc) (.slice aW n cW)))
 go_simp
 refine hK.out _ _ ?_ ?_
 · exact HG.out
 (try clear hH); (try clear hb)
 intro hH
 clear hK K
 (try simp only [cq])
 refine wpAnyH_done (by kernel_rfl) ?_ _
 (try dsimp only [Act.put])
 (try simp only [cq])
 clear q0 q1 q2 q3 f0 f1 f2 f3 zN2 HG kN rT rc rW
 go_wp2_with fail
 go_meet
 exact ⟨bN, _, _, _, rfl, HS.out, GT.out, Gc.out, GW.out, GB9.out _ hH⟩
 }
 refine arc (some 9) (fun K hK => ?_) ?_
 {
 have zz := Nat.le_trans (Nat.le_of_eq HB9.out.symm) hH.size
 go_simp
 first | refine oA hK ?_ (fun hH hA => ?_) | refine oD hK ?_ (fun hH hA => ?_)
 · exact hH.alloc (by have := hH.size; have := HB9.out; omega) _
 have kN := hA
 clear hA
 obtain ⟨bN, hbN⟩ : ∃ b, Blk.num kN = b := ⟨_, rfl⟩
 simp only [Blk.num] at hbN
 have zN : B9 ≤ bN := by rw [← hbN]; exact zz
 rw [hbN] at kN ⊢
 clear hbN zz
 (try replace rT := rT.alloc (.cells #[.int .i64 0, .slice none 0 0, .slice none 0 0, .slice none 0 0] 77))
 (try replace rc := rc.alloc (.cells #[.int .i64 0, .slice none 0 0, .slice none 0 0, .slice none 0 0] 77))
 (try replace rV := rV.alloc (.cells #[.int .i64 0, .slice none 0 0, .slice none 0 0, .slice none 0 0] 77))
 (try replace rW := rW.alloc (.cells #[.int .i64 0, .slice none 0 0, .slice none 0 0, .slice none 0 0] 77))
 clear hK K
 (try simp only [cq])
 refine wpAnyH_ready (rs := [14]) (by kernel_rfl) (by simp) ?_
 refine arc1 (some 63) fun K hK => ?_
 go_simp
 (refine (kend_any n _ (fun i => (L i).w0) (fun i => (L i).w1) true (by omega) _ (pairs_of_row rV)).mono ?_; rintro e w' ⟨uW, rfl, rW, hb⟩; replace rW := ownsRow_base (b1 := 0) rW (Nat.zero_le _); obtain ⟨aW, cW, hvW, _, _, _⟩ := ints_of_row rW; subst hvW; replace rT := row_call rT hb; replace rc := row_call rc hb; (try replace kN := kN.call hb); clear rV)
 refine hK.out _ _ ?_ ?_
 · (exact hH.trans (hb.mono (by have := hH.size; have := HB9.out; omega)))
 (try clear hH); (try clear hb)
 intro hH
 clear hK K
 (try simp only [cq])
 refine tkY 15 (some 64) ?_ ?_ ?_
 rotate_left
 · intro w _; go_simp; (try with_reducible rfl)
 (try simp only [cq])
 refine wpAnyH_ready (rs := [17]) (by kernel_rfl) (by simp) ?_
 refine arc1 none fun K hK => ?_
 obtain ⟨q0, q1, q2, q3⟩ := kN.c4
 have f0 := kN.free 0
 have f1 := kN.free 1
 have f2 := kN.free 2
 have f3 := kN.free 3
 have zN2 := kN.lt
 have HS := Lib.hid (kN.set4 (.int .i64 p.s0) (.slice aT ni cT) (.slice ac nc cc) (.slice aW n cW))
 have HG := Lib.hid (below_set4 hH zN (.int .i64 p.s0) (.slice aT ni cT) (.slice ac nc cc) (.slice aW n cW))
 have GT := Lib.hid (ints_of_row (row_put4 rT kN (by decide) (.int .i64 p.s0) (.slice aT ni cT) (.slice ac nc cc) (.slice aW n cW)))
 have Gc := Lib.hid (ints_of_row (row_put4 rc kN (by decide) (.int .i64 p.s0) (.slice aT ni cT) (.slice ac nc cc) (.slice aW n cW)))
 have GW := Lib.hid (ints_of_row (row_put4 rW kN (by decide) (.int .i64 p.s0) (.slice aT ni cT) (.slice ac nc cc) (.slice aW n cW)))
 go_simp
 refine hK.out _ _ ?_ ?_
 · exact HG.out
 (try clear hH); (try clear hb)
 intro hH
 clear hK K
 (try simp only [cq])
 refine wpAnyH_done (by kernel_rfl) ?_ _
 (try dsimp only [Act.put])
 (try simp only [cq])
 clear q0 q1 q2 q3 f0 f1 f2 f3 zN2 HG kN rT rc rW
 go_wp2_with fail
 go_meet
 exact ⟨bN, _, _, _, rfl, HS.out, GT.out, Gc.out, GW.out, GB9.out _ hH⟩
 }
 exact AllReadyH.nil
 }
 refine arc (some 9) (fun K hK => ?_) ?_
 {
 have zz := Nat.le_trans (Nat.le_of_eq HB9.out.symm) hH.size
 go_simp
 first | refine oA hK ?_ (fun hH hA => ?_) | refine oD hK ?_ (fun hH hA => ?_)
 · exact hH.alloc (by have := hH.size; have := HB9.out; omega) _
 have kN := hA
 clear hA
 obtain ⟨bN, hbN⟩ : ∃ b, Blk.num kN = b := ⟨_, rfl⟩
 simp only [Blk.num] at hbN
 have zN : B9 ≤ bN := by rw [← hbN]; exact zz
 rw [hbN] at kN ⊢
 clear hbN zz
 (try replace rT := rT.alloc (.cells #[.int .i64 0, .slice none 0 0, .slice none 0 0, .slice none 0 0] 77))
 (try replace rc := rc.alloc (.cells #[.int .i64 0, .slice none 0 0, .slice none 0 0, .slice none 0 0] 77))
 (try replace rV := rV.alloc (.cells #[.int .i64 0, .slice none 0 0, .slice none 0 0, .slice none 0 0] 77))
 (try replace rW := rW.alloc (.cells #[.int .i64 0, .slice none 0 0, .slice none 0 0, .slice none 0 0] 77))
 clear hK K
 (try simp only [cq])
 refine wpAnyH_ready (rs := [13]) (by kernel_rfl) (by simp) ?_
 refine arc1 (some 62) fun K hK => ?_
 go_simp
 (refine (kweights_any n _ L (by omega) _ (HLd.out.later (bwS hB (Nat.le_refl _) (GB9.out _ hH)))).mono ?_; rintro e w' ⟨uV, rfl, rV, hb⟩; replace rV := ownsRow_base (b1 := 0) rV (Nat.zero_le _); replace rT := row_call rT hb; replace rc := row_call rc hb; (try replace kN := kN.call hb))
 refine hK.out _ _ ?_ ?_
 · (exact hH.trans (hb.mono (by have := hH.size; have := HB9.out; omega)))
 (try clear hH); (try clear hb)
 intro hH
 clear hK K
 (try simp only [cq])
 refine wpAnyH_ready (rs := [14]) (by kernel_rfl) (by simp) ?_
 refine arc1 (some 63) fun K hK => ?_
 go_simp
 (refine (kend_any n _ (fun i => (L i).w0) (fun i => (L i).w1) true (by omega) _ (pairs_of_row rV)).mono ?_; rintro e w' ⟨uW, rfl, rW, hb⟩; replace rW := ownsRow_base (b1 := 0) rW (Nat.zero_le _); obtain ⟨aW, cW, hvW, _, _, _⟩ := ints_of_row rW; subst hvW; replace rT := row_call rT hb; replace rc := row_call rc hb; (try replace kN := kN.call hb); clear rV)
 refine hK.out _ _ ?_ ?_
 · (exact hH.trans (hb.mono (by have := hH.size; have := HB9.out; omega)))
 (try clear hH); (try clear hb)
 intro hH
 clear hK K
 (try simp only [cq])
 refine tkY 15 (some 64) ?_ ?_ ?_
 rotate_left
 · intro w _; go_simp; (try with_reducible rfl)
 (try simp only [cq])
 refine wpAnyH_ready (rs := [17]) (by kernel_rfl) (by simp) ?_
 refine arc1 none fun K hK => ?_
 obtain ⟨q0, q1, q2, q3⟩ := kN.c4
 have f0 := kN.free 0
 have f1 := kN.free 1
 have f2 := kN.free 2
 have f3 := kN.free 3
 have zN2 := kN.lt
 have HS := Lib.hid (kN.set4 (.int .i64 p.s0) (.slice aT ni cT) (.slice ac nc cc) (.slice aW n cW))
 have HG := Lib.hid (below_set4 hH zN (.int .i64 p.s0) (.slice aT ni cT) (.slice ac nc cc) (.slice aW n cW))
 have GT := Lib.hid (ints_of_row (row_put4 rT kN (by decide) (.int .i64 p.s0) (.slice aT ni cT) (.slice ac nc cc) (.slice aW n cW)))
 have Gc := Lib.hid (ints_of_row (row_put4 rc kN (by decide) (.int .i64 p.s0) (.slice aT ni cT) (.slice ac nc cc) (.slice aW n cW)))
 have GW := Lib.hid (ints_of_row (row_put4 rW kN (by decide) (.int .i64 p.s0) (.slice aT ni cT) (.slice ac nc cc) (.slice aW n cW)))
 go_simp
 refine hK.out _ _ ?_ ?_
 · exact HG.out
 (try clear hH); (try clear hb)
 intro hH
 clear hK K
 (try simp only [cq])
 refine wpAnyH_done (by kernel_rfl) ?_ _
 (try dsimp only [Act.put])
 (try simp only [cq])
 clear q0 q1 q2 q3 f0 f1 f2 f3 zN2 HG kN rT rc rW
 go_wp2_with fail
 go_meet
 exact ⟨bN, _, _, _, rfl, HS.out, GT.out, Gc.out, GW.out, GB9.out _ hH⟩
 }
 exact AllReadyH.nil
 }
 refine arc (some 9) (fun K hK => ?_) ?_
 {
 have zz := Nat.le_trans (Nat.le_of_eq HB9.out.symm) hH.size
 go_simp
 first | refine oA hK ?_ (fun hH hA => ?_) | refine oD hK ?_ (fun hH hA => ?_)
 · exact hH.alloc (by have := hH.size; have := HB9.out; omega) _
 have kN := hA
 clear hA
 obtain ⟨bN, hbN⟩ : ∃ b, Blk.num kN = b := ⟨_, rfl⟩
 simp only [Blk.num] at hbN
 have zN : B9 ≤ bN := by rw [← hbN]; exact zz
 rw [hbN] at kN ⊢
 clear hbN zz
 (try replace rT := rT.alloc (.cells #[.int .i64 0, .slice none 0 0, .slice none 0 0, .slice none 0 0] 77))
 (try replace rc := rc.alloc (.cells #[.int .i64 0, .slice none 0 0, .slice none 0 0, .slice none 0 0] 77))
 (try replace rV := rV.alloc (.cells #[.int .i64 0, .slice none 0 0, .slice none 0 0, .slice none 0 0] 77))
 (try replace rW := rW.alloc (.cells #[.int .i64 0, .slice none 0 0, .slice none 0 0, .slice none 0 0] 77))
 clear hK K
 (try simp only [cq])
 refine wpAnyH_ready (rs := [10]) (by kernel_rfl) (by simp) ?_
 refine arc1 (some 59) fun K hK => ?_
 go_simp
 (refine (kmoved_any nc _ C0 C1 m true (by omega) (by omega) HCb.out _ (HKp.out.later (bwS hB (Nat.le_refl _) (GB9.out _ hH)))).mono ?_; rintro e w' ⟨uc, rfl, rc, hb⟩; replace rc := ownsRow_base (b1 := 0) rc (Nat.zero_le _); obtain ⟨ac, cc, hvc, _, _, _⟩ := ints_of_row rc; subst hvc; replace rT := row_call rT hb; (try replace kN := kN.call hb))
 refine hK.out _ _ ?_ ?_
 · (exact hH.trans (hb.mono (by have := hH.size; have := HB9.out; omega)))
 (try clear hH); (try clear hb)
 intro hH
 clear hK K
 (try simp only [cq])
 refine wpAnyH_ready (rs := [13]) (by kernel_rfl) (by simp) ?_
 refine arc1 (some 62) fun K hK => ?_
 go_simp
 (refine (kweights_any n _ L (by omega) _ (HLd.out.later (bwS hB (Nat.le_refl _) (GB9.out _ hH)))).mono ?_; rintro e w' ⟨uV, rfl, rV, hb⟩; replace rV := ownsRow_base (b1 := 0) rV (Nat.zero_le _); replace rT := row_call rT hb; replace rc := row_call rc hb; (try replace kN := kN.call hb))
 refine hK.out _ _ ?_ ?_
 · (exact hH.trans (hb.mono (by have := hH.size; have := HB9.out; omega)))
 (try clear hH); (try clear hb)
 intro hH
 clear hK K
 (try simp only [cq])
 refine wpAnyH_ready (rs := [14]) (by kernel_rfl) (by simp) ?_
 refine arc1 (some 63) fun K hK => ?_
 go_simp
 (refine (kend_any n _ (fun i => (L i).w0) (fun i => (L i).w1) true (by omega) _ (pairs_of_row rV)).mono ?_; rintro e w' ⟨uW, rfl, rW, hb⟩; replace rW := ownsRow_base (b1 := 0) rW (Nat.zero_le _); obtain ⟨aW, cW, hvW, _, _, _⟩ := ints_of_row rW; subst hvW; replace rT := row_call rT hb; replace rc := row_call rc hb; (try replace kN := kN.call hb); clear rV)
 refine hK.out _ _ ?_ ?_
 · (exact hH.trans (hb.mono (by have := hH.size; have := HB9.out; omega)))
 (try clear hH); (try clear hb)
 intro hH
 clear hK K
 (try simp only [cq])
 refine tkY 15 (some 64) ?_ ?_ ?_
 rotate_left
 · intro w _; go_simp; (try with_reducible rfl)
 (try simp only [cq])
 refine wpAnyH_ready (rs := [17]) (by kernel_rfl) (by simp) ?_
 refine arc1 none fun K hK => ?_
 obtain ⟨q0, q1, q2, q3⟩ := kN.c4
 have f0 := kN.free 0
 have f1 := kN.free 1
 have f2 := kN.free 2
 have f3 := kN.free 3
 have zN2 := kN.lt
 have HS := Lib.hid (kN.set4 (.int .i64 p.s0) (.slice aT ni cT) (.slice ac nc cc) (.slice aW n cW))
 have HG := Lib.hid (below_set4 hH zN (.int .i64 p.s0) (.slice aT ni cT) (.slice ac nc cc) (.slice aW n cW))
 have GT := Lib.hid (ints_of_row (row_put4 rT kN (by decide) (.int .i64 p.s0) (.slice aT ni cT) (.slice ac nc cc) (.slice aW n cW)))
 have Gc := Lib.hid (ints_of_row (row_put4 rc kN (by decide) (.int .i64 p.s0) (.slice aT ni cT) (.slice ac nc cc) (.slice aW n cW)))
 have GW := Lib.hid (ints_of_row (row_put4 rW kN (by decide) (.int .i64 p.s0) (.slice aT ni cT) (.slice ac nc cc) (.slice aW n cW)))
 go_simp
 refine hK.out _ _ ?_ ?_
 · exact HG.out
 (try clear hH); (try clear hb)
 intro hH
 clear hK K
 (try simp only [cq])
 refine wpAnyH_done (by kernel_rfl) ?_ _
 (try dsimp only [Act.put])
 (try simp only [cq])
 clear q0 q1 q2 q3 f0 f1 f2 f3 zN2 HG kN rT rc rW
 go_wp2_with fail
 go_meet
 exact ⟨bN, _, _, _, rfl, HS.out, GT.out, Gc.out, GW.out, GB9.out _ hH⟩
 }
 exact AllReadyH.nil
 }
 refine arc (some 9) (fun K hK => ?_) ?_
 {
 have zz := Nat.le_trans (Nat.le_of_eq HB9.out.symm) hH.size
 go_simp
 first | refine oA hK ?_ (fun hH hA => ?_) | refine oD hK ?_ (fun hH hA => ?_)
 · exact hH.alloc (by have := hH.size; have := HB9.out; omega) _
 have kN := hA
 clear hA
 obtain ⟨bN, hbN⟩ : ∃ b, Blk.num kN = b := ⟨_, rfl⟩
 simp only [Blk.num] at hbN
 have zN : B9 ≤ bN := by rw [← hbN]; exact zz
 rw [hbN] at kN ⊢
 clear hbN zz
 (try replace rT := rT.alloc (.cells #[.int .i64 0, .slice none 0 0, .slice none 0 0, .slice none 0 0] 77))
 (try replace rc := rc.alloc (.cells #[.int .i64 0, .slice none 0 0, .slice none 0 0, .slice none 0 0] 77))
 (try replace rV := rV.alloc (.cells #[.int .i64 0, .slice none 0 0, .slice none 0 0, .slice none 0 0] 77))
 (try replace rW := rW.alloc (.cells #[.int .i64 0, .slice none 0 0, .slice none 0 0, .slice none 0 0] 77))
 clear hK K
 (try simp only [cq])
 refine wpAnyH_ready (rs := [6]) (by kernel_rfl) (by simp) ?_
 refine arc1 (some 55) fun K hK => ?_
 go_simp
 (refine (kend_any ni _ I0 I1 false (by omega) _ (HI.out.later (bwS hB (Nat.le_refl _) (GB9.out _ hH)))).mono ?_; rintro e w' ⟨uT, rfl, rT, hb⟩; replace rT := ownsRow_base (b1 := 0) rT (Nat.zero_le _); obtain ⟨aT, cT, hvT, _, _, _⟩ := ints_of_row rT; subst hvT; (try replace kN := kN.call hb))
 refine hK.out _ _ ?_ ?_
 · (exact hH.trans (hb.mono (by have := hH.size; have := HB9.out; omega)))
 (try clear hH); (try clear hb)
 intro hH
 clear hK K
 (try simp only [cq])
 refine wpAnyH_ready (rs := [10]) (by kernel_rfl) (by simp) ?_
 refine arc1 (some 59) fun K hK => ?_
 go_simp
 (refine (kmoved_any nc _ C0 C1 m true (by omega) (by omega) HCb.out _ (HKp.out.later (bwS hB (Nat.le_refl _) (GB9.out _ hH)))).mono ?_; rintro e w' ⟨uc, rfl, rc, hb⟩; replace rc := ownsRow_base (b1 := 0) rc (Nat.zero_le _); obtain ⟨ac, cc, hvc, _, _, _⟩ := ints_of_row rc; subst hvc; replace rT := row_call rT hb; (try replace kN := kN.call hb))
 refine hK.out _ _ ?_ ?_
 · (exact hH.trans (hb.mono (by have := hH.size; have := HB9.out; omega)))
 (try clear hH); (try clear hb)
 intro hH
 clear hK K
 (try simp only [cq])
 refine wpAnyH_ready (rs := [13]) (by kernel_rfl) (by simp) ?_
 refine arc1 (some 62) fun K hK => ?_
 go_simp
 (refine (kweights_any n _ L (by omega) _ (HLd.out.later (bwS hB (Nat.le_refl _) (GB9.out _ hH)))).mono ?_; rintro e w' ⟨uV, rfl, rV, hb⟩; replace rV := ownsRow_base (b1 := 0) rV (Nat.zero_le _); replace rT := row_call rT hb; replace rc := row_call rc hb; (try replace kN := kN.call hb))
 refine hK.out _ _ ?_ ?_
 · (exact hH.trans (hb.mono (by have := hH.size; have := HB9.out; omega)))
 (try clear hH); (try clear hb)
 intro hH
 clear hK K
 (try simp only [cq])
 refine wpAnyH_ready (rs := [14]) (by kernel_rfl) (by simp) ?_
 refine arc1 (some 63) fun K hK => ?_
 go_simp
 (refine (kend_any n _ (fun i => (L i).w0) (fun i => (L i).w1) true (by omega) _ (pairs_of_row rV)).mono ?_; rintro e w' ⟨uW, rfl, rW, hb⟩; replace rW := ownsRow_base (b1 := 0) rW (Nat.zero_le _); obtain ⟨aW, cW, hvW, _, _, _⟩ := ints_of_row rW; subst hvW; replace rT := row_call rT hb; replace rc := row_call rc hb; (try replace kN := kN.call hb); clear rV)
 refine hK.out _ _ ?_ ?_
 · (exact hH.trans (hb.mono (by have := hH.size; have := HB9.out; omega)))
 (try clear hH); (try clear hb)
 intro hH
 clear hK K
 (try simp only [cq])
 refine tkY 15 (some 64) ?_ ?_ ?_
 rotate_left
 · intro w _; go_simp; (try with_reducible rfl)
 (try simp only [cq])
 refine wpAnyH_ready (rs := [17]) (by kernel_rfl) (by simp) ?_
 refine arc1 none fun K hK => ?_
 obtain ⟨q0, q1, q2, q3⟩ := kN.c4
 have f0 := kN.free 0
 have f1 := kN.free 1
 have f2 := kN.free 2
 have f3 := kN.free 3
 have zN2 := kN.lt
 have HS := Lib.hid (kN.set4 (.int .i64 p.s0) (.slice aT ni cT) (.slice ac nc cc) (.slice aW n cW))
 have HG := Lib.hid (below_set4 hH zN (.int .i64 p.s0) (.slice aT ni cT) (.slice ac nc cc) (.slice aW n cW))
 have GT := Lib.hid (ints_of_row (row_put4 rT kN (by decide) (.int .i64 p.s0) (.slice aT ni cT) (.slice ac nc cc) (.slice aW n cW)))
 have Gc := Lib.hid (ints_of_row (row_put4 rc kN (by decide) (.int .i64 p.s0) (.slice aT ni cT) (.slice ac nc cc) (.slice aW n cW)))
 have GW := Lib.hid (ints_of_row (row_put4 rW kN (by decide) (.int .i64 p.s0) (.slice aT ni cT) (.slice ac nc cc) (.slice aW n cW)))
 go_simp
 refine hK.out _ _ ?_ ?_
 · exact HG.out
 (try clear hH); (try clear hb)
 intro hH
 clear hK K
 (try simp only [cq])
 refine wpAnyH_done (by kernel_rfl) ?_ _
 (try dsimp only [Act.put])
 (try simp only [cq])
 clear q0 q1 q2 q3 f0 f1 f2 f3 zN2 HG kN rT rc rW
 go_wp2_with fail
 go_meet
 exact ⟨bN, _, _, _, rfl, HS.out, GT.out, Gc.out, GW.out, GB9.out _ hH⟩
 }
 exact AllReadyH.nil )
      case rest =>
        obtain ⟨bT, vT, vc, vW, rfl, jT, hT, hc, hW, hb1⟩ := hcut
        obtain ⟨aT, cT, rfl, _, _, _⟩ := id hT
        obtain ⟨ac, cc, rfl, _, _, _⟩ := id hc
        obtain ⟨aW, cW, rfl, _, _, _⟩ := id hW
        obtain ⟨V4, hV4⟩ : ∃ V, V = wc := ⟨_, rfl⟩
        subst hV4
        have hB2 := bwS hB (Nat.le_refl _) hb1
        have HT1 := Lib.hid jT
        have HIT := Lib.hid (And.intro hT (And.intro hc hW))
        clear jT hT hc hW hB hb1
        go_upto_region 11 with fail
        obtain ⟨B8, hB8⟩ : ∃ z, V4.heap.size = z := ⟨_, rfl⟩
        have HB8 := Lib.hid hB8
        have GB8 : Hid (∀ W, Below B8 V4 W → Below V4.heap.size V4 W) := fun W h => by rw [hB8]; exact h
        clear hB8
        go_cut [10] (fun s10 wx => ∃ (bT : Nat) (uT uc uW : Value), s10 = .pointer (some ⟨bT, 0, none⟩) ∧ Blk wx bT #[.int .i64 p.s1, uT, uc, uW] 77 ∧ IntsAt wx uT ni (wstT p true I0 I1 C0 C1 L m).T ∧ IntsAt wx uc nc (wstT p true I0 I1 C0 C1 L m).c ∧ IntsAt wx uW n (wstT p true I0 I1 C0 C1 L m).W ∧ Below V4.heap.size V4 wx)
        case first =>
          (
 refine wp_region_held_drew (S := (fun w' => Below B8 V4 w')) (by kernel_rfl) ?_ (fun hH => ?_)
 · (try dsimp only); (rw [← HB8.out]; exact (Below.refl _ _).drew)
 refine tkY 0 (some 65) ?_ ?_ ?_
 rotate_left
 · intro w hS0; (try dsimp only at hS0); have kX := HJ.out.call (bwS hB2 (Nat.le_refl _) (GB8.out _ hS0)); obtain ⟨m0, m1, m2, m3, m4, m5, m6, m7, m8, m9, m10, m11, m12, m13⟩ := kX.c14; have y1 := kX.lt;go_simp; (try with_reducible rfl)
 (try simp only [cq])
 refine tkY 1 (some 66) ?_ ?_ ?_
 rotate_left
 · intro w hS0; (try dsimp only at hS0); have kX := HJ.out.call (bwS hB2 (Nat.le_refl _) (GB8.out _ hS0)); obtain ⟨m0, m1, m2, m3, m4, m5, m6, m7, m8, m9, m10, m11, m12, m13⟩ := kX.c14; have y1 := kX.lt;go_simp; (try with_reducible rfl)
 (try simp only [cq])
 refine tkY 2 (some 67) ?_ ?_ ?_
 rotate_left
 · intro w hS0; (try dsimp only at hS0); have kX := HJ.out.call (bwS hB2 (Nat.le_refl _) (GB8.out _ hS0)); obtain ⟨m0, m1, m2, m3, m4, m5, m6, m7, m8, m9, m10, m11, m12, m13⟩ := kX.c14; have y1 := kX.lt;go_simp; (try with_reducible rfl)
 (try simp only [cq])
 refine tkY 3 (some 68) ?_ ?_ ?_
 rotate_left
 · intro w hS0; (try dsimp only at hS0); have kX := HJ.out.call (bwS hB2 (Nat.le_refl _) (GB8.out _ hS0)); obtain ⟨m0, m1, m2, m3, m4, m5, m6, m7, m8, m9, m10, m11, m12, m13⟩ := kX.c14; have y1 := kX.lt;go_simp; (try with_reducible rfl)
 (try simp only [cq])
 refine tkY 4 (some 69) ?_ ?_ ?_
 rotate_left
 · intro w hS0; (try dsimp only at hS0); have kX := HJ.out.call (bwS hB2 (Nat.le_refl _) (GB8.out _ hS0)); obtain ⟨m0, m1, m2, m3, m4, m5, m6, m7, m8, m9, m10, m11, m12, m13⟩ := kX.c14; have y1 := kX.lt;go_simp; (try with_reducible rfl)
 (try simp only [cq])
 refine tkY 5 (some 70) ?_ ?_ ?_
 rotate_left
 · intro w hS0; (try dsimp only at hS0); have kX := HJ.out.call (bwS hB2 (Nat.le_refl _) (GB8.out _ hS0)); obtain ⟨m0, m1, m2, m3, m4, m5, m6, m7, m8, m9, m10, m11, m12, m13⟩ := kX.c14; have y1 := kX.lt;go_simp; (try with_reducible rfl)
 (try simp only [cq])
 refine tkY 7 (some 72) ?_ ?_ ?_
 rotate_left
 · intro w hS0; (try dsimp only at hS0); have kX := HJ.out.call (bwS hB2 (Nat.le_refl _) (GB8.out _ hS0)); obtain ⟨m0, m1, m2, m3, m4, m5, m6, m7, m8, m9, m10, m11, m12, m13⟩ := kX.c14; have y1 := kX.lt;go_simp; (try with_reducible rfl)
 (try simp only [cq])
 refine tkY 8 (some 73) ?_ ?_ ?_
 rotate_left
 · intro w hS0; (try dsimp only at hS0); have kX := HJ.out.call (bwS hB2 (Nat.le_refl _) (GB8.out _ hS0)); obtain ⟨m0, m1, m2, m3, m4, m5, m6, m7, m8, m9, m10, m11, m12, m13⟩ := kX.c14; have y1 := kX.lt;go_simp; (try with_reducible rfl)
 (try simp only [cq])
 refine tkY 9 (some 74) ?_ ?_ ?_
 rotate_left
 · intro w _; go_simp; (try with_reducible rfl)
 (try simp only [cq])
 refine tkY 11 (some 76) ?_ ?_ ?_
 rotate_left
 · intro w hS0; (try dsimp only at hS0); have kX := HJ.out.call (bwS hB2 (Nat.le_refl _) (GB8.out _ hS0)); obtain ⟨m0, m1, m2, m3, m4, m5, m6, m7, m8, m9, m10, m11, m12, m13⟩ := kX.c14; have y1 := kX.lt;go_simp; (try with_reducible rfl)
 (try simp only [cq])
 refine tkY 12 (some 77) ?_ ?_ ?_
 rotate_left
 · intro w hS0; (try dsimp only at hS0); have kX := HJ.out.call (bwS hB2 (Nat.le_refl _) (GB8.out _ hS0)); obtain ⟨m0, m1, m2, m3, m4, m5, m6, m7, m8, m9, m10, m11, m12, m13⟩ := kX.c14; have y1 := kX.lt;go_simp; (try with_reducible rfl)
 (try simp only [cq])
 refine wpAnyH_ready (rs := [6, 16]) (by kernel_rfl) (by simp) ?_
 refine arc (some 71) (fun K hK => ?_) ?_
 {
 go_simp
 (refine (kend_any ni _ I0 I1 true (by omega) _ (HI.out.later (bwS hB2 (Nat.le_refl _) (GB8.out _ hH)))).mono ?_; rintro e w' ⟨uT, rfl, rT, hb⟩; replace rT := ownsRow_base (b1 := 0) rT (Nat.zero_le _); obtain ⟨aT, cT, hvT, _, _, _⟩ := ints_of_row rT; subst hvT; (try replace kN := kN.call hb))
 refine hK.out _ _ ?_ ?_
 · (exact hH.trans (hb.mono (by have := hH.size; have := HB8.out; omega)))
 (try clear hH); (try clear hb)
 intro hH
 clear hK K
 (try simp only [cq])
 refine wpAnyH_ready (rs := [10, 16]) (by kernel_rfl) (by simp) ?_
 refine arc (some 75) (fun K hK => ?_) ?_
 {
 go_simp
 (refine (kmoved_any nc _ C0 C1 m false (by omega) (by omega) HCb.out _ (HKp.out.later (bwS hB2 (Nat.le_refl _) (GB8.out _ hH)))).mono ?_; rintro e w' ⟨uc, rfl, rc, hb⟩; replace rc := ownsRow_base (b1 := 0) rc (Nat.zero_le _); obtain ⟨ac, cc, hvc, _, _, _⟩ := ints_of_row rc; subst hvc; replace rT := row_call rT hb; (try replace kN := kN.call hb))
 refine hK.out _ _ ?_ ?_
 · (exact hH.trans (hb.mono (by have := hH.size; have := HB8.out; omega)))
 (try clear hH); (try clear hb)
 intro hH
 clear hK K
 (try simp only [cq])
 refine wpAnyH_ready (rs := [13, 16]) (by kernel_rfl) (by simp) ?_
 refine arc (some 78) (fun K hK => ?_) ?_
 {
 go_simp
 (refine (kweights_any n _ L (by omega) _ (HLd.out.later (bwS hB2 (Nat.le_refl _) (GB8.out _ hH)))).mono ?_; rintro e w' ⟨uV, rfl, rV, hb⟩; replace rV := ownsRow_base (b1 := 0) rV (Nat.zero_le _); replace rT := row_call rT hb; replace rc := row_call rc hb; (try replace kN := kN.call hb))
 refine hK.out _ _ ?_ ?_
 · (exact hH.trans (hb.mono (by have := hH.size; have := HB8.out; omega)))
 (try clear hH); (try clear hb)
 intro hH
 clear hK K
 (try simp only [cq])
 refine wpAnyH_ready (rs := [14, 16]) (by kernel_rfl) (by simp) ?_
 refine arc (some 79) (fun K hK => ?_) ?_
 {
 go_simp
 (refine (kend_any n _ (fun i => (L i).w0) (fun i => (L i).w1) false (by omega) _ (pairs_of_row rV)).mono ?_; rintro e w' ⟨uW, rfl, rW, hb⟩; replace rW := ownsRow_base (b1 := 0) rW (Nat.zero_le _); obtain ⟨aW, cW, hvW, _, _, _⟩ := ints_of_row rW; subst hvW; replace rT := row_call rT hb; replace rc := row_call rc hb; (try replace kN := kN.call hb); clear rV)
 refine hK.out _ _ ?_ ?_
 · (exact hH.trans (hb.mono (by have := hH.size; have := HB8.out; omega)))
 (try clear hH); (try clear hb)
 intro hH
 clear hK K
 (try simp only [cq])
 refine tkY 15 (some 80) ?_ ?_ ?_
 rotate_left
 · intro w _; go_simp; (try with_reducible rfl)
 (try simp only [cq])
 refine wpAnyH_ready (rs := [16]) (by kernel_rfl) (by simp) ?_
 refine arc1 (some 10) fun K hK => ?_
 have zz := Nat.le_trans (Nat.le_of_eq HB8.out.symm) hH.size
 go_simp
 first | refine oA hK ?_ (fun hH hA => ?_) | refine oD hK ?_ (fun hH hA => ?_)
 · exact hH.alloc (by have := hH.size; have := HB8.out; omega) _
 have kN := hA
 clear hA
 obtain ⟨bN, hbN⟩ : ∃ b, Blk.num kN = b := ⟨_, rfl⟩
 simp only [Blk.num] at hbN
 have zN : B8 ≤ bN := by rw [← hbN]; exact zz
 rw [hbN] at kN ⊢
 clear hbN zz
 (try replace rT := rT.alloc (.cells #[.int .i64 0, .slice none 0 0, .slice none 0 0, .slice none 0 0] 77))
 (try replace rc := rc.alloc (.cells #[.int .i64 0, .slice none 0 0, .slice none 0 0, .slice none 0 0] 77))
 (try replace rV := rV.alloc (.cells #[.int .i64 0, .slice none 0 0, .slice none 0 0, .slice none 0 0] 77))
 (try replace rW := rW.alloc (.cells #[.int .i64 0, .slice none 0 0, .slice none 0 0, .slice none 0 0] 77))
 clear hK K
 (try simp only [cq])
 refine wpAnyH_ready (rs := [17]) (by kernel_rfl) (by simp) ?_
 refine arc1 none fun K hK => ?_
 obtain ⟨q0, q1, q2, q3⟩ := kN.c4
 have f0 := kN.free 0
 have f1 := kN.free 1
 have f2 := kN.free 2
 have f3 := kN.free 3
 have zN2 := kN.lt
 have HS := Lib.hid (kN.set4 (.int .i64 p.s1) (.slice aT ni cT) (.slice ac nc cc) (.slice aW n cW))
 have HG := Lib.hid (below_set4 hH zN (.int .i64 p.s1) (.slice aT ni cT) (.slice ac nc cc) (.slice aW n cW))
 have GT := Lib.hid (ints_of_row (row_put4 rT kN (by decide) (.int .i64 p.s1) (.slice aT ni cT) (.slice ac nc cc) (.slice aW n cW)))
 have Gc := Lib.hid (ints_of_row (row_put4 rc kN (by decide) (.int .i64 p.s1) (.slice aT ni cT) (.slice ac nc cc) (.slice aW n cW)))
 have GW := Lib.hid (ints_of_row (row_put4 rW kN (by decide) (.int .i64 p.s1) (.slice aT ni cT) (.slice ac nc cc) (.slice aW n cW)))
 go_simp
 refine hK.out _ _ ?_ ?_
 · exact HG.out
 (try clear hH); (try clear hb)
 intro hH
 clear hK K
 (try simp only [cq])
 refine wpAnyH_done (by kernel_rfl) ?_ _
 (try dsimp only [Act.put])
 (try simp only [cq])
 clear q0 q1 q2 q3 f0 f1 f2 f3 zN2 HG kN rT rc rW
 go_wp2_with fail
 go_meet
 exact ⟨bN, _, _, _, rfl, HS.out, GT.out, Gc.out, GW.out, GB8.out _ hH⟩
 }
 refine arc (some 10) (fun K hK => ?_) ?_
 {
 have zz := Nat.le_trans (Nat.le_of_eq HB8.out.symm) hH.size
 go_simp
 first | refine oA hK ?_ (fun hH hA => ?_) | refine oD hK ?_ (fun hH hA => ?_)
 · exact hH.alloc (by have := hH.size; have := HB8.out; omega) _
 have kN := hA
 clear hA
 obtain ⟨bN, hbN⟩ : ∃ b, Blk.num kN = b := ⟨_, rfl⟩
 simp only [Blk.num] at hbN
 have zN : B8 ≤ bN := by rw [← hbN]; exact zz
 rw [hbN] at kN ⊢
 clear hbN zz
 (try replace rT := rT.alloc (.cells #[.int .i64 0, .slice none 0 0, .slice none 0 0, .slice none 0 0] 77))
 (try replace rc := rc.alloc (.cells #[.int .i64 0, .slice none 0 0, .slice none 0 0, .slice none 0 0] 77))
 (try replace rV := rV.alloc (.cells #[.int .i64 0, .slice none 0 0, .slice none 0 0, .slice none 0 0] 77))
 (try replace rW := rW.alloc (.cells #[.int .i64 0, .slice none 0 0, .slice none 0 0, .slice none 0 0] 77))
 clear hK K
 (try simp only [cq])
 refine wpAnyH_ready (rs := [14]) (by kernel_rfl) (by simp) ?_
 refine arc1 (some 79) fun K hK => ?_
 go_simp
 (refine (kend_any n _ (fun i => (L i).w0) (fun i => (L i).w1) false (by omega) _ (pairs_of_row rV)).mono ?_; rintro e w' ⟨uW, rfl, rW, hb⟩; replace rW := ownsRow_base (b1 := 0) rW (Nat.zero_le _); obtain ⟨aW, cW, hvW, _, _, _⟩ := ints_of_row rW; subst hvW; replace rT := row_call rT hb; replace rc := row_call rc hb; (try replace kN := kN.call hb); clear rV)
 refine hK.out _ _ ?_ ?_
 · (exact hH.trans (hb.mono (by have := hH.size; have := HB8.out; omega)))
 (try clear hH); (try clear hb)
 intro hH
 clear hK K
 (try simp only [cq])
 refine tkY 15 (some 80) ?_ ?_ ?_
 rotate_left
 · intro w _; go_simp; (try with_reducible rfl)
 (try simp only [cq])
 refine wpAnyH_ready (rs := [17]) (by kernel_rfl) (by simp) ?_
 refine arc1 none fun K hK => ?_
 obtain ⟨q0, q1, q2, q3⟩ := kN.c4
 have f0 := kN.free 0
 have f1 := kN.free 1
 have f2 := kN.free 2
 have f3 := kN.free 3
 have zN2 := kN.lt
 have HS := Lib.hid (kN.set4 (.int .i64 p.s1) (.slice aT ni cT) (.slice ac nc cc) (.slice aW n cW))
 have HG := Lib.hid (below_set4 hH zN (.int .i64 p.s1) (.slice aT ni cT) (.slice ac nc cc) (.slice aW n cW))
 have GT := Lib.hid (ints_of_row (row_put4 rT kN (by decide) (.int .i64 p.s1) (.slice aT ni cT) (.slice ac nc cc) (.slice aW n cW)))
 have Gc := Lib.hid (ints_of_row (row_put4 rc kN (by decide) (.int .i64 p.s1) (.slice aT ni cT) (.slice ac nc cc) (.slice aW n cW)))
 have GW := Lib.hid (ints_of_row (row_put4 rW kN (by decide) (.int .i64 p.s1) (.slice aT ni cT) (.slice ac nc cc) (.slice aW n cW)))
 go_simp
 refine hK.out _ _ ?_ ?_
 · exact HG.out
 (try clear hH); (try clear hb)
 intro hH
 clear hK K
 (try simp only [cq])
 refine wpAnyH_done (by kernel_rfl) ?_ _
 (try dsimp only [Act.put])
 (try simp only [cq])
 clear q0 q1 q2 q3 f0 f1 f2 f3 zN2 HG kN rT rc rW
 go_wp2_with fail
 go_meet
 exact ⟨bN, _, _, _, rfl, HS.out, GT.out, Gc.out, GW.out, GB8.out _ hH⟩
 }
 exact AllReadyH.nil
 }
 refine arc (some 10) (fun K hK => ?_) ?_
 {
 have zz := Nat.le_trans (Nat.le_of_eq HB8.out.symm) hH.size
 go_simp
 first | refine oA hK ?_ (fun hH hA => ?_) | refine oD hK ?_ (fun hH hA => ?_)
 · exact hH.alloc (by have := hH.size; have := HB8.out; omega) _
 have kN := hA
 clear hA
 obtain ⟨bN, hbN⟩ : ∃ b, Blk.num kN = b := ⟨_, rfl⟩
 simp only [Blk.num] at hbN
 have zN : B8 ≤ bN := by rw [← hbN]; exact zz
 rw [hbN] at kN ⊢
 clear hbN zz
 (try replace rT := rT.alloc (.cells #[.int .i64 0, .slice none 0 0, .slice none 0 0, .slice none 0 0] 77))
 (try replace rc := rc.alloc (.cells #[.int .i64 0, .slice none 0 0, .slice none 0 0, .slice none 0 0] 77))
 (try replace rV := rV.alloc (.cells #[.int .i64 0, .slice none 0 0, .slice none 0 0, .slice none 0 0] 77))
 (try replace rW := rW.alloc (.cells #[.int .i64 0, .slice none 0 0, .slice none 0 0, .slice none 0 0] 77))
 clear hK K
 (try simp only [cq])
 refine wpAnyH_ready (rs := [13]) (by kernel_rfl) (by simp) ?_
 refine arc1 (some 78) fun K hK => ?_
 go_simp
 (refine (kweights_any n _ L (by omega) _ (HLd.out.later (bwS hB2 (Nat.le_refl _) (GB8.out _ hH)))).mono ?_; rintro e w' ⟨uV, rfl, rV, hb⟩; replace rV := ownsRow_base (b1 := 0) rV (Nat.zero_le _); replace rT := row_call rT hb; replace rc := row_call rc hb; (try replace kN := kN.call hb))
 refine hK.out _ _ ?_ ?_
 · (exact hH.trans (hb.mono (by have := hH.size; have := HB8.out; omega)))
 (try clear hH); (try clear hb)
 intro hH
 clear hK K
 (try simp only [cq])
 refine wpAnyH_ready (rs := [14]) (by kernel_rfl) (by simp) ?_
 refine arc1 (some 79) fun K hK => ?_
 go_simp
 (refine (kend_any n _ (fun i => (L i).w0) (fun i => (L i).w1) false (by omega) _ (pairs_of_row rV)).mono ?_; rintro e w' ⟨uW, rfl, rW, hb⟩; replace rW := ownsRow_base (b1 := 0) rW (Nat.zero_le _); obtain ⟨aW, cW, hvW, _, _, _⟩ := ints_of_row rW; subst hvW; replace rT := row_call rT hb; replace rc := row_call rc hb; (try replace kN := kN.call hb); clear rV)
 refine hK.out _ _ ?_ ?_
 · (exact hH.trans (hb.mono (by have := hH.size; have := HB8.out; omega)))
 (try clear hH); (try clear hb)
 intro hH
 clear hK K
 (try simp only [cq])
 refine tkY 15 (some 80) ?_ ?_ ?_
 rotate_left
 · intro w _; go_simp; (try with_reducible rfl)
 (try simp only [cq])
 refine wpAnyH_ready (rs := [17]) (by kernel_rfl) (by simp) ?_
 refine arc1 none fun K hK => ?_
 obtain ⟨q0, q1, q2, q3⟩ := kN.c4
 have f0 := kN.free 0
 have f1 := kN.free 1
 have f2 := kN.free 2
 have f3 := kN.free 3
 have zN2 := kN.lt
 have HS := Lib.hid (kN.set4 (.int .i64 p.s1) (.slice aT ni cT) (.slice ac nc cc) (.slice aW n cW))
 have HG := Lib.hid (below_set4 hH zN (.int .i64 p.s1) (.slice aT ni cT) (.slice ac nc cc) (.slice aW n cW))
 have GT := Lib.hid (ints_of_row (row_put4 rT kN (by decide) (.int .i64 p.s1) (.slice aT ni cT) (.slice ac nc cc) (.slice aW n cW)))
 have Gc := Lib.hid (ints_of_row (row_put4 rc kN (by decide) (.int .i64 p.s1) (.slice aT ni cT) (.slice ac nc cc) (.slice aW n cW)))
 have GW := Lib.hid (ints_of_row (row_put4 rW kN (by decide) (.int .i64 p.s1) (.slice aT ni cT) (.slice ac nc cc) (.slice aW n cW)))
 go_simp
 refine hK.out _ _ ?_ ?_
 · exact HG.out
 (try clear hH); (try clear hb)
 intro hH
 clear hK K
 (try simp only [cq])
 refine wpAnyH_done (by kernel_rfl) ?_ _
 (try dsimp only [Act.put])
 (try simp only [cq])
 clear q0 q1 q2 q3 f0 f1 f2 f3 zN2 HG kN rT rc rW
 go_wp2_with fail
 go_meet
 exact ⟨bN, _, _, _, rfl, HS.out, GT.out, Gc.out, GW.out, GB8.out _ hH⟩
 }
 exact AllReadyH.nil
 }
 refine arc (some 10) (fun K hK => ?_) ?_
 {
 have zz := Nat.le_trans (Nat.le_of_eq HB8.out.symm) hH.size
 go_simp
 first | refine oA hK ?_ (fun hH hA => ?_) | refine oD hK ?_ (fun hH hA => ?_)
 · exact hH.alloc (by have := hH.size; have := HB8.out; omega) _
 have kN := hA
 clear hA
 obtain ⟨bN, hbN⟩ : ∃ b, Blk.num kN = b := ⟨_, rfl⟩
 simp only [Blk.num] at hbN
 have zN : B8 ≤ bN := by rw [← hbN]; exact zz
 rw [hbN] at kN ⊢
 clear hbN zz
 (try replace rT := rT.alloc (.cells #[.int .i64 0, .slice none 0 0, .slice none 0 0, .slice none 0 0] 77))
 (try replace rc := rc.alloc (.cells #[.int .i64 0, .slice none 0 0, .slice none 0 0, .slice none 0 0] 77))
 (try replace rV := rV.alloc (.cells #[.int .i64 0, .slice none 0 0, .slice none 0 0, .slice none 0 0] 77))
 (try replace rW := rW.alloc (.cells #[.int .i64 0, .slice none 0 0, .slice none 0 0, .slice none 0 0] 77))
 clear hK K
 (try simp only [cq])
 refine wpAnyH_ready (rs := [10]) (by kernel_rfl) (by simp) ?_
 refine arc1 (some 75) fun K hK => ?_
 go_simp
 (refine (kmoved_any nc _ C0 C1 m false (by omega) (by omega) HCb.out _ (HKp.out.later (bwS hB2 (Nat.le_refl _) (GB8.out _ hH)))).mono ?_; rintro e w' ⟨uc, rfl, rc, hb⟩; replace rc := ownsRow_base (b1 := 0) rc (Nat.zero_le _); obtain ⟨ac, cc, hvc, _, _, _⟩ := ints_of_row rc; subst hvc; replace rT := row_call rT hb; (try replace kN := kN.call hb))
 refine hK.out _ _ ?_ ?_
 · (exact hH.trans (hb.mono (by have := hH.size; have := HB8.out; omega)))
 (try clear hH); (try clear hb)
 intro hH
 clear hK K
 (try simp only [cq])
 refine wpAnyH_ready (rs := [13]) (by kernel_rfl) (by simp) ?_
 refine arc1 (some 78) fun K hK => ?_
 go_simp
 (refine (kweights_any n _ L (by omega) _ (HLd.out.later (bwS hB2 (Nat.le_refl _) (GB8.out _ hH)))).mono ?_; rintro e w' ⟨uV, rfl, rV, hb⟩; replace rV := ownsRow_base (b1 := 0) rV (Nat.zero_le _); replace rT := row_call rT hb; replace rc := row_call rc hb; (try replace kN := kN.call hb))
 refine hK.out _ _ ?_ ?_
 · (exact hH.trans (hb.mono (by have := hH.size; have := HB8.out; omega)))
 (try clear hH); (try clear hb)
 intro hH
 clear hK K
 (try simp only [cq])
 refine wpAnyH_ready (rs := [14]) (by kernel_rfl) (by simp) ?_
 refine arc1 (some 79) fun K hK => ?_
 go_simp
 (refine (kend_any n _ (fun i => (L i).w0) (fun i => (L i).w1) false (by omega) _ (pairs_of_row rV)).mono ?_; rintro e w' ⟨uW, rfl, rW, hb⟩; replace rW := ownsRow_base (b1 := 0) rW (Nat.zero_le _); obtain ⟨aW, cW, hvW, _, _, _⟩ := ints_of_row rW; subst hvW; replace rT := row_call rT hb; replace rc := row_call rc hb; (try replace kN := kN.call hb); clear rV)
 refine hK.out _ _ ?_ ?_
 · (exact hH.trans (hb.mono (by have := hH.size; have := HB8.out; omega)))
 (try clear hH); (try clear hb)
 intro hH
 clear hK K
 (try simp only [cq])
 refine tkY 15 (some 80) ?_ ?_ ?_
 rotate_left
 · intro w _; go_simp; (try with_reducible rfl)
 (try simp only [cq])
 refine wpAnyH_ready (rs := [17]) (by kernel_rfl) (by simp) ?_
 refine arc1 none fun K hK => ?_
 obtain ⟨q0, q1, q2, q3⟩ := kN.c4
 have f0 := kN.free 0
 have f1 := kN.free 1
 have f2 := kN.free 2
 have f3 := kN.free 3
 have zN2 := kN.lt
 have HS := Lib.hid (kN.set4 (.int .i64 p.s1) (.slice aT ni cT) (.slice ac nc cc) (.slice aW n cW))
 have HG := Lib.hid (below_set4 hH zN (.int .i64 p.s1) (.slice aT ni cT) (.slice ac nc cc) (.slice aW n cW))
 have GT := Lib.hid (ints_of_row (row_put4 rT kN (by decide) (.int .i64 p.s1) (.slice aT ni cT) (.slice ac nc cc) (.slice aW n cW)))
 have Gc := Lib.hid (ints_of_row (row_put4 rc kN (by decide) (.int .i64 p.s1) (.slice aT ni cT) (.slice ac nc cc) (.slice aW n cW)))
 have GW := Lib.hid (ints_of_row (row_put4 rW kN (by decide) (.int .i64 p.s1) (.slice aT ni cT) (.slice ac nc cc) (.slice aW n cW)))
 go_simp
 refine hK.out _ _ ?_ ?_
 · exact HG.out
 (try clear hH); (try clear hb)
 intro hH
 clear hK K
 (try simp only [cq])
 refine wpAnyH_done (by kernel_rfl) ?_ _
 (try dsimp only [Act.put])
 (try simp only [cq])
 clear q0 q1 q2 q3 f0 f1 f2 f3 zN2 HG kN rT rc rW
 go_wp2_with fail
 go_meet
 exact ⟨bN, _, _, _, rfl, HS.out, GT.out, Gc.out, GW.out, GB8.out _ hH⟩
 }
 exact AllReadyH.nil
 }
 refine arc (some 10) (fun K hK => ?_) ?_
 {
 have zz := Nat.le_trans (Nat.le_of_eq HB8.out.symm) hH.size
 go_simp
 first | refine oA hK ?_ (fun hH hA => ?_) | refine oD hK ?_ (fun hH hA => ?_)
 · exact hH.alloc (by have := hH.size; have := HB8.out; omega) _
 have kN := hA
 clear hA
 obtain ⟨bN, hbN⟩ : ∃ b, Blk.num kN = b := ⟨_, rfl⟩
 simp only [Blk.num] at hbN
 have zN : B8 ≤ bN := by rw [← hbN]; exact zz
 rw [hbN] at kN ⊢
 clear hbN zz
 (try replace rT := rT.alloc (.cells #[.int .i64 0, .slice none 0 0, .slice none 0 0, .slice none 0 0] 77))
 (try replace rc := rc.alloc (.cells #[.int .i64 0, .slice none 0 0, .slice none 0 0, .slice none 0 0] 77))
 (try replace rV := rV.alloc (.cells #[.int .i64 0, .slice none 0 0, .slice none 0 0, .slice none 0 0] 77))
 (try replace rW := rW.alloc (.cells #[.int .i64 0, .slice none 0 0, .slice none 0 0, .slice none 0 0] 77))
 clear hK K
 (try simp only [cq])
 refine wpAnyH_ready (rs := [6]) (by kernel_rfl) (by simp) ?_
 refine arc1 (some 71) fun K hK => ?_
 go_simp
 (refine (kend_any ni _ I0 I1 true (by omega) _ (HI.out.later (bwS hB2 (Nat.le_refl _) (GB8.out _ hH)))).mono ?_; rintro e w' ⟨uT, rfl, rT, hb⟩; replace rT := ownsRow_base (b1 := 0) rT (Nat.zero_le _); obtain ⟨aT, cT, hvT, _, _, _⟩ := ints_of_row rT; subst hvT; (try replace kN := kN.call hb))
 refine hK.out _ _ ?_ ?_
 · (exact hH.trans (hb.mono (by have := hH.size; have := HB8.out; omega)))
 (try clear hH); (try clear hb)
 intro hH
 clear hK K
 (try simp only [cq])
 refine wpAnyH_ready (rs := [10]) (by kernel_rfl) (by simp) ?_
 refine arc1 (some 75) fun K hK => ?_
 go_simp
 (refine (kmoved_any nc _ C0 C1 m false (by omega) (by omega) HCb.out _ (HKp.out.later (bwS hB2 (Nat.le_refl _) (GB8.out _ hH)))).mono ?_; rintro e w' ⟨uc, rfl, rc, hb⟩; replace rc := ownsRow_base (b1 := 0) rc (Nat.zero_le _); obtain ⟨ac, cc, hvc, _, _, _⟩ := ints_of_row rc; subst hvc; replace rT := row_call rT hb; (try replace kN := kN.call hb))
 refine hK.out _ _ ?_ ?_
 · (exact hH.trans (hb.mono (by have := hH.size; have := HB8.out; omega)))
 (try clear hH); (try clear hb)
 intro hH
 clear hK K
 (try simp only [cq])
 refine wpAnyH_ready (rs := [13]) (by kernel_rfl) (by simp) ?_
 refine arc1 (some 78) fun K hK => ?_
 go_simp
 (refine (kweights_any n _ L (by omega) _ (HLd.out.later (bwS hB2 (Nat.le_refl _) (GB8.out _ hH)))).mono ?_; rintro e w' ⟨uV, rfl, rV, hb⟩; replace rV := ownsRow_base (b1 := 0) rV (Nat.zero_le _); replace rT := row_call rT hb; replace rc := row_call rc hb; (try replace kN := kN.call hb))
 refine hK.out _ _ ?_ ?_
 · (exact hH.trans (hb.mono (by have := hH.size; have := HB8.out; omega)))
 (try clear hH); (try clear hb)
 intro hH
 clear hK K
 (try simp only [cq])
 refine wpAnyH_ready (rs := [14]) (by kernel_rfl) (by simp) ?_
 refine arc1 (some 79) fun K hK => ?_
 go_simp
 (refine (kend_any n _ (fun i => (L i).w0) (fun i => (L i).w1) false (by omega) _ (pairs_of_row rV)).mono ?_; rintro e w' ⟨uW, rfl, rW, hb⟩; replace rW := ownsRow_base (b1 := 0) rW (Nat.zero_le _); obtain ⟨aW, cW, hvW, _, _, _⟩ := ints_of_row rW; subst hvW; replace rT := row_call rT hb; replace rc := row_call rc hb; (try replace kN := kN.call hb); clear rV)
 refine hK.out _ _ ?_ ?_
 · (exact hH.trans (hb.mono (by have := hH.size; have := HB8.out; omega)))
 (try clear hH); (try clear hb)
 intro hH
 clear hK K
 (try simp only [cq])
 refine tkY 15 (some 80) ?_ ?_ ?_
 rotate_left
 · intro w _; go_simp; (try with_reducible rfl)
 (try simp only [cq])
 refine wpAnyH_ready (rs := [17]) (by kernel_rfl) (by simp) ?_
 refine arc1 none fun K hK => ?_
 obtain ⟨q0, q1, q2, q3⟩ := kN.c4
 have f0 := kN.free 0
 have f1 := kN.free 1
 have f2 := kN.free 2
 have f3 := kN.free 3
 have zN2 := kN.lt
 have HS := Lib.hid (kN.set4 (.int .i64 p.s1) (.slice aT ni cT) (.slice ac nc cc) (.slice aW n cW))
 have HG := Lib.hid (below_set4 hH zN (.int .i64 p.s1) (.slice aT ni cT) (.slice ac nc cc) (.slice aW n cW))
 have GT := Lib.hid (ints_of_row (row_put4 rT kN (by decide) (.int .i64 p.s1) (.slice aT ni cT) (.slice ac nc cc) (.slice aW n cW)))
 have Gc := Lib.hid (ints_of_row (row_put4 rc kN (by decide) (.int .i64 p.s1) (.slice aT ni cT) (.slice ac nc cc) (.slice aW n cW)))
 have GW := Lib.hid (ints_of_row (row_put4 rW kN (by decide) (.int .i64 p.s1) (.slice aT ni cT) (.slice ac nc cc) (.slice aW n cW)))
 go_simp
 refine hK.out _ _ ?_ ?_
 · exact HG.out
 (try clear hH); (try clear hb)
 intro hH
 clear hK K
 (try simp only [cq])
 refine wpAnyH_done (by kernel_rfl) ?_ _
 (try dsimp only [Act.put])
 (try simp only [cq])
 clear q0 q1 q2 q3 f0 f1 f2 f3 zN2 HG kN rT rc rW
 go_wp2_with fail
 go_meet
 exact ⟨bN, _, _, _, rfl, HS.out, GT.out, Gc.out, GW.out, GB8.out _ hH⟩
 }
 exact AllReadyH.nil )
        case rest =>
          obtain ⟨bG, uT, uc, uW, rfl, jG, hT, hc, hW, hb2⟩ := hcut
          obtain ⟨aT2, cT2, rfl, _, _, _⟩ := id hT
          obtain ⟨ac2, cc2, rfl, _, _, _⟩ := id hc
          obtain ⟨aW2, cW2, rfl, _, _, _⟩ := id hW
          obtain ⟨V5, hV5⟩ : ∃ V, V = wc := ⟨_, rfl⟩
          subst hV5
          have hB3 := bwS hB2 (Nat.le_refl _) hb2
          have HT2 := Lib.hid jG
          have hM := hHM.out
          obtain ⟨h1, h2, h3⟩ := HIT.out
          have HW : Hid (∀ W, Below V5.heap.size V5 W → Calls Try.prog 58 #[.agg #[.int .i64 p.s0, .int .i64 p.s1, (.slice aS p.S.n cS), (.slice aC p.C.n cC), .int .i64 p.ne, .int .i64 p.ed, .int .i64 p.gr, .int .i64 p.lo, .int .i64 p.hi, .int .i64 p.sh, .int .i64 p.wi], .slice (some ⟨bl, ol, none⟩) n cL, .agg #[.int .i64 p.s0, .slice aT ni cT, .slice ac nc cc, .slice aW n cW], .int .i64 k] W fun e w' => e = .returned (.bool (bearsV p false I0 I1 nc C0 C1 n L (L k))) ∧ Below W.heap.size W w') := fun W hW5 => by
            have hw := bwS hB3 (Nat.le_refl _) hW5
            have hw2 := bwS hb2 (Nat.le_refl _) hW5
            exact borne_lo hM hlt2 Hm.out _ _ _ _ _ _ W (HSt.out.later hw) (HCt.out.later hw) (HLd.out.later hw) (h1.later hw2) (h2.later hw2) (h3.later hw2)
          have HG : Hid (∀ W, Below V5.heap.size V5 W → Calls Try.prog 58 #[.agg #[.int .i64 p.s0, .int .i64 p.s1, (.slice aS p.S.n cS), (.slice aC p.C.n cC), .int .i64 p.ne, .int .i64 p.ed, .int .i64 p.gr, .int .i64 p.lo, .int .i64 p.hi, .int .i64 p.sh, .int .i64 p.wi], .slice (some ⟨bl, ol, none⟩) n cL, .agg #[.int .i64 p.s1, .slice aT2 ni cT2, .slice ac2 nc cc2, .slice aW2 n cW2], .int .i64 k] W fun e w' => e = .returned (.bool (bearsV p true I0 I1 nc C0 C1 n L (L k))) ∧ Below W.heap.size W w') := fun W hW5 => by
            have hw := bwS hB3 (Nat.le_refl _) hW5
            exact borne_hi hM hlt2 Hm.out _ _ _ _ _ _ W (HSt.out.later hw) (HCt.out.later hw) (HLd.out.later hw) (hT.later hW5) (hc.later hW5) (hW.later hW5)
          have hwb : bearsV p false I0 I1 nc C0 C1 n L (L k) = true → bearsV p true I0 I1 nc C0 C1 n L (L k) = true := worst_best hM hlt2
          obtain ⟨aR2, cR2, hvR, _, _, hR3⟩ := HRi.out
          simp only [Value.slice.injEq] at hvR
          obtain ⟨rfl, _, rfl⟩ := hvR
          obtain ⟨br, orr, rfl, hrc⟩ := hR3 (by omega)
          have r0 := cell_later hB3 (hrc k hlt2)
          clear hrc hR3
          rw [HX.out] at r0
          replace r0 : V5.cell? ⟨br, orr + k, none⟩ = some (.int .i64 (verdV p I0 I1 nc C0 C1 n L (L k))) := r0
          unfold verdV at r0
          have zr := World.block_lt_of_cell? _ _ r0
          generalize bearsV p false I0 I1 nc C0 C1 n L (L k) = qw at HW hwb r0
          generalize bearsV p true I0 I1 nc C0 C1 n L (L k) = qb at HG hwb r0
          have Hwb := Lib.hid hwb
          clear hwb h1 h2 h3 hM hT hc hW jG
          have jX := HJ.out.call hB3
          have jT := HT1.out.call hb2
          have jG := HT2.out
          obtain ⟨m0, m1, m2, m3, m4, m5, m6, m7, m8, m9, m10, m11, m12, m13⟩ := jX.c14
          obtain ⟨t0, t1, t2, t3⟩ := jT.c4
          obtain ⟨g0, g1, g2, g3⟩ := jG.c4
          have zX2 := jX.lt
          have zT2 := jT.lt
          have zG2 := jG.lt
          cases qw with
          | true =>
            have e := Hwb.out rfl
            subst e
            simp only [if_true] at r0
            clear HW
            go_wp2_with fail
            clear m0 m1 m2 m3 m4 m5 m6 m7 m8 m9 m10 m11 m12 m13 t0 t1 t2 t3 g0 g1 g2 g3 zX2 zT2 zG2 jX jT jG r0 zr
            refine (HG.out _ (Below.refl _ _)).mono ?_
            rintro e w8 ⟨rfl, hb⟩
            have hB4 := bwS hB3 (Nat.le_refl _) hb
            clear hb
            go_wp2
            go_roundw
            case rel => exact ⟨k + 1, by omega, by go_num, hB4⟩
            case measure => simp [intOf]; omega
          | false =>
            cases qb with
            | true =>
              simp only [Bool.false_eq_true, if_false, if_true] at r0
              go_wp2_with fail
              clear m0 m1 m2 m3 m4 m5 m6 m7 m8 m9 m10 m11 m12 m13 t0 t1 t2 t3 g0 g1 g2 g3 zX2 zT2 zG2 jX jT jG
              refine (HW.out _ (Below.refl _ _)).mono ?_
              rintro e w8 ⟨rfl, hb⟩
              have hB4 := bwS hB3 (Nat.le_refl _) hb
              have r1 := cell_later hb r0
              have jX := HJ.out.call hB4
              have jG := HT2.out.call hb
              obtain ⟨m0, m1, m2, m3, m4, m5, m6, m7, m8, m9, m10, m11, m12, m13⟩ := jX.c14
              obtain ⟨g0, g1, g2, g3⟩ := jG.c4
              have zX2 := jX.lt
              have zG2 := jG.lt
              have zr2 := World.block_lt_of_cell? _ _ r1
              clear r0 zr
              go_wp2_with fail
              clear m0 m1 m2 m3 m4 m5 m6 m7 m8 m9 m10 m11 m12 m13 g0 g1 g2 g3 zX2 zG2 jX jG r1 zr2
              refine (HG.out _ hb).mono ?_
              rintro e w9 ⟨rfl, hb9⟩
              have hB5 := bwS hB4 (Nat.le_refl _) hb9
              clear hb hb9
              go_wp2
              go_roundw
              case rel => exact ⟨k + 1, by omega, by go_num, hB5⟩
              case measure => simp [intOf]; omega
            | false =>
              simp only [Bool.false_eq_true, if_false] at r0
              clear HG
              go_wp2_with fail
              clear m0 m1 m2 m3 m4 m5 m6 m7 m8 m9 m10 m11 m12 m13 t0 t1 t2 t3 g0 g1 g2 g3 zX2 zT2 zG2 jX jT jG
              refine (HW.out _ (Below.refl _ _)).mono ?_
              rintro e w8 ⟨rfl, hb⟩
              have hB4 := bwS hB3 (Nat.le_refl _) hb
              have r1 := cell_later hb r0
              have zr2 := World.block_lt_of_cell? _ _ r1
              clear hb r0 zr
              go_wp2
              go_roundw
              case rel => exact ⟨k + 1, by omega, by go_num, hB4⟩
              case measure => simp [intOf]; omega
    · have jB := bwS HB.out (by have := HB.out.size; omega) hB
      clear hB
      go_wp2_with fail
      refine (awake_any _).mono ?_
      rintro e w9 ⟨rfl, hb⟩
      replace jB := bwS jB (Nat.le_refl _) hb
      go_wp2
      go_ret
      exact ⟨rfl, jB⟩
end Go.Proofs.Ytfakmggabicdjaa
