/-
  bear.Lane where all is valid: at each place what the verdicts at its metres have in common.
-/
import Derived.Test.YtkkljbbgaogifaaTail
import Derived.Test.YtkkljbbgaogifaaOkB
set_option linter.unusedVariables false
set_option linter.unusedSimpArgs false
namespace Go.Proofs.Ytkkljbbgaogifaa
open Go.RowKit

def eqAll (f : Nat → Int) : Nat → Bool
  | 0 => true
  | n + 1 => eqAll f n && decide (f n = f 0)
theorem eqAll_iff (f : Nat → Int) : ∀ n, eqAll f n = true ↔ ∀ i, i < n → f i = f 0
  | 0 => by simp [eqAll]
  | n + 1 => by
    rw [eqAll, Bool.and_eq_true, eqAll_iff f n, decide_eq_true_eq]
    exact ⟨fun h i hi => by
      by_cases e : i = n
      · subst e; exact h.2
      · exact h.1 i (by omega), fun h => ⟨fun i hi => h i (by omega), h n (by omega)⟩⟩
def commV (f : Nat → Int) (n : Nat) : Int := if eqAll f n = true then f 0 else 3
theorem commV_same {f : Nat → Int} {n : Nat} (h : ∀ i, i < n → f i = f 0) : commV f n = f 0 := if_pos ((eqAll_iff f n).2 h)
theorem commV_not {f : Nat → Int} {n k : Nat} (hk : k < n) (h : f k ≠ f 0) : commV f n = 3 := if_neg (fun q => h ((eqAll_iff f n).1 q k hk))
def laneX (w0 w1 : Int) (pl d : Nat) : Ld := ⟨100 * (pl : Int) + (d : Int), w0, w1, 0⟩
def laneV (p : Pl) (I0 I1 : Nat → Int) (nc : Nat) (C0 C1 : Nat → Int) (w0 w1 : Int) (pl d : Nat) : Int := verdV p I0 I1 nc C0 C1 1 (fun _ => laneX w0 w1 pl d) (laneX w0 w1 pl d)
theorem load_alone {W : World} {b : Nat} {t : TypeId} {x : Ld} (h : Blk W b #[.int .i64 x.me, .int .i64 x.w0, .int .i64 x.w1, .int .i64 x.st] t) : LoadsAt W (.slice (some ⟨b, 0, none⟩) 1 1) 1 (fun _ => x) :=
  ⟨_, 1, rfl, by decide, by decide, fun _ => ⟨b, 0, rfl, fun i hi => by
    obtain rfl : i = 0 := by omega
    exact ⟨h.cell 0 rfl, h.cell 1 rfl, h.cell 2 rfl, h.cell 3 rfl⟩⟩⟩

set_option maxRecDepth 100000 in
set_option maxHeartbeats 4000000 in
theorem lanec_any (p : Pl) (aS aC aI aK : Option Addr) (cS cC cI cK : Nat) (ni : Nat) (I0 I1 : Nat → Int) (nc : Nat) (C0 C1 : Nat → Int) (w0 w1 : Int) (pl d : Nat) (hpl : pl < ni) (hni : ni ≤ 10000) (hd : d < 100) (he : ∀ x : Ld, x.w0 = w0 → x.w1 = w1 → 0 ≤ x.me → x.me ≤ 1000000000 → 0 ≤ x.st → Env p ni I0 I1 nc C0 C1 1 (fun _ => x)) (bl bw bp bi bk : Nat) (w : World)
    (hS : TabAt w (.slice aS p.S.n cS) p.S) (hC : TabAt w (.slice aC p.C.n cC) p.C) (hI : PairsAt w (.slice aI ni cI) ni I0 I1) (hK : PairsAt w (.slice aK nc cK) nc C0 C1)
    (kl : Blk w bl #[.int .i64 pl] 3) (kw : Blk w bw #[.int .i64 w0, .int .i64 w1] 23) (kp : Blk w bp #[.int .i64 p.s0, .int .i64 p.s1, (.slice aS p.S.n cS), (.slice aC p.C.n cC), .int .i64 p.ne, .int .i64 p.ed, .int .i64 p.gr, .int .i64 p.lo, .int .i64 p.hi, .int .i64 p.sh, .int .i64 p.wi] 26) (ki : Blk w bi #[.slice aI ni cI] 42) (kk : Blk w bk #[.slice aK nc cK] 42) :
    Calls Try.prog 94 #[.int .i64 d, .pointer (some ⟨bl, 0, none⟩), .pointer (some ⟨bw, 0, none⟩), .pointer (some ⟨bp, 0, none⟩), .pointer (some ⟨bi, 0, none⟩), .pointer (some ⟨bk, 0, none⟩)] w fun e w' => e = .returned (.int .i64 (laneV p I0 I1 nc C0 C1 w0 w1 pl d)) ∧ Below w.heap.size w w' := by
  obtain ⟨x, hx⟩ : ∃ x : Ld, x = laneX w0 w1 pl d := ⟨_, rfl⟩
  have hx0 : x.me = 100 * (pl : Int) + (d : Int) := by rw [hx]; rfl
  have hx1 : x.w0 = w0 := by rw [hx]; rfl
  have hx2 : x.w1 = w1 := by rw [hx]; rfl
  have hx3 : x.st = 0 := by rw [hx]; rfl
  have HV : Hid (∀ vL W, Below w.heap.size w W → LoadsAt W vL 1 (fun _ => x) → Calls Try.prog 88 #[.agg #[.int .i64 p.s0, .int .i64 p.s1, (.slice aS p.S.n cS), (.slice aC p.C.n cC), .int .i64 p.ne, .int .i64 p.ed, .int .i64 p.gr, .int .i64 p.lo, .int .i64 p.hi, .int .i64 p.sh, .int .i64 p.wi], .slice aI ni cI, .slice aK nc cK, vL, .agg #[.int .i64 x.me, .int .i64 x.w0, .int .i64 x.w1, .int .i64 0]] W fun e w' => e = .returned (.int .i64 (laneV p I0 I1 nc C0 C1 w0 w1 pl d)) ∧ Below W.heap.size W w') := fun vL W hW hL => by
    have q := verdict_any p _ _ _ _ vL ni I0 I1 nc C0 C1 1 (fun _ => x) (he x hx1 hx2 (by omega) (by omega) (by omega)) x ⟨by omega, by omega, by omega, by omega⟩ W (hS.later hW) (hC.later hW) (hI.later hW) (hK.later hW) hL
    unfold laneV
    rw [← hx]
    rw [hx3] at q
    exact q
  generalize laneV p I0 I1 nc C0 C1 w0 w1 pl d = r at HV ⊢
  have ew1 : IntKind.i64.wrap (100 * (pl : Int)) = 100 * (pl : Int) := IntWalk.i64_in _ (by omega)
  have ew2 : IntKind.i64.wrap (100 * (pl : Int) + (d : Int)) = x.me := by rw [hx0]; exact IntWalk.i64_in _ (by omega)
  have l0 := kl.cell1
  obtain ⟨s0, s1⟩ := kw.c2
  rw [← hx1] at s0
  rw [← hx2] at s1
  have y1 := kl.lt
  have y2 := kw.lt
  have HX := Lib.hid hx3
  have HKs := Lib.hid (And.intro kp (And.intro ki kk))
  have jB := (Below.refl w.heap.size w).alloc (Nat.le_refl _) (.cells #[.int .i64 x.me, .int .i64 x.w0, .int .i64 x.w1, .int .i64 0] 53)
  have jX := Blk.new w #[.int .i64 x.me, .int .i64 x.w0, .int .i64 x.w1, .int .i64 0] 53
  clear hS hC hI hK kl kw kp ki kk hx hx0 hx1 hx2 hx3 he
  go_enter Try.func94, Try.ntmps94
  go_upto_region 2 with fail
  clear l0 s0 s1 y1 y2 ew1 ew2
  obtain ⟨bx, hbx⟩ : ∃ b, w.heap.size = b := ⟨_, rfl⟩
  rw [hbx] at jX
  (try rw [hbx])
  have HBX := Lib.hid hbx
  clear hbx
  generalize w.alloc (.cells #[.int .i64 x.me, .int .i64 x.w0, .int .i64 x.w1, .int .i64 0] 53) = V at jX jB ⊢
  have kp := HKs.out.1.call jB
  have ki := HKs.out.2.1.call jB
  have kk := HKs.out.2.2.call jB
  clear HKs
  obtain ⟨c0, c1, c2, c3, c4, c5, c6, c7, c8, c9, c10⟩ := kp.c11
  obtain ⟨x0, x1, x2, x3⟩ := jX.c4
  have i0 := ki.cell1
  have k0 := kk.cell1
  have y1 := kp.lt
  have y2 := ki.lt
  have y3 := kk.lt
  have y4 := jX.lt
  have jY := Blk.new V #[.int .i64 x.me, .int .i64 x.w0, .int .i64 x.w1, .int .i64 0] 53
  have jB2 := bwA jB (Nat.le_refl _) (.cells #[.int .i64 x.me, .int .i64 x.w0, .int .i64 x.w1, .int .i64 0] 53)
  have hL := load_alone (x := ⟨x.me, x.w0, x.w1, 0⟩) jY
  have hL1 : LoadsAt (V.alloc (.cells #[.int .i64 x.me, .int .i64 x.w0, .int .i64 x.w1, .int .i64 0] 53)) (.slice (some ⟨V.heap.size, 0, none⟩) 1 1) 1 (fun _ => x) := by
    have e : x = ⟨x.me, x.w0, x.w1, 0⟩ := by rw [← HX.out]
    rw [e]
    exact hL
  have HC := Lib.hid (HV.out _ _ jB2 hL1)
  clear hL hL1 jY jX kp ki kk HX HV jB
  go_wp2_with fail
  clear c0 c1 c2 c3 c4 c5 c6 c7 c8 c9 c10 x0 x1 x2 x3 i0 k0 y1 y2 y3 y4
  refine HC.out.mono ?_
  rintro e w2 ⟨rfl, hb⟩
  have jB3 := bwS jB2 (Nat.le_refl _) hb
  go_wp2
  go_ret
  exact ⟨rfl, jB3⟩

set_option maxRecDepth 100000 in
set_option maxHeartbeats 4000000 in
theorem common_in (n : Nat) (hn : n ≤ 1000) (p q r s t : Value) (f : Nat → Int) (w : World) (h0 : 0 < n) (hf : ∀ i, i < n → ∀ W, Below w.heap.size w W → Calls Try.prog 94 #[.int .i64 i, p, q, r, s, t] W fun e w' => e = .returned (.int .i64 (f i)) ∧ Below W.heap.size W w') :
    Calls Try.prog 93 #[.int .i64 n, .func (.func 94) #[] #[p, q, r, s, t]] w fun e w' => e = .returned (.int .i64 (commV f n)) ∧ Below w.heap.size w w' := by
  have HF := Lib.hid hf
  have HC : Hid ((∀ i, i < n → f i = f 0) → commV f n = f 0) := fun h => commV_same h
  have HN : Hid (∀ k, k < n → f k ≠ f 0 → commV f n = 3) := fun k hk h => commV_not hk h
  clear hf
  generalize commV f n = c at HC HN ⊢
  go_enter Try.func93, Try.ntmps93
  go_wp2_with fail
  refine (HF.out 0 h0 _ (Below.refl _ _)).mono ?_
  rintro e w1 ⟨rfl, hB1⟩
  obtain ⟨z, hz⟩ : ∃ z, f 0 = z := ⟨_, rfl⟩
  rw [hz] at HC HN
  (try rw [hz])
  have HZ := Lib.hid hz
  clear hz
  go_wp2_with fail
  go_loopw [6] (fun i wr => ∃ k : Nat, 1 ≤ k ∧ k ≤ n ∧ i = .int .i64 k ∧ (∀ j, j < k → f j = z) ∧ Below w.heap.size w wr) (fun i _ => n - (intOf i).toNat)
  case atStart => exact ⟨1, Nat.le_refl _, h0, rfl, fun j hj => by
      obtain rfl : j = 0 := by omega
      exact HZ.out, hB1⟩
  case round =>
    obtain ⟨k, hk1, hk, rfl, hj, hB⟩ := hrel
    have HJ := Lib.hid hj
    clear hj
    by_cases hlt2 : k < n
    · have HK := Lib.hid (HN.out k hlt2)
      have HFk := Lib.hid (HF.out k hlt2 _ hB)
      obtain ⟨y, hy⟩ : ∃ y, f k = y := ⟨_, rfl⟩
      rw [hy] at HK HFk
      have HY := Lib.hid hy
      clear hy
      go_wp2_with fail
      refine HFk.out.mono ?_
      rintro e w2 ⟨rfl, hb⟩
      have hB2 := bwS hB (Nat.le_refl _) hb
      clear hb hB HFk
      by_cases hyz : y = z
      · subst hyz
        go_wp2
        go_roundw
        case rel => exact ⟨k + 1, by omega, by omega, by go_num, fun j hj => by
            by_cases e : j = k
            · subst e; exact HY.out
            · exact HJ.out j (by omega), hB2⟩
        case measure => simp [intOf]; omega
      · have hc := HK.out hyz
        subst hc
        have e1 : (y != z) = true := by simpa using hyz
        clear hyz HK HC HN
        go_wp2
        go_ret
        exact ⟨rfl, hB2⟩
    · have hc := HC.out (fun i hi => HJ.out i (by omega))
      subst hc
      go_wp2
      go_ret
      exact ⟨rfl, hB⟩

set_option maxRecDepth 100000 in
set_option maxHeartbeats 4000000 in
theorem lane_valid {p : Pl} (hp : p.Ok) {ni : Nat} {I0 I1 : Nat → Int} {nc : Nat} {C0 C1 : Nat → Int} {w0 w1 : Int} (h1 : ni ≤ 1000) (hi : ∀ i, i < ni → 0 ≤ I0 i ∧ I0 i ≤ I1 i ∧ I1 i ≤ 5000) (h2 : nc ≤ 50) (hc : ∀ i, i < nc → 0 ≤ C0 i ∧ C0 i ≤ C1 i ∧ C1 i ≤ 100000) (hw : 0 ≤ w0 ∧ w0 ≤ w1 ∧ w1 ≤ 200000) (vS vC vI vK : Value) (w : World)
    (hS : TabAt w vS p.S) (hC : TabAt w vC p.C) (hI : PairsAt w vI ni I0 I1) (hK : PairsAt w vK nc C0 C1) :
    Calls Try.prog 39 #[.agg #[.int .i64 p.s0, .int .i64 p.s1, vS, vC, .int .i64 p.ne, .int .i64 p.ed, .int .i64 p.gr, .int .i64 p.lo, .int .i64 p.hi, .int .i64 p.sh, .int .i64 p.wi], vI, vK, .agg #[.int .i64 w0, .int .i64 w1]] w fun e w' => ∃ v, e = .returned (.tuple #[v, .int .i64 0]) ∧ w'.ownsRow w.heap.size 3 1 v ni (catC (intC (fun pl => commV (laneV p I0 I1 nc C0 C1 w0 w1 pl) 100)) ni) ∧ Below w.heap.size w w' := by
  obtain ⟨aS, cS, rfl, _, _, _⟩ := id hS
  obtain ⟨aC, cC, rfl, _, _, _⟩ := id hC
  obtain ⟨aI, cI, rfl, _, _, _⟩ := id hI
  obtain ⟨aK, cK, rfl, _, _, _⟩ := id hK
  obtain ⟨X, hX⟩ : ∃ X : Nat → Int, X = fun pl => commV (laneV p I0 I1 nc C0 C1 w0 w1 pl) 100 := ⟨_, rfl⟩
  rw [← hX]
  have HE : ∀ x : Ld, x.w0 = w0 → x.w1 = w1 → 0 ≤ x.me → x.me ≤ 1000000000 → 0 ≤ x.st → Env p ni I0 I1 nc C0 C1 1 (fun _ => x) := fun x e0 e1 m0 m1 s0 =>
    ⟨hp, fun j hj => by have := hc j hj; omega, hi, ⟨by decide, fun i q => ⟨by omega, by omega, by omega, m0, m1, s0⟩⟩⟩
  have HV : Hid (∀ pl : Nat, pl < ni → ∀ W, Below w.heap.size w W → ∀ bl bw bp bi bk, Blk W bl #[.int .i64 pl] 3 → Blk W bw #[.int .i64 w0, .int .i64 w1] 23 → Blk W bp #[.int .i64 p.s0, .int .i64 p.s1, (.slice aS p.S.n cS), (.slice aC p.C.n cC), .int .i64 p.ne, .int .i64 p.ed, .int .i64 p.gr, .int .i64 p.lo, .int .i64 p.hi, .int .i64 p.sh, .int .i64 p.wi] 26 → Blk W bi #[.slice aI ni cI] 42 → Blk W bk #[.slice aK nc cK] 42 → Calls Try.prog 93 #[.int .i64 100, .func (.func 94) #[] #[.pointer (some ⟨bl, 0, none⟩), .pointer (some ⟨bw, 0, none⟩), .pointer (some ⟨bp, 0, none⟩), .pointer (some ⟨bi, 0, none⟩), .pointer (some ⟨bk, 0, none⟩)]] W fun e w' => e = .returned (.int .i64 (X pl)) ∧ Below W.heap.size W w') := fun pl hpl W hW bl bw bp bi bk k1 k2 k3 k4 k5 => by
    rw [hX]
    exact common_in 100 (by decide) _ _ _ _ _ (laneV p I0 I1 nc C0 C1 w0 w1 pl) W (by decide) (fun i hi U hU => lanec_any p aS aC aI aK cS cC cI cK ni I0 I1 nc C0 C1 w0 w1 pl i hpl (by omega) hi HE _ _ _ _ _ U ((hS.later hW).later hU) ((hC.later hW).later hU) ((hI.later hW).later hU) ((hK.later hW).later hU) (k1.call hU) (k2.call hU) (k3.call hU) (k4.call hU) (k5.call hU))
  have HR : Hid (∀ W, Below w.heap.size w W → Calls Try.prog 86 #[.agg #[.int .i64 p.s0, .int .i64 p.s1, (.slice aS p.S.n cS), (.slice aC p.C.n cC), .int .i64 p.ne, .int .i64 p.ed, .int .i64 p.gr, .int .i64 p.lo, .int .i64 p.hi, .int .i64 p.sh, .int .i64 p.wi], .slice aI ni cI, .slice aK nc cK] W fun e w' => e = .returned (.int .i64 0) ∧ Below W.heap.size W w') := fun W hW => by
    have q := road_any p _ _ _ _ ni I0 I1 nc C0 C1 W (hS.later hW) (hC.later hW) (hI.later hW) (hK.later hW)
    rw [eRoad_ok hp h1 hi h2 hc] at q
    exact q
  have HW : Hid (∀ W, Calls Try.prog 92 #[.agg #[.int .i64 w0, .int .i64 w1]] W fun e w' => e = .returned (.int .i64 0) ∧ Below W.heap.size W w') := fun W => by
    have q := weight_any w0 w1 W
    rw [eS_ok hw.1 hw.2.1 hw.2.2] at q
    exact q
  have jP := (((Blk.new w #[.int .i64 p.s0, .int .i64 p.s1, (.slice aS p.S.n cS), (.slice aC p.C.n cC), .int .i64 p.ne, .int .i64 p.ed, .int .i64 p.gr, .int .i64 p.lo, .int .i64 p.hi, .int .i64 p.sh, .int .i64 p.wi] 26).alloc (.cells #[.slice aI ni cI] 42)).alloc (.cells #[.slice aK nc cK] 42)).alloc (.cells #[.int .i64 w0, .int .i64 w1] 23)
  have jI := ((Blk.new1 w (.cells #[.int .i64 p.s0, .int .i64 p.s1, (.slice aS p.S.n cS), (.slice aC p.C.n cC), .int .i64 p.ne, .int .i64 p.ed, .int .i64 p.gr, .int .i64 p.lo, .int .i64 p.hi, .int .i64 p.sh, .int .i64 p.wi] 26) #[.slice aI ni cI] 42).alloc (.cells #[.slice aK nc cK] 42)).alloc (.cells #[.int .i64 w0, .int .i64 w1] 23)
  have jK := (Blk.new2 w (.cells #[.int .i64 p.s0, .int .i64 p.s1, (.slice aS p.S.n cS), (.slice aC p.C.n cC), .int .i64 p.ne, .int .i64 p.ed, .int .i64 p.gr, .int .i64 p.lo, .int .i64 p.hi, .int .i64 p.sh, .int .i64 p.wi] 26) (.cells #[.slice aI ni cI] 42) #[.slice aK nc cK] 42).alloc (.cells #[.int .i64 w0, .int .i64 w1] 23)
  have jW := Blk.new3 w (.cells #[.int .i64 p.s0, .int .i64 p.s1, (.slice aS p.S.n cS), (.slice aC p.C.n cC), .int .i64 p.ne, .int .i64 p.ed, .int .i64 p.gr, .int .i64 p.lo, .int .i64 p.hi, .int .i64 p.sh, .int .i64 p.wi] 26) (.cells #[.slice aI ni cI] 42) (.cells #[.slice aK nc cK] 42) #[.int .i64 w0, .int .i64 w1] 23
  have jB : Below w.heap.size w ((((w.alloc (.cells #[.int .i64 p.s0, .int .i64 p.s1, (.slice aS p.S.n cS), (.slice aC p.C.n cC), .int .i64 p.ne, .int .i64 p.ed, .int .i64 p.gr, .int .i64 p.lo, .int .i64 p.hi, .int .i64 p.sh, .int .i64 p.wi] 26)).alloc (.cells #[.slice aI ni cI] 42)).alloc (.cells #[.slice aK nc cK] 42)).alloc (.cells #[.int .i64 w0, .int .i64 w1] 23)) := by (repeat (first | exact Below.refl _ _ | assumption | refine Below.drew ?_ | refine Below.drewN ?_ _ | refine blT ?_ | refine blU ?_))
  clear hS hC hI hK HE hp hi hc hX hw
  go_enter Try.func39, Try.ntmps39
  go_wp2_with fail
  refine wp_region_held_drew (S := (fun w' => Blk w' w.heap.size #[.int .i64 p.s0, .int .i64 p.s1, (.slice aS p.S.n cS), (.slice aC p.C.n cC), .int .i64 p.ne, .int .i64 p.ed, .int .i64 p.gr, .int .i64 p.lo, .int .i64 p.hi, .int .i64 p.sh, .int .i64 p.wi] 26 ∧ Blk w' (w.heap.size + 1) #[.slice aI ni cI] 42 ∧ Blk w' (w.heap.size + 1 + 1) #[.slice aK nc cK] 42 ∧ Blk w' (w.heap.size + 1 + 1 + 1) #[.int .i64 w0, .int .i64 w1] 23 ∧ Below w.heap.size w w')) (by kernel_rfl) ?_ (fun hH => ?_)
  · (try dsimp only); (exact ⟨jP.drew, jI.drew, jK.drew, jW.drew, jB.drew⟩)
  refine tkY 0 (some 13) ?_ ?_ ?_
  rotate_left
  · intro w hS0; (try dsimp only at hS0); obtain ⟨kp, ki, kk, kw, _⟩ := hS0; obtain ⟨c0, c1, c2, c3, c4, c5, c6, c7, c8, c9, c10⟩ := kp.c11; have g1 := ki.cell1; have g2 := kk.cell1; obtain ⟨g3, g4⟩ := kw.c2; have y1 := kp.lt; have y2 := ki.lt; have y3 := kk.lt; have y4 := kw.lt;go_simp; (try with_reducible rfl)
  (try simp only [cq])
  refine tkY 1 (some 14) ?_ ?_ ?_
  rotate_left
  · intro w hS0; (try dsimp only at hS0); obtain ⟨kp, ki, kk, kw, _⟩ := hS0; obtain ⟨c0, c1, c2, c3, c4, c5, c6, c7, c8, c9, c10⟩ := kp.c11; have g1 := ki.cell1; have g2 := kk.cell1; obtain ⟨g3, g4⟩ := kw.c2; have y1 := kp.lt; have y2 := ki.lt; have y3 := kk.lt; have y4 := kw.lt;go_simp; (try with_reducible rfl)
  (try simp only [cq])
  refine tkY 2 (some 15) ?_ ?_ ?_
  rotate_left
  · intro w hS0; (try dsimp only at hS0); obtain ⟨kp, ki, kk, kw, _⟩ := hS0; obtain ⟨c0, c1, c2, c3, c4, c5, c6, c7, c8, c9, c10⟩ := kp.c11; have g1 := ki.cell1; have g2 := kk.cell1; obtain ⟨g3, g4⟩ := kw.c2; have y1 := kp.lt; have y2 := ki.lt; have y3 := kk.lt; have y4 := kw.lt;go_simp; (try with_reducible rfl)
  (try simp only [cq])
  refine tkY 4 (some 17) ?_ ?_ ?_
  rotate_left
  · intro w hS0; (try dsimp only at hS0); obtain ⟨kp, ki, kk, kw, _⟩ := hS0; obtain ⟨c0, c1, c2, c3, c4, c5, c6, c7, c8, c9, c10⟩ := kp.c11; have g1 := ki.cell1; have g2 := kk.cell1; obtain ⟨g3, g4⟩ := kw.c2; have y1 := kp.lt; have y2 := ki.lt; have y3 := kk.lt; have y4 := kw.lt;go_simp; (try with_reducible rfl)
  (try simp only [cq])
  refine wpAnyH_ready (rs := [3]) (by kernel_rfl) (by simp) ?_
  refine arc1 (some 16) fun K hK => ?_
  go_simp
  (refine (HR.out _ hH.2.2.2.2).mono ?_; rintro e w' ⟨rfl, hb⟩)
  refine hK.out _ _ ?_ ?_
  · (exact ⟨hH.1.call hb, hH.2.1.call hb, hH.2.2.1.call hb, hH.2.2.2.1.call hb, bwS hH.2.2.2.2 (Nat.le_refl _) hb⟩)
  (try clear hH); (try clear hb)
  intro hH
  clear hK K
  (try simp only [cq])
  refine wpAnyH_ready (rs := [5]) (by kernel_rfl) (by simp) ?_
  refine arc1 (some 18) fun K hK => ?_
  go_simp
  (refine (HW.out _).mono ?_; rintro e w' ⟨rfl, hb⟩)
  refine hK.out _ _ ?_ ?_
  · (exact ⟨hH.1.call hb, hH.2.1.call hb, hH.2.2.1.call hb, hH.2.2.2.1.call hb, bwS hH.2.2.2.2 (Nat.le_refl _) hb⟩)
  (try clear hH); (try clear hb)
  intro hH
  clear hK K
  (try simp only [cq])
  refine wpAnyH_ready (rs := [6]) (by kernel_rfl) (by simp) ?_
  refine arc1 (some 19) fun K hK => ?_
  go_simp
  refine hK.out _ _ ?_ ?_
  · exact ⟨hH.1.alloc _, hH.2.1.alloc _, hH.2.2.1.alloc _, hH.2.2.2.1.alloc _, bwA hH.2.2.2.2 (Nat.le_refl _) _⟩
  (try clear hH); (try clear hb)
  intro hH
  clear hK K
  (try simp only [cq])
  refine wpAnyH_ready (rs := [7]) (by kernel_rfl) (by simp) ?_
  refine arc1 (some 20) fun K hK => ?_
  go_simp
  (refine (first_two _ _ 0 0 _ (by simp) (by simp)).mono ?_; rw [show orE 0 0 = 0 from rfl]; rintro e w' ⟨rfl, rfl⟩)
  refine hK.out _ _ ?_ ?_
  · exact hH
  (try clear hH); (try clear hb)
  intro hH
  clear hK K
  (try simp only [cq])
  refine tkY 8 (some 10) ?_ ?_ ?_
  rotate_left
  · intro w _; go_simp; (try with_reducible rfl)
  (try simp only [cq])
  refine wpAnyH_done (by kernel_rfl) ?_ _
  (try dsimp only [Act.put])
  (try simp only [cq])
  clear jP jI jK jW jB HR HW
  obtain ⟨jP, jI, jK, jW, jB⟩ := hH
  obtain ⟨V, hWn⟩ : ∃ V, Blk.wld jP = V := ⟨_, rfl⟩
  simp only [Blk.wld] at hWn
  rw [hWn] at jP jI jK jW jB ⊢
  clear hWn
  have HVs := Lib.hid (And.intro jP (And.intro jI (And.intro jK jW)))
  have jR := World.ownsRow_nil V (w.heap.size + 4) 3 1
  obtain ⟨i0, hi0, hz0, hz1, hz2⟩ := info_parts Try.infoInt
  have zB : w.heap.size + 4 ≤ V.heap.size := by have := jW.lt; omega
  have zI := jI.lt
  have i00 := jI.cell1
  clear jP jI jK jW
  go_wp2_with fail
  clear i00 zI
  go_loopw [11, 26] (fun l i wr => ∃ k : Nat, k ≤ ni ∧ i = .int .i64 k ∧ wr.ownsRow (w.heap.size + 4) 3 1 l k (catC (intC X) k) ∧ Blk wr w.heap.size #[.int .i64 p.s0, .int .i64 p.s1, (.slice aS p.S.n cS), (.slice aC p.C.n cC), .int .i64 p.ne, .int .i64 p.ed, .int .i64 p.gr, .int .i64 p.lo, .int .i64 p.hi, .int .i64 p.sh, .int .i64 p.wi] 26 ∧ Blk wr (w.heap.size + 1) #[.slice aI ni cI] 42 ∧ Blk wr (w.heap.size + 1 + 1) #[.slice aK nc cK] 42 ∧ Blk wr (w.heap.size + 1 + 1 + 1) #[.int .i64 w0, .int .i64 w1] 23 ∧ Below w.heap.size w wr ∧ w.heap.size + 4 ≤ wr.heap.size) (fun _ i _ => ni - (intOf i).toNat)
  case atStart => exact ⟨0, Nat.zero_le _, rfl, jR, HVs.out.1, HVs.out.2.1, HVs.out.2.2.1, HVs.out.2.2.2, jB, zB⟩
  case round =>
    clear jR jB zB HVs
    obtain ⟨k, hk, rfl, jR, jP, jI, jK, jW, jB, zB⟩ := hrel
    by_cases hlt2 : k < ni
    · go_upto_region 8 with fail
      obtain ⟨bl, hbl⟩ : ∃ b, wr.heap.size = b := ⟨_, rfl⟩
      have jl := Blk.new wr #[.int .i64 k] 3
      rw [hbl] at jl
      (try rw [hbl])
      have zl : w.heap.size + 4 ≤ bl := by omega
      clear hbl
      replace jP := jP.alloc (.cells #[.int .i64 k] 3)
      replace jI := jI.alloc (.cells #[.int .i64 k] 3)
      replace jK := jK.alloc (.cells #[.int .i64 k] 3)
      replace jW := jW.alloc (.cells #[.int .i64 k] 3)
      replace jR := jR.alloc (.cells #[.int .i64 k] 3)
      replace jB := bwA jB (Nat.le_refl _) (.cells #[.int .i64 k] 3)
      replace zB : w.heap.size + 4 ≤ (wr.alloc (.cells #[.int .i64 k] 3)).heap.size := by simp; omega
      generalize wr.alloc (.cells #[.int .i64 k] 3) = W1 at jl jP jI jK jW jR jB zB ⊢
      have HC := Lib.hid (HV.out k hlt2 W1 jB _ _ _ _ _ jl jW jP jI jK)
      go_wp2_with fail
      refine HC.out.mono ?_
      rintro e w4 ⟨rfl, hb⟩
      clear HC jl zl
      replace jP := jP.call hb
      replace jI := jI.call hb
      replace jK := jK.call hb
      replace jW := jW.call hb
      replace jR := row_call jR hb
      replace zB : w.heap.size + 4 ≤ w4.heap.size := by have := hb.size; omega
      replace jB := bwS jB (Nat.le_refl _) hb
      clear hb
      have hr : ∀ q, u11.ownBlock = some q → w.heap.size + 4 ≤ q := fun q e => (jR.lt q e).1
      go_wp2_with (at_builtin; refine wpList_append_own_at _ rfl _ _ 27 rfl (w.heap.size + 4) 3 i0 (.int .i64 0) 1 8 Try.underlying27 hi0 hz0 hz1 hz2 rfl (by decide) _ _ _ rfl (jR.alloc _) ⟨w4.heap.size, 0, none⟩ 1 1 [.int .i64 (X k)] rfl rfl (news1 _ _ _) (one1 _) (by unfold maxLen; omega) (by omega) (by simp; omega) ?_; intro v' w5 hown' hgrow _ _; have kP := (jP.alloc (.cells #[.int .i64 (X k)] 3)).grown hgrow (fun q e => by have := hr q e; omega); have kI := (jI.alloc (.cells #[.int .i64 (X k)] 3)).grown hgrow (fun q e => by have := hr q e; omega); have kK := (jK.alloc (.cells #[.int .i64 (X k)] 3)).grown hgrow (fun q e => by have := hr q e; omega); have kW := (jW.alloc (.cells #[.int .i64 (X k)] 3)).grown hgrow (fun q e => by have := hr q e; omega); have kB := below_grown (bwA jB (Nat.le_refl _) (.cells #[.int .i64 (X k)] 3)) hgrow (fun q e => by have := hr q e; omega) (by simp; omega); have kZ : w.heap.size + 4 ≤ w5.heap.size := (by have := hgrow.size; simp at this; omega))
      clear hgrow jP jI jK jW jB jR zB hr
      go_roundw
      case rel => exact ⟨k + 1, by omega, by go_num, hown', kP, kI, kK, kW, kB, kZ⟩
      case measure => simp [intOf]; omega
    · obtain rfl : k = ni := by omega
      go_wp2
      exact bodyPost_ret (v := .tuple #[u11, .int .i64 0]) (by simp [results, Try.results39, go_sem]) rfl ⟨u11, rfl, ownsRow_base jR (by omega), jB⟩
end Go.Proofs.Ytkkljbbgaogifaa
