/-
  The reference's Ready: when ice is thick enough, any input.
-/
import Derived.Test.YtdbiijldincoiaaGreatTail
import Derived.Test.YtdbiijldincoiaaGreatBears
set_option linter.unusedVariables false
set_option linter.unusedSimpArgs false
namespace Go.Proofs.YtdbiijldincoiaaGreat
open Go.RowKit

def firstN (g : Nat → Bool) : Nat → Int
  | 0 => 0
  | k + 1 => if firstN g k = 0 then cond (g k) ((k : Int) + 1) 0 else firstN g k
theorem firstI_end (g : Nat → Bool) : ∀ m j : Nat, firstI g j (m + 1) = if firstI g j m = 0 then cond (g (j + m)) (((j + m : Nat) : Int) + 1) 0 else firstI g j m
  | 0, j => by simp [firstI]
  | m + 1, j => by
    have ih := firstI_end g m (j + 1)
    have e1 : firstI g j (m + 1 + 1) = cond (g j) ((j : Int) + 1) (firstI g (j + 1) (m + 1)) := rfl
    have e2 : firstI g j (m + 1) = cond (g j) ((j : Int) + 1) (firstI g (j + 1) m) := rfl
    rw [e1, e2, ih, show j + 1 + m = j + (m + 1) by omega]
    cases g j with
    | true => simp only [cond_true]; rw [if_neg (by omega)]
    | false => simp only [cond_false]
theorem firstN_eq (g : Nat → Bool) : ∀ k, firstN g k = firstI g 0 k
  | 0 => rfl
  | k + 1 => by
    rw [firstI_end g k 0, ← firstN_eq g k, Nat.zero_add]
    rfl
theorem firstN_yes {g : Nat → Bool} {k : Nat} (h : firstN g k = 0) (hg : g k = true) : firstN g (k + 1) = (k : Int) + 1 := by
  show (if firstN g k = 0 then cond (g k) ((k : Int) + 1) 0 else firstN g k) = _
  rw [if_pos h, hg]
  rfl
theorem firstN_no {g : Nat → Bool} {k : Nat} (h : firstN g k = 0) (hg : g k = false) : firstN g (k + 1) = firstN g k := by
  show (if firstN g k = 0 then cond (g k) ((k : Int) + 1) 0 else firstN g k) = _
  rw [if_pos h, hg, h]
  rfl
theorem firstN_old {g : Nat → Bool} {k : Nat} (h : ¬ firstN g k = 0) : firstN g (k + 1) = firstN g k := if_neg h

theorem outB_in {n lo hi : Int} (h1 : lo ≤ n) (h2 : n ≤ hi) : outB n lo hi = false := by
  unfold outB
  simp
  omega

set_option maxRecDepth 100000 in
set_option maxHeartbeats 8000000 in
theorem rready_ok (l : Lw) (va : Option Addr) (vcap : Nat) (x : Nat → Ic) (vd : Value) (m : Nat) (need : Int) (w : World) (hl : l.Ok) (hm : m ≤ 400) (n1 : 0 ≤ need) (n2 : need ≤ 5000) (hF : ∀ i, i < m → (x (i + 1)).Fit)
    (hA : ∀ W, Below w.heap.size w W → Calls Tryz.prog 38 #[.agg #[.int .i64 l.gr, .int .i64 l.la, (.slice va l.n vcap), .int .i64 l.m0, .int .i64 l.m1, .int .i64 l.so, .int .i64 l.h0, .int .i64 l.h1], .agg #[.int .i64 (x 0).b0, .int .i64 (x 0).b1, .int .i64 (x 0).w0, .int .i64 (x 0).w1, .int .i64 (x 0).q0, .int .i64 (x 0).q1, .int .i64 (x 0).s0, .int .i64 (x 0).s1], vd] W fun e w' => e = .returned (.int .i64 0) ∧ Below W.heap.size W w')
    (hR : ∀ W, Below w.heap.size w W → Calls Tryz.prog 39 #[.agg #[.int .i64 l.gr, .int .i64 l.la, (.slice va l.n vcap), .int .i64 l.m0, .int .i64 l.m1, .int .i64 l.so, .int .i64 l.h0, .int .i64 l.h1], .agg #[.int .i64 (x 0).b0, .int .i64 (x 0).b1, .int .i64 (x 0).w0, .int .i64 (x 0).w1, .int .i64 (x 0).q0, .int .i64 (x 0).q1, .int .i64 (x 0).s0, .int .i64 (x 0).s1], vd] W fun e w' => ∃ r, e = .returned r ∧ IceL w' r m (fun i => x (i + 1)) ∧ Below W.heap.size W w') :
    Calls Tryz.prog 24 #[.agg #[.int .i64 l.gr, .int .i64 l.la, (.slice va l.n vcap), .int .i64 l.m0, .int .i64 l.m1, .int .i64 l.so, .int .i64 l.h0, .int .i64 l.h1], .agg #[.int .i64 (x 0).b0, .int .i64 (x 0).b1, .int .i64 (x 0).w0, .int .i64 (x 0).w1, .int .i64 (x 0).q0, .int .i64 (x 0).q1, .int .i64 (x 0).s0, .int .i64 (x 0).s1], vd, .int .i64 need] w
      fun e w' => e = .returned (.tuple #[.int .i64 (firstI (fun i => rdyS need l.h0 (x (i + 1))) 0 m), .int .i64 (firstI (fun i => rdyP need l.h1 (x (i + 1))) 0 m), .int .i64 0]) ∧ Below w.heap.size w w' := by
  rw [← firstN_eq, ← firstN_eq]
  have HA := Lib.hid hA
  have HR := Lib.hid hR
  have HB := Lib.hid (fun (i : Nat) (hi : i < m) (W : World) => rbear_any l va vcap (x (i + 1)) W hl (hF i hi))
  have hob := outB_in n1 n2
  clear hA hR hF hl
  have jL := (Blk.new w #[.int .i64 l.gr, .int .i64 l.la, (.slice va l.n vcap), .int .i64 l.m0, .int .i64 l.m1, .int .i64 l.so, .int .i64 l.h0, .int .i64 l.h1] 26).alloc (.cells #[.int .i64 (x 0).b0, .int .i64 (x 0).b1, .int .i64 (x 0).w0, .int .i64 (x 0).w1, .int .i64 (x 0).q0, .int .i64 (x 0).q1, .int .i64 (x 0).s0, .int .i64 (x 0).s1] 28)
  have jX := Blk.new1 w (.cells #[.int .i64 l.gr, .int .i64 l.la, (.slice va l.n vcap), .int .i64 l.m0, .int .i64 l.m1, .int .i64 l.so, .int .i64 l.h0, .int .i64 l.h1] 26) #[.int .i64 (x 0).b0, .int .i64 (x 0).b1, .int .i64 (x 0).w0, .int .i64 (x 0).w1, .int .i64 (x 0).q0, .int .i64 (x 0).q1, .int .i64 (x 0).s0, .int .i64 (x 0).s1] 28
  have jB : Below w.heap.size w ((w.alloc (.cells #[.int .i64 l.gr, .int .i64 l.la, (.slice va l.n vcap), .int .i64 l.m0, .int .i64 l.m1, .int .i64 l.so, .int .i64 l.h0, .int .i64 l.h1] 26)).alloc (.cells #[.int .i64 (x 0).b0, .int .i64 (x 0).b1, .int .i64 (x 0).w0, .int .i64 (x 0).w1, .int .i64 (x 0).q0, .int .i64 (x 0).q1, .int .i64 (x 0).s0, .int .i64 (x 0).s1] 28)) := by (repeat (first | exact Below.refl _ _ | assumption | refine Below.drew ?_ | refine Below.drewN ?_ _ | refine blT ?_ | refine blU ?_))
  go_enter Tryz.func24, Tryz.ntmps24
  go_wp2_with fail
  refine (HA.out _ jB).mono ?_
  rintro e w1 ⟨rfl, hb⟩
  replace jL := jL.call hb
  replace jX := jX.call hb
  replace jB := bwS jB (Nat.le_refl _) hb
  clear hb HA
  go_wp2_with fail
  refine (rout_any _ _ _ _).mono ?_
  rintro e w2 ⟨rfl, rfl⟩
  rw [hob]
  clear hob
  obtain ⟨l0, l1, l2, l3, l4, l5, l6, l7⟩ := jL.c8
  obtain ⟨x0, x1, x2, x3, x4, x5, x6, x7⟩ := jX.c8
  have zL := jL.lt
  have zX := jX.lt
  go_wp2_with fail
  refine (HR.out _ jB).mono ?_
  rintro e w3 ⟨r, rfl, kI, hb⟩
  clear l0 l1 l2 l3 l4 l5 l6 l7 x0 x1 x2 x3 x4 x5 x6 x7 zL zX jX HR
  replace jL := jL.call hb
  replace jB := bwS jB (Nat.le_refl _) hb
  clear hb
  obtain ⟨ra, rc, hrr, _, _, _⟩ := id kI
  subst hrr
  obtain ⟨bL, hbL⟩ : ∃ z, w.heap.size = z := ⟨_, rfl⟩
  have zwL : w.heap.size ≤ bL := by omega
  rw [hbL] at jL
  (try rw [hbL])
  clear hbL
  obtain ⟨B4, hB4⟩ : ∃ z, w3.heap.size = z := ⟨_, rfl⟩
  have HB4 := Lib.hid hB4
  have zL := jL.lt
  have zL4 : bL < B4 := by omega
  have kB4 : Below B4 w3 w3 := by rw [← hB4]; exact Below.refl _ _
  have HL := Lib.hid (fun (W : World) (h : Below B4 w3 W) => jL.below h zL4)
  have HI := Lib.hid (fun (W : World) (h : Below B4 w3 W) => kI.later (by rw [← HB4.out] at h; exact h))
  have KB := Lib.hid jB
  clear hB4 zL jL kI jB
  go_wp2_with fail
  go_loopw [12, 13, 15] (fun s12 s13 s15 wr => ∃ k : Nat, k ≤ m ∧ s15 = .int .i64 k ∧ s12 = .int .i64 (firstN (fun i => rdyS need l.h0 (x (i + 1))) k) ∧ s13 = .int .i64 (firstN (fun i => rdyP need l.h1 (x (i + 1))) k) ∧ Below B4 w3 wr) (fun _ _ i _ => m - (intOf i).toNat)
  case atStart => exact ⟨0, Nat.zero_le _, rfl, rfl, rfl, kB4⟩
  case round =>
    clear kB4
    obtain ⟨k, hk, rfl, rfl, rfl, hb⟩ := hrel
    by_cases hlt : k < m
    · have HBk := Lib.hid (HB.out k hlt)
      have hra : ∃ b o, ra = some ⟨b, o, none⟩ := by
        obtain ⟨aa, acap, hv, _, _, hz⟩ := HI.out wr hb
        simp only [Value.slice.injEq] at hv
        obtain ⟨rfl, _, _⟩ := hv
        obtain ⟨b, o, ha, _⟩ := hz (by omega)
        exact ⟨b, o, ha⟩
      obtain ⟨rb, ro, hra⟩ := hra
      subst hra
      have HIk := Lib.hid (fun (W : World) (h : Below B4 w3 W) => by
        obtain ⟨aa, acap, hv, _, _, hz⟩ := HI.out W h
        simp only [Value.slice.injEq] at hv
        obtain ⟨hv, _, _⟩ := hv
        obtain ⟨b, o, ha, hc⟩ := hz (by omega)
        rw [← hv] at ha
        simp only [Option.some.injEq, Addr.mk.injEq] at ha
        obtain ⟨rfl, rfl, _⟩ := ha
        have q := hc k hlt
        dsimp only at q
        exact q)
      obtain ⟨y, hy⟩ : ∃ y, x (k + 1) = y := ⟨_, rfl⟩
      obtain ⟨tS, htS⟩ : ∃ z, bearL y.b0 y.w0 l.h0 = z := ⟨_, rfl⟩
      obtain ⟨tP, htP⟩ : ∃ z, bearH y.b1 y.w1 l.h1 = z := ⟨_, rfl⟩
      obtain ⟨sd, hsd⟩ : ∃ z, soundI y.q0 y.q1 = z := ⟨_, rfl⟩
      rw [hy] at HIk HBk
      rw [htS, htP, hsd] at HBk
      have gS := Lib.hid (show (fun i => rdyS need l.h0 (x (i + 1))) k = (decide (sd = 1) && decide (need ≤ tS)) by show rdyS need l.h0 (x (k + 1)) = _; rw [hy]; unfold rdyS; rw [hsd, htS])
      have gP := Lib.hid (show (fun i => rdyP need l.h1 (x (i + 1))) k = (!decide (sd = 2) && decide (need ≤ tP)) by show rdyP need l.h1 (x (k + 1)) = _; rw [hy]; unfold rdyP; rw [hsd, htP])
      clear hy htS htP hsd HB HI
      have zB4 : B4 ≤ w3.heap.size := by rw [HB4.out]; exact Nat.le_refl _
      go_upto_region 11 with fail
      go_cut [16, 17] (fun s16 s17 wx => ∃ bA : Nat, s16 = .pointer (some ⟨bA, 0, none⟩) ∧ s17 = .int .i64 sd ∧ Blk wx bA #[.int .i64 tS, .int .i64 tP] 24 ∧ Below B4 w3 wx)
      case first =>
        (
 let S9 : World → Prop := (fun w' => Below B4 w3 w')
 refine wp_region_held_drew (S := S9) (by kernel_rfl) ?_ (fun hH => ?_)
 · (try dsimp only); (exact hb.drew)
 apply share0 (fun (bA : Nat) (W : World) => S9 W ∧ Blk W bA #[.int .i64 0, .int .i64 0] 24 ∧ (B4 ≤ bA))
 {
 intro X1
 apply share0 (fun (bA : Nat) (W : World) => S9 W ∧ Blk W bA #[.int .i64 0, .int .i64 0] 24 ∧ (B4 ≤ bA))
 {
 intro X0
 refine tkY 0 (some 38) ?_ ?_ ?_
 rotate_left
 · intro w hS0; (try dsimp only at hS0); have kl := HL.out _ hS0; obtain ⟨l0, l1, l2, l3, l4, l5, l6, l7⟩ := kl.c8; obtain ⟨a0, a1, a2, a3, a4, a5, a6, a7⟩ := HIk.out _ hS0; have y1 := kl.lt; have y2 := World.block_lt_of_cell? _ _ a0;go_simp; (try with_reducible rfl)
 (try simp only [cq])
 refine tkY 1 (some 39) ?_ ?_ ?_
 rotate_left
 · intro w _; go_simp; (try with_reducible rfl)
 (try simp only [cq])
 refine tkY 2 (some 40) ?_ ?_ ?_
 rotate_left
 · intro w _; go_simp; (try with_reducible rfl)
 (try simp only [cq])
 refine tkY 3 (some 41) ?_ ?_ ?_
 rotate_left
 · intro w hS0; (try dsimp only at hS0); have kl := HL.out _ hS0; obtain ⟨l0, l1, l2, l3, l4, l5, l6, l7⟩ := kl.c8; obtain ⟨a0, a1, a2, a3, a4, a5, a6, a7⟩ := HIk.out _ hS0; have y1 := kl.lt; have y2 := World.block_lt_of_cell? _ _ a0;go_simp; (try with_reducible rfl)
 (try simp only [cq])
 refine tkY 4 (some 42) ?_ ?_ ?_
 rotate_left
 · intro w hS0; (try dsimp only at hS0); have kl := HL.out _ hS0; obtain ⟨l0, l1, l2, l3, l4, l5, l6, l7⟩ := kl.c8; obtain ⟨a0, a1, a2, a3, a4, a5, a6, a7⟩ := HIk.out _ hS0; have y1 := kl.lt; have y2 := World.block_lt_of_cell? _ _ a0;go_simp; (try with_reducible rfl)
 (try simp only [cq])
 refine wpAnyH_ready (rs := [5, 9]) (by kernel_rfl) (by simp) ?_
 refine arc (some 43) (fun K hK => ?_) ?_
 {
 go_simp
 (refine (HBk.out _).mono ?_; rintro e w' ⟨rfl, hbc⟩; (try replace hA := hA.call hbc))
 refine hK.out _ _ ?_ ?_
 · (exact hH.trans (hbc.mono (by have := hH.size; omega)))
 (try clear hH); (try clear hbc)
 intro hH
 clear hK K
 (try simp only [cq])
 refine tkY 6 (some 37) ?_ ?_ ?_
 rotate_left
 · intro w _; go_simp; (try with_reducible rfl)
 (try simp only [cq])
 refine tkY 7 (some 44) ?_ ?_ ?_
 rotate_left
 · intro w _; go_simp; (try with_reducible rfl)
 (try simp only [cq])
 refine tkY 8 (some 45) ?_ ?_ ?_
 rotate_left
 · intro w _; go_simp; (try with_reducible rfl)
 (try simp only [cq])
 refine wpAnyH_ready (rs := [9]) (by kernel_rfl) (by simp) ?_
 refine arc1 (some 16) fun K hK => ?_
 (have hN1 := Nat.le_trans zB4 hH.size; (try simp only [World.drew] at hN1))
 go_simp
 first | refine oA hK ?_ (fun hH hA => ?_) | refine oD hK ?_ (fun hH hA => ?_)
 · exact hH.alloc (Nat.le_trans zB4 hH.size) _
 clear hK K
 (try simp only [cq])
 obtain ⟨bA, hbA⟩ : ∃ b, Blk.num hA = b := ⟨_, rfl⟩
 obtain ⟨W, hW⟩ : ∃ V, Blk.wld hA = V := ⟨_, rfl⟩
 simp only [Blk.num] at hbA
 simp only [Blk.wld] at hW
 rw [hW] at hH hA ⊢
 rw [hbA] at hA ⊢
 replace hN1 : B4 ≤ bA := (by rw [← hbA]; exact hN1)
 clear hW hbA
 exact X1  bA W ⟨hH, hA, hN1⟩
 }
 refine arc (some 16) (fun K hK => ?_) ?_
 {
 (have hN1 := Nat.le_trans zB4 hH.size; (try simp only [World.drew] at hN1))
 go_simp
 first | refine oA hK ?_ (fun hH hA => ?_) | refine oD hK ?_ (fun hH hA => ?_)
 · exact hH.alloc (Nat.le_trans zB4 hH.size) _
 clear hK K
 (try simp only [cq])
 obtain ⟨bA, hbA⟩ : ∃ b, Blk.num hA = b := ⟨_, rfl⟩
 obtain ⟨W, hW⟩ : ∃ V, Blk.wld hA = V := ⟨_, rfl⟩
 simp only [Blk.num] at hbA
 simp only [Blk.wld] at hW
 rw [hW] at hH hA ⊢
 rw [hbA] at hA ⊢
 replace hN1 : B4 ≤ bA := (by rw [← hbA]; exact hN1)
 clear hW hbA
 exact X0  bA W ⟨hH, hA, hN1⟩
 }
 exact AllReadyH.nil
 }
 {
 intro bA W hall
 obtain ⟨hH, hA, hN1⟩ := hall
 (try dsimp only at hH)
 refine wpAnyH_ready (rs := [5]) (by kernel_rfl) (by simp) ?_
 refine arc1 (some 43) fun K hK => ?_
 go_simp
 (refine (HBk.out _).mono ?_; rintro e w' ⟨rfl, hbc⟩; (try replace hA := hA.call hbc))
 refine hK.out _ _ ?_ ?_
 · (exact hH.trans (hbc.mono (by have := hH.size; omega)))
 (try clear hH); (try clear hbc)
 intro hH
 clear hK K
 (try simp only [cq])
 refine tkY 6 (some 37) ?_ ?_ ?_
 rotate_left
 · intro w _; go_simp; (try with_reducible rfl)
 (try simp only [cq])
 refine tkY 7 (some 44) ?_ ?_ ?_
 rotate_left
 · intro w _; go_simp; (try with_reducible rfl)
 (try simp only [cq])
 refine tkY 8 (some 45) ?_ ?_ ?_
 rotate_left
 · intro w _; go_simp; (try with_reducible rfl)
 (try simp only [cq])
 exact X1  bA w' ⟨hH, hA, hN1⟩
 }
 }
 {
 intro bA W hall
 obtain ⟨hH, hA, hN1⟩ := hall
 (try dsimp only at hH)
 refine wpAnyH_ready (rs := [10]) (by kernel_rfl) (by simp) ?_
 refine arc1 none fun K hK => ?_
 obtain ⟨r0, r1⟩ := hA.c2
 have fr0 := hA.free 0
 have fr1 := hA.free 1
 have zR := hA.lt
 have HS := Lib.hid (show Blk _ bA #[.int .i64 tS, .int .i64 tP] _ from (hA.set 0 (.int .i64 tS)).set 1 (.int .i64 tP))
 go_simp
 refine hK.out _ _ ?_ ?_
 · exact below_set2 hH (by omega) _ _
 (try clear hH); (try clear hbc)
 intro hH
 clear hK K
 (try simp only [cq])
 refine tkY 11 (some 17) ?_ ?_ ?_
 rotate_left
 · intro w _; go_simp; (try with_reducible rfl)
 (try simp only [cq])
 refine wpAnyH_done (by kernel_rfl) ?_ _
 (try dsimp only [Act.put])
 (try simp only [cq])
 clear hA r0 r1 fr0 fr1 zR
 go_wp2_with fail
 go_meet
 exact ⟨_, rfl, rfl, HS.out, hH⟩
 } )
      case rest =>
        clear hb HBk HIk
        obtain ⟨bA, rfl, rfl, kA, hb⟩ := hcut
        have yS := Lib.hid (fun (h : firstN (fun i => rdyS need l.h0 (x (i + 1))) k = 0) (g : (decide (sd = 1) && decide (need ≤ tS)) = true) => firstN_yes h (gS.out.trans g))
        have nS := Lib.hid (fun (h : firstN (fun i => rdyS need l.h0 (x (i + 1))) k = 0) (g : (decide (sd = 1) && decide (need ≤ tS)) = false) => firstN_no h (gS.out.trans g))
        have oS := Lib.hid (fun (h : ¬ firstN (fun i => rdyS need l.h0 (x (i + 1))) k = 0) => firstN_old h)
        have yP := Lib.hid (fun (h : firstN (fun i => rdyP need l.h1 (x (i + 1))) k = 0) (g : (!decide (sd = 2) && decide (need ≤ tP)) = true) => firstN_yes h (gP.out.trans g))
        have nP := Lib.hid (fun (h : firstN (fun i => rdyP need l.h1 (x (i + 1))) k = 0) (g : (!decide (sd = 2) && decide (need ≤ tP)) = false) => firstN_no h (gP.out.trans g))
        have oP := Lib.hid (fun (h : ¬ firstN (fun i => rdyP need l.h1 (x (i + 1))) k = 0) => firstN_old h)
        obtain ⟨A2, hA2⟩ : ∃ z, firstN (fun i => rdyS need l.h0 (x (i + 1))) (k + 1) = z := ⟨_, rfl⟩
        obtain ⟨C2, hC2⟩ : ∃ z, firstN (fun i => rdyP need l.h1 (x (i + 1))) (k + 1) = z := ⟨_, rfl⟩
        rw [hA2] at yS nS oS
        rw [hC2] at yP nP oP
        have HA2 := Lib.hid (And.intro hA2 hC2)
        clear hA2 hC2 gS gP
        generalize firstN (fun i => rdyS need l.h0 (x (i + 1))) k = A at yS nS oS ⊢
        generalize firstN (fun i => rdyP need l.h1 (x (i + 1))) k = C at yP nP oP ⊢
        have ek : IntKind.i64.wrap ((k : Int) + 1) = (k : Int) + 1 := IntWalk.i64_in _ (by omega)
        obtain ⟨y0, y1⟩ := kA.c2
        have zA := kA.lt
        go_upto_region 12 with fail
        go_cut [57] (fun s57 wx => ∃ b : Bool, s57 = .bool b ∧ A2 = cond b ((k : Int) + 1) A ∧ Blk wx bA #[.int .i64 tS, .int .i64 tP] 24 ∧ Below B4 w3 wx)
        case first =>
          by_cases h1 : A = 0
          · have g1 : (A == 0) = true := by simpa using h1
            by_cases h2 : sd = 1
            · have g2 : (sd == 1) = true := by simpa using h2
              by_cases h3 : need ≤ tS
              · have e := Lib.hid (yS.out h1 (by simp [h2, h3]))
                clear yS nS oS yP nP oP h1 h2
                go_wp2
                go_meet
                exact ⟨true, rfl, e.out, kA, hb⟩
              · have e := Lib.hid (nS.out h1 (by simp [h3]))
                clear yS nS oS yP nP oP h1 h2
                go_wp2
                go_meet
                exact ⟨false, rfl, e.out, kA, hb⟩
            · have g2 : (sd == 1) = false := by simpa using h2
              have e := Lib.hid (nS.out h1 (by simp [h2]))
              clear yS nS oS yP nP oP h1 h2
              go_wp2
              go_meet
              exact ⟨false, rfl, e.out, kA, hb⟩
          · have g1 : (A == 0) = false := by simpa using h1
            have e := Lib.hid (oS.out h1)
            clear yS nS oS yP nP oP h1
            go_wp2
            go_meet
            exact ⟨false, rfl, e.out, kA, hb⟩
        case rest =>
          clear kA hb y0 y1 zA yS nS oS
          obtain ⟨b, rfl, hA2, kA, hb⟩ := hcut
          have HAA := Lib.hid hA2
          clear hA2
          obtain ⟨y0, y1⟩ := kA.c2
          have zA := kA.lt
          cases b with
          | true =>
            go_upto_region 14 with fail
            go_cut [71] (fun s71 wx => ∃ b : Bool, s71 = .bool b ∧ C2 = cond b ((k : Int) + 1) C ∧ Below B4 w3 wx)
            case first =>
              by_cases h1 : C = 0
              · have g1 : (C == 0) = true := by simpa using h1
                by_cases h2 : sd = 2
                · have g2 : (sd != 2) = false := by simpa using h2
                  have e := Lib.hid (nP.out h1 (by simp [h2]))
                  clear yP nP oP h1 h2
                  go_wp2
                  go_meet
                  exact ⟨false, rfl, e.out, hb⟩
                · have g2 : (sd != 2) = true := by simpa using h2
                  by_cases h3 : need ≤ tP
                  · have e := Lib.hid (yP.out h1 (by simp [h2, h3]))
                    clear yP nP oP h1 h2
                    go_wp2
                    go_meet
                    exact ⟨true, rfl, e.out, hb⟩
                  · have e := Lib.hid (nP.out h1 (by simp [h3]))
                    clear yP nP oP h1 h2
                    go_wp2
                    go_meet
                    exact ⟨false, rfl, e.out, hb⟩
              · have g1 : (C == 0) = false := by simpa using h1
                have e := Lib.hid (oP.out h1)
                clear yP nP oP h1
                go_wp2
                go_meet
                exact ⟨false, rfl, e.out, hb⟩
            case rest =>
              clear kA hb y0 y1 zA yP nP oP
              obtain ⟨b, rfl, hC2, hb⟩ := hcut
              have HCC := Lib.hid hC2
              clear hC2
              cases b with
              | true =>
                go_wp2
                go_roundw
                case rel => exact ⟨k + 1, by omega, by go_num, by rw [HA2.out.1, HAA.out]; rfl, by rw [HA2.out.2, HCC.out]; rfl, hb⟩
                case measure => simp [intOf]; omega
              | false =>
                go_wp2
                go_roundw
                case rel => exact ⟨k + 1, by omega, by go_num, by rw [HA2.out.1, HAA.out]; rfl, by rw [HA2.out.2, HCC.out]; rfl, hb⟩
                case measure => simp [intOf]; omega
          | false =>
            go_upto_region 14 with fail
            go_cut [71] (fun s71 wx => ∃ b : Bool, s71 = .bool b ∧ C2 = cond b ((k : Int) + 1) C ∧ Below B4 w3 wx)
            case first =>
              by_cases h1 : C = 0
              · have g1 : (C == 0) = true := by simpa using h1
                by_cases h2 : sd = 2
                · have g2 : (sd != 2) = false := by simpa using h2
                  have e := Lib.hid (nP.out h1 (by simp [h2]))
                  clear yP nP oP h1 h2
                  go_wp2
                  go_meet
                  exact ⟨false, rfl, e.out, hb⟩
                · have g2 : (sd != 2) = true := by simpa using h2
                  by_cases h3 : need ≤ tP
                  · have e := Lib.hid (yP.out h1 (by simp [h2, h3]))
                    clear yP nP oP h1 h2
                    go_wp2
                    go_meet
                    exact ⟨true, rfl, e.out, hb⟩
                  · have e := Lib.hid (nP.out h1 (by simp [h3]))
                    clear yP nP oP h1 h2
                    go_wp2
                    go_meet
                    exact ⟨false, rfl, e.out, hb⟩
              · have g1 : (C == 0) = false := by simpa using h1
                have e := Lib.hid (oP.out h1)
                clear yP nP oP h1
                go_wp2
                go_meet
                exact ⟨false, rfl, e.out, hb⟩
            case rest =>
              clear kA hb y0 y1 zA yP nP oP
              obtain ⟨b, rfl, hC2, hb⟩ := hcut
              have HCC := Lib.hid hC2
              clear hC2
              cases b with
              | true =>
                go_wp2
                go_roundw
                case rel => exact ⟨k + 1, by omega, by go_num, by rw [HA2.out.1, HAA.out]; rfl, by rw [HA2.out.2, HCC.out]; rfl, hb⟩
                case measure => simp [intOf]; omega
              | false =>
                go_wp2
                go_roundw
                case rel => exact ⟨k + 1, by omega, by go_num, by rw [HA2.out.1, HAA.out]; rfl, by rw [HA2.out.2, HCC.out]; rfl, hb⟩
                case measure => simp [intOf]; omega
    · have hkm : k = m := by omega
      have e1 := Lib.hid (show firstN (fun i => rdyS need l.h0 (x (i + 1))) k = firstN (fun i => rdyS need l.h0 (x (i + 1))) m by rw [hkm])
      have e2 := Lib.hid (show firstN (fun i => rdyP need l.h1 (x (i + 1))) k = firstN (fun i => rdyP need l.h1 (x (i + 1))) m by rw [hkm])
      have jB := bwS KB.out (by have := KB.out.size; omega) (show Below w3.heap.size w3 wr by rw [HB4.out]; exact hb)
      clear hkm hb
      go_wp2
      exact bodyPost_ret (v := .tuple #[.int .i64 (firstN (fun i => rdyS need l.h0 (x (i + 1))) k), .int .i64 (firstN (fun i => rdyP need l.h1 (x (i + 1))) k), .int .i64 0]) (by simp [results, Tryz.results24, go_sem]) rfl ⟨by rw [e1.out, e2.out], jB⟩

set_option maxRecDepth 100000 in
set_option maxHeartbeats 2000000 in
theorem rready_err (l : Lw) (va : Option Addr) (vcap : Nat) (x : Ic) (vd : Value) (need E1 : Int) (w : World) (hE : orE E1 (eN need 0 5000) ≠ 0)
    (hA : ∀ W, Below w.heap.size w W → Calls Tryz.prog 38 #[.agg #[.int .i64 l.gr, .int .i64 l.la, (.slice va l.n vcap), .int .i64 l.m0, .int .i64 l.m1, .int .i64 l.so, .int .i64 l.h0, .int .i64 l.h1], .agg #[.int .i64 x.b0, .int .i64 x.b1, .int .i64 x.w0, .int .i64 x.w1, .int .i64 x.q0, .int .i64 x.q1, .int .i64 x.s0, .int .i64 x.s1], vd] W fun e w' => e = .returned (.int .i64 E1) ∧ Below W.heap.size W w') :
    Calls Tryz.prog 24 #[.agg #[.int .i64 l.gr, .int .i64 l.la, (.slice va l.n vcap), .int .i64 l.m0, .int .i64 l.m1, .int .i64 l.so, .int .i64 l.h0, .int .i64 l.h1], .agg #[.int .i64 x.b0, .int .i64 x.b1, .int .i64 x.w0, .int .i64 x.w1, .int .i64 x.q0, .int .i64 x.q1, .int .i64 x.s0, .int .i64 x.s1], vd, .int .i64 need] w fun e w' => e = .returned (.tuple #[.int .i64 0, .int .i64 0, .int .i64 (orE E1 (eN need 0 5000))]) ∧ Below w.heap.size w w' := by
  have HA := Lib.hid hA
  clear hA
  have jB : Below w.heap.size w ((w.alloc (.cells #[.int .i64 l.gr, .int .i64 l.la, (.slice va l.n vcap), .int .i64 l.m0, .int .i64 l.m1, .int .i64 l.so, .int .i64 l.h0, .int .i64 l.h1] 26)).alloc (.cells #[.int .i64 x.b0, .int .i64 x.b1, .int .i64 x.w0, .int .i64 x.w1, .int .i64 x.q0, .int .i64 x.q1, .int .i64 x.s0, .int .i64 x.s1] 28)) := by (repeat (first | exact Below.refl _ _ | assumption | refine Below.drew ?_ | refine Below.drewN ?_ _ | refine blT ?_ | refine blU ?_))
  by_cases h1 : E1 = 0
  · subst h1
    rw [show orE 0 (eN need 0 5000) = eN need 0 5000 from rfl] at hE ⊢
    have hob : outB need 0 5000 = true := by
      rw [outB_eN] at hE
      cases h : outB need 0 5000 with
      | true => rfl
      | false => rw [h] at hE; exact absurd rfl hE
    rw [eN_out hob]
    clear hE
    go_enter Tryz.func24, Tryz.ntmps24
    go_wp2_with fail
    refine (HA.out _ jB).mono ?_
    rintro e w1 ⟨rfl, hb⟩
    replace jB := bwS jB (Nat.le_refl _) hb
    clear hb HA
    go_wp2_with fail
    refine (rout_any _ _ _ _).mono ?_
    rintro e w2 ⟨rfl, rfl⟩
    rw [hob]
    clear hob
    go_wp2
    exact bodyPost_ret (v := .tuple #[.int .i64 0, .int .i64 0, .int .i64 2]) (by simp [results, Tryz.results24, go_sem]) rfl ⟨rfl, jB⟩
  · rw [show orE E1 (eN need 0 5000) = E1 from if_neg h1]
    have g2 : (E1 != 0) = true := by simpa using h1
    clear h1 hE
    go_enter Tryz.func24, Tryz.ntmps24
    go_wp2_with fail
    refine (HA.out _ jB).mono ?_
    rintro e w1 ⟨rfl, hb⟩
    replace jB := bwS jB (Nat.le_refl _) hb
    clear hb HA
    go_wp2
    exact bodyPost_ret (v := .tuple #[.int .i64 0, .int .i64 0, .int .i64 E1]) (by simp [results, Tryz.results24, go_sem]) rfl ⟨rfl, jB⟩

theorem rReady_any (l : Lw) (v : Value) (x : Ic) (vd : Value) (m : Nat) (d : Nat → Dy) (need : Int) (w : World) (hv : CovAt w v l.n l.D l.P0 l.P1) (hd : DaysAt w vd m d) :
    Calls Tryz.prog 24 #[.agg #[.int .i64 l.gr, .int .i64 l.la, v, .int .i64 l.m0, .int .i64 l.m1, .int .i64 l.so, .int .i64 l.h0, .int .i64 l.h1], .agg #[.int .i64 x.b0, .int .i64 x.b1, .int .i64 x.w0, .int .i64 x.w1, .int .i64 x.q0, .int .i64 x.q1, .int .i64 x.s0, .int .i64 x.s1], vd, .int .i64 need] w fun e w' => e = .returned (.tuple #[.int .i64 (rdyA l x m d need), .int .i64 (rdyB l x m d need), .int .i64 (eRdy l x m d need)]) ∧ Below w.heap.size w w' := by
  have hA := fun (W : World) (hW : Below w.heap.size w W) => rall_any l.gr l.la v l.n l.D l.P0 l.P1 l.m0 l.m1 l.so l.h0 l.h1 x vd m d W (hv.later hW) (hd.later hW)
  unfold rdyA rdyB
  by_cases hE : eRdy l x m d need = 0
  · rw [if_pos hE, if_pos hE, hE]
    obtain ⟨h1, h2⟩ := orE_zeros hE
    obtain ⟨g1, _, g3, g4, g5⟩ := eRun_ok h1
    obtain ⟨n1, n2⟩ := eN_zero_in h2
    have hF : ∀ i, i < m → (iceAt l d x (i + 1)).Fit := fun i hi => by
      obtain ⟨a1, a2, a3, a4, _, _, _, _⟩ := iceAt_bd (j := 0) g1 g3.bd m g5 (i + 1) (by omega) (by omega)
      exact ⟨by omega, by omega, by omega, by omega⟩
    have hR : ∀ W, Below w.heap.size w W → Calls Tryz.prog 39 #[.agg #[.int .i64 l.gr, .int .i64 l.la, v, .int .i64 l.m0, .int .i64 l.m1, .int .i64 l.so, .int .i64 l.h0, .int .i64 l.h1], .agg #[.int .i64 x.b0, .int .i64 x.b1, .int .i64 x.w0, .int .i64 x.w1, .int .i64 x.q0, .int .i64 x.q1, .int .i64 x.s0, .int .i64 x.s1], vd] W fun e w' => ∃ r, e = .returned r ∧ IceL w' r m (fun i => iceAt l d x (i + 1)) ∧ Below W.heap.size W w' := fun W hW =>
      (rrun_val l v x vd m d W h1 (hv.later hW) (hd.later hW)).mono fun e w' ⟨r, a, b, c⟩ => ⟨r, a, iceL_of_row b, c⟩
    rw [show eAll l.gr l.la l.n l.D l.P0 l.P1 l.m0 l.m1 l.so l.h0 l.h1 x m d = 0 from h1] at hA
    obtain ⟨va, cap, hvv, _, _, _⟩ := id hv
    subst hvv
    exact rready_ok l va cap (iceAt l d x) vd m need w g1 g4 n1 n2 hF hA hR
  · rw [if_neg hE, if_neg hE]
    obtain ⟨va, cap, hvv, _, _, _⟩ := id hv
    subst hvv
    exact rready_err l va cap x vd need (eRun l x m d) w hE hA
end Go.Proofs.YtdbiijldincoiaaGreat
