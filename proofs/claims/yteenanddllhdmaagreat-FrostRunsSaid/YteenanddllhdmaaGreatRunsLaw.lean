/-
  FrostRuns says yes: what is known after each day, and sums of cold.
-/
import Derived.Test.YteenanddllhdmaaGreatTail
import Derived.Test.YteenanddllhdmaaGreatRuns
import Derived.Test.YteenanddllhdmaaGreatAwake
import Derived.Test.YteenanddllhdmaaGreatNew
set_option linter.unusedVariables false
set_option linter.unusedSimpArgs false
namespace Go.Proofs.YteenanddllhdmaaGreat
open Go.RowKit

set_option maxRecDepth 100000 in
set_option maxHeartbeats 16000000 in
theorem runs_any (l : Lw) (cv : Value) (x : Ic) (vd : Value) (md : Nat) (d : Nat → Dy) (a : Option Addr) (len cap : Nat) (w : World) (hc : CovAt w cv l.n l.D l.P0 l.P1) (hd : DaysAt w vd md d) (hn : NumsAt w a len) :
    Calls Tryz.prog 3 #[.agg #[.int .i64 l.gr, .int .i64 l.la, cv, .int .i64 l.m0, .int .i64 l.m1, .int .i64 l.so, .int .i64 l.h0, .int .i64 l.h1], .agg #[.int .i64 x.b0, .int .i64 x.b1, .int .i64 x.w0, .int .i64 x.w1, .int .i64 x.q0, .int .i64 x.q1, .int .i64 x.s0, .int .i64 x.s1], vd, .slice a len cap] w fun e w' => e = .returned (.bool true) ∧ Below w.heap.size w w' := by
  have HC := Lib.hid hc
  have HD := Lib.hid hd
  obtain ⟨va, vcap, hvv, hz1, hz2, hz3⟩ := hc
  clear hz1 hz2 hz3
  subst hvv
  obtain ⟨da, dcap, hvd, hz1, hz2, hz3⟩ := hd
  clear hz1 hz2 hz3
  subst hvd
  have jL := (Blk.new w #[.int .i64 l.gr, .int .i64 l.la, (Value.slice va l.n vcap), .int .i64 l.m0, .int .i64 l.m1, .int .i64 l.so, .int .i64 l.h0, .int .i64 l.h1] 26).alloc (.cells #[.int .i64 x.b0, .int .i64 x.b1, .int .i64 x.w0, .int .i64 x.w1, .int .i64 x.q0, .int .i64 x.q1, .int .i64 x.s0, .int .i64 x.s1] 28)
  have jX := Blk.new1 w (.cells #[.int .i64 l.gr, .int .i64 l.la, (Value.slice va l.n vcap), .int .i64 l.m0, .int .i64 l.m1, .int .i64 l.so, .int .i64 l.h0, .int .i64 l.h1] 26) #[.int .i64 x.b0, .int .i64 x.b1, .int .i64 x.w0, .int .i64 x.w1, .int .i64 x.q0, .int .i64 x.q1, .int .i64 x.s0, .int .i64 x.s1] 28
  have jB : Below w.heap.size w ((w.alloc (.cells #[.int .i64 l.gr, .int .i64 l.la, (Value.slice va l.n vcap), .int .i64 l.m0, .int .i64 l.m1, .int .i64 l.so, .int .i64 l.h0, .int .i64 l.h1] 26)).alloc (.cells #[.int .i64 x.b0, .int .i64 x.b1, .int .i64 x.w0, .int .i64 x.w1, .int .i64 x.q0, .int .i64 x.q1, .int .i64 x.s0, .int .i64 x.s1] 28)) := by (repeat (first | exact Below.refl _ _ | assumption | refine Below.drew ?_ | refine Below.drewN ?_ _ | refine blT ?_ | refine blU ?_))
  go_enter Tryz.func3, Tryz.ntmps3
  go_wp2_with fail
  refine (bigd_any _ _ _ _ _ _ _).mono ?_
  rintro e w0 ⟨rfl, hb⟩
  replace jL := jL.call hb
  replace jX := jX.call hb
  replace jB := bwS jB (Nat.le_refl _) hb
  clear hb
  cases hbg : bigB l.n md with
  | true =>
    clear hbg
    go_wp2_with fail
    refine (awake_any _).mono ?_
    rintro e w9 ⟨rfl, hb⟩
    replace jB := bwS jB (Nat.le_refl _) hb
    go_wp2
    go_ret
    exact ⟨rfl, jB⟩
  | false =>
  have hmd := bigB_no hbg
  clear hbg
  go_wp2_with fail
  refine (newseed_at a len cap _ (hn.later jB)).mono ?_
  rintro e w1 ⟨rfl, hS, hB⟩
  clear hn
  have zD := jX.lt
  obtain ⟨bs, hbs⟩ : ∃ b, w0.heap.size = b := ⟨_, rfl⟩
  replace jL := jL.call hB
  replace jX := jX.call hB
  replace jB := bwS jB (Nat.le_refl _) hB
  rw [hbs] at hS zD ⊢
  have hle : w.heap.size ≤ bs := by omega
  have HB := Lib.hid (And.intro hle jB)
  clear hbs hB jB hle
  obtain ⟨bL, hbL⟩ : ∃ b, w.heap.size = b := ⟨_, rfl⟩
  have zwL : w.heap.size ≤ bL := by omega
  rw [hbL] at jL jX zD ⊢
  clear hbL
  have hb1 : bs < w1.heap.size := hS.choose_spec.lt
  go_wp2_with fail
  refine (frostof_in bs w1 hS).mono ?_
  rintro e w2 ⟨m, v3, rfl, hm, hR, hA⟩
  obtain ⟨vb, vbcap, hvv, hz1, hz2, hz3⟩ := covAt_of_row hR
  clear hz1 hz2 hz3
  subst hvv
  go_wp2_with fail
  refine (iceof_in bs w2 hA.seed).mono ?_
  rintro e w3 ⟨y, rfl, hy, hd⟩
  replace hR := hd.row hR (by omega)
  replace hA := hA.trans hd
  clear hd
  have zA := hA.2.size
  replace jL := ((hA.blk jL (by omega)).alloc (.cells #[.int .i64 m.gr, .int .i64 m.la, (Value.slice vb m.n vbcap), .int .i64 m.m0, .int .i64 m.m1, .int .i64 m.so, .int .i64 m.h0, .int .i64 m.h1] 26)).alloc (.cells #[.int .i64 y.b0, .int .i64 y.b1, .int .i64 y.w0, .int .i64 y.w1, .int .i64 y.q0, .int .i64 y.q1, .int .i64 y.s0, .int .i64 y.s1] 28)
  replace jX := ((hA.blk jX (by omega)).alloc (.cells #[.int .i64 m.gr, .int .i64 m.la, (Value.slice vb m.n vbcap), .int .i64 m.m0, .int .i64 m.m1, .int .i64 m.so, .int .i64 m.h0, .int .i64 m.h1] 26)).alloc (.cells #[.int .i64 y.b0, .int .i64 y.b1, .int .i64 y.w0, .int .i64 y.w1, .int .i64 y.q0, .int .i64 y.q1, .int .i64 y.s0, .int .i64 y.s1] 28)
  have jM := (Blk.new w3 #[.int .i64 m.gr, .int .i64 m.la, (Value.slice vb m.n vbcap), .int .i64 m.m0, .int .i64 m.m1, .int .i64 m.so, .int .i64 m.h0, .int .i64 m.h1] 26).alloc (.cells #[.int .i64 y.b0, .int .i64 y.b1, .int .i64 y.w0, .int .i64 y.w1, .int .i64 y.q0, .int .i64 y.q1, .int .i64 y.s0, .int .i64 y.s1] 28)
  have jY := Blk.new1 w3 (.cells #[.int .i64 m.gr, .int .i64 m.la, (Value.slice vb m.n vbcap), .int .i64 m.m0, .int .i64 m.m1, .int .i64 m.so, .int .i64 m.h0, .int .i64 m.h1] 26) #[.int .i64 y.b0, .int .i64 y.b1, .int .i64 y.w0, .int .i64 y.w1, .int .i64 y.q0, .int .i64 y.q1, .int .i64 y.s0, .int .i64 y.s1] 28
  replace hR := (hR.alloc (.cells #[.int .i64 m.gr, .int .i64 m.la, (Value.slice vb m.n vbcap), .int .i64 m.m0, .int .i64 m.m1, .int .i64 m.so, .int .i64 m.h0, .int .i64 m.h1] 26)).alloc (.cells #[.int .i64 y.b0, .int .i64 y.b1, .int .i64 y.w0, .int .i64 y.w1, .int .i64 y.q0, .int .i64 y.q1, .int .i64 y.s0, .int .i64 y.s1] 28)
  replace hA := (hA.new (.cells #[.int .i64 m.gr, .int .i64 m.la, (Value.slice vb m.n vbcap), .int .i64 m.m0, .int .i64 m.m1, .int .i64 m.so, .int .i64 m.h0, .int .i64 m.h1] 26)).new (.cells #[.int .i64 y.b0, .int .i64 y.b1, .int .i64 y.w0, .int .i64 y.w1, .int .i64 y.q0, .int .i64 y.q1, .int .i64 y.s0, .int .i64 y.s1] 28)
  go_upto_region 5 with fail
  obtain ⟨bM, hbM⟩ : ∃ b, w3.heap.size = b := ⟨_, rfl⟩
  rw [hbM] at zA jM jY
  (try rw [hbM])
  clear hbM
  generalize (w3.alloc (.cells #[.int .i64 m.gr, .int .i64 m.la, (Value.slice vb m.n vbcap), .int .i64 m.m0, .int .i64 m.m1, .int .i64 m.so, .int .i64 m.h0, .int .i64 m.h1] 26)).alloc (.cells #[.int .i64 y.b0, .int .i64 y.b1, .int .i64 y.w0, .int .i64 y.w1, .int .i64 y.q0, .int .i64 y.q1, .int .i64 y.s0, .int .i64 y.s1] 28) = V at jL jX jM jY hR hA ⊢
  have zwbs : w.heap.size ≤ bs := HB.out.1
  have jB5 : Below w.heap.size w V := Drawn.below HB.out.2 hA HB.out.1
  have hAs := hA.seed
  clear hA HB hS
  go_cut [12, 13, 14] (fun s12 s13 s14 wx => ∃ (b1 b2 b3 : Nat) (ls : Nat → Lw × Value) (xs : Nat → Ic) (vs : Nat → Value) (ns : Nat → Nat) (ds : Nat → Nat → Dy), s12 = .slice (some ⟨b1, 0, none⟩) 3 3 ∧ s13 = .slice (some ⟨b2, 0, none⟩) 3 3 ∧ s14 = .slice (some ⟨b3, 0, none⟩) 3 3 ∧ RLists wx b1 b2 b3 ls xs vs ns ds ∧ Below w.heap.size w wx)
  case first =>
    (
 refine wp_region_held_drew (S := (fun w' => Blk w' bL #[.int .i64 l.gr, .int .i64 l.la, (Value.slice va l.n vcap), .int .i64 l.m0, .int .i64 l.m1, .int .i64 l.so, .int .i64 l.h0, .int .i64 l.h1] 26 ∧ Blk w' (bL + 1) #[.int .i64 x.b0, .int .i64 x.b1, .int .i64 x.w0, .int .i64 x.w1, .int .i64 x.q0, .int .i64 x.q1, .int .i64 x.s0, .int .i64 x.s1] 28 ∧ Blk w' bM #[.int .i64 m.gr, .int .i64 m.la, (Value.slice vb m.n vbcap), .int .i64 m.m0, .int .i64 m.m1, .int .i64 m.so, .int .i64 m.h0, .int .i64 m.h1] 26 ∧ Blk w' (bM + 1) #[.int .i64 y.b0, .int .i64 y.b1, .int .i64 y.w0, .int .i64 y.w1, .int .i64 y.q0, .int .i64 y.q1, .int .i64 y.s0, .int .i64 y.s1] 28 ∧ w'.ownsRow (bs + 1) 74 3 (Value.slice vb m.n vbcap) m.n (covC m.D m.P0 m.P1 m.n) ∧ SeedAt bs w' ∧ Below w.heap.size w w')) (by kernel_rfl) ?_ (fun hH => ?_)
 · (try dsimp only); (exact ⟨jL.drew, jX.drew, jM.drew, jY.drew, hR, hAs, jB5.drew⟩)
 refine tkY 0 (some 35) ?_ ?_ ?_
 rotate_left
 · intro w hS0; (try dsimp only at hS0); obtain ⟨k1, k2, k3, k4, _⟩ := hS0; obtain ⟨l0, l1, l2, l3, l4, l5, l6, l7⟩ := k1.c8; obtain ⟨a0, a1, a2, a3, a4, a5, a6, a7⟩ := k2.c8; obtain ⟨m0, m1, m2, m3, m4, m5, m6, m7⟩ := k3.c8; obtain ⟨c0, c1, c2, c3, c4, c5, c6, c7⟩ := k4.c8; have y1 := k1.lt; have y2 := k2.lt; have y3 := k3.lt; have y4 := k4.lt;go_simp; (try with_reducible rfl)
 (try simp only [cq])
 refine tkY 1 (some 36) ?_ ?_ ?_
 rotate_left
 · intro w hS0; (try dsimp only at hS0); obtain ⟨k1, k2, k3, k4, _⟩ := hS0; obtain ⟨l0, l1, l2, l3, l4, l5, l6, l7⟩ := k1.c8; obtain ⟨a0, a1, a2, a3, a4, a5, a6, a7⟩ := k2.c8; obtain ⟨m0, m1, m2, m3, m4, m5, m6, m7⟩ := k3.c8; obtain ⟨c0, c1, c2, c3, c4, c5, c6, c7⟩ := k4.c8; have y1 := k1.lt; have y2 := k2.lt; have y3 := k3.lt; have y4 := k4.lt;go_simp; (try with_reducible rfl)
 (try simp only [cq])
 refine tkY 2 (some 37) ?_ ?_ ?_
 rotate_left
 · intro w hS0; (try dsimp only at hS0); obtain ⟨k1, k2, k3, k4, _⟩ := hS0; obtain ⟨l0, l1, l2, l3, l4, l5, l6, l7⟩ := k1.c8; obtain ⟨a0, a1, a2, a3, a4, a5, a6, a7⟩ := k2.c8; obtain ⟨m0, m1, m2, m3, m4, m5, m6, m7⟩ := k3.c8; obtain ⟨c0, c1, c2, c3, c4, c5, c6, c7⟩ := k4.c8; have y1 := k1.lt; have y2 := k2.lt; have y3 := k3.lt; have y4 := k4.lt;go_simp; (try with_reducible rfl)
 (try simp only [cq])
 refine tkY 4 (some 39) ?_ ?_ ?_
 rotate_left
 · intro w hS0; (try dsimp only at hS0); obtain ⟨k1, k2, k3, k4, _⟩ := hS0; obtain ⟨l0, l1, l2, l3, l4, l5, l6, l7⟩ := k1.c8; obtain ⟨a0, a1, a2, a3, a4, a5, a6, a7⟩ := k2.c8; obtain ⟨m0, m1, m2, m3, m4, m5, m6, m7⟩ := k3.c8; obtain ⟨c0, c1, c2, c3, c4, c5, c6, c7⟩ := k4.c8; have y1 := k1.lt; have y2 := k2.lt; have y3 := k3.lt; have y4 := k4.lt;go_simp; (try with_reducible rfl)
 (try simp only [cq])
 refine tkY 5 (some 40) ?_ ?_ ?_
 rotate_left
 · intro w hS0; (try dsimp only at hS0); obtain ⟨k1, k2, k3, k4, _⟩ := hS0; obtain ⟨l0, l1, l2, l3, l4, l5, l6, l7⟩ := k1.c8; obtain ⟨a0, a1, a2, a3, a4, a5, a6, a7⟩ := k2.c8; obtain ⟨m0, m1, m2, m3, m4, m5, m6, m7⟩ := k3.c8; obtain ⟨c0, c1, c2, c3, c4, c5, c6, c7⟩ := k4.c8; have y1 := k1.lt; have y2 := k2.lt; have y3 := k3.lt; have y4 := k4.lt;go_simp; (try with_reducible rfl)
 (try simp only [cq])
 refine tkY 6 (some 41) ?_ ?_ ?_
 rotate_left
 · intro w hS0; (try dsimp only at hS0); obtain ⟨k1, k2, k3, k4, _⟩ := hS0; obtain ⟨l0, l1, l2, l3, l4, l5, l6, l7⟩ := k1.c8; obtain ⟨a0, a1, a2, a3, a4, a5, a6, a7⟩ := k2.c8; obtain ⟨m0, m1, m2, m3, m4, m5, m6, m7⟩ := k3.c8; obtain ⟨c0, c1, c2, c3, c4, c5, c6, c7⟩ := k4.c8; have y1 := k1.lt; have y2 := k2.lt; have y3 := k3.lt; have y4 := k4.lt;go_simp; (try with_reducible rfl)
 (try simp only [cq])
 refine tkY 8 (some 43) ?_ ?_ ?_
 rotate_left
 · intro w _; go_simp; (try with_reducible rfl)
 (try simp only [cq])
 refine tkY 9 (some 44) ?_ ?_ ?_
 rotate_left
 · intro w _; go_simp; (try with_reducible rfl)
 (try simp only [cq])
 refine tkY 11 (some 46) ?_ ?_ ?_
 rotate_left
 · intro w _; go_simp; (try with_reducible rfl)
 (try simp only [cq])
 refine wpAnyH_ready (rs := [3, 7, 10]) (by kernel_rfl) (by simp) ?_
 refine arc (some 38) (fun K hK => ?_) ?_
 {
 have zz := hH.2.2.2.2.2.1.choose_spec.lt
 go_simp
 first | refine oA hK ?_ (fun hH hA => ?_) | refine oD hK ?_ (fun hH hA => ?_)
 · exact ⟨hH.1.alloc _, hH.2.1.alloc _, hH.2.2.1.alloc _, hH.2.2.2.1.alloc _, hH.2.2.2.2.1.alloc _, hH.2.2.2.2.2.1.imp fun _ h => h.alloc _, hH.2.2.2.2.2.2.alloc hH.2.2.2.2.2.2.size _⟩
 have kP := hA
 clear hA
 obtain ⟨bkP, hbkP⟩ : ∃ b, Blk.num kP = b := ⟨_, rfl⟩
 obtain ⟨Wn, hWn⟩ : ∃ V, Blk.wld kP = V := ⟨_, rfl⟩
 simp only [Blk.num] at hbkP
 simp only [Blk.wld] at hWn
 (try replace kQ := awB hWn kQ)
 (try replace kR := awB hWn kR)
 (try replace hD := awR hWn hD)
 rw [hWn] at hH kP ⊢
 have zkP : bs < bkP := (by rw [← hbkP]; exact zz)
 rw [hbkP] at kP ⊢
 clear hbkP hWn zz
 clear hK K
 (try simp only [cq])
 refine wpAnyH_ready (rs := [7, 10]) (by kernel_rfl) (by simp) ?_
 refine arc (some 42) (fun K hK => ?_) ?_
 {
 have zz := hH.2.2.2.2.2.1.choose_spec.lt
 go_simp
 first | refine oA hK ?_ (fun hH hA => ?_) | refine oD hK ?_ (fun hH hA => ?_)
 · exact ⟨hH.1.alloc _, hH.2.1.alloc _, hH.2.2.1.alloc _, hH.2.2.2.1.alloc _, hH.2.2.2.2.1.alloc _, hH.2.2.2.2.2.1.imp fun _ h => h.alloc _, hH.2.2.2.2.2.2.alloc hH.2.2.2.2.2.2.size _⟩
 have kQ := hA
 clear hA
 obtain ⟨bkQ, hbkQ⟩ : ∃ b, Blk.num kQ = b := ⟨_, rfl⟩
 obtain ⟨Wn, hWn⟩ : ∃ V, Blk.wld kQ = V := ⟨_, rfl⟩
 simp only [Blk.num] at hbkQ
 simp only [Blk.wld] at hWn
 (try replace kP := awB hWn kP)
 (try replace kR := awB hWn kR)
 (try replace hD := awR hWn hD)
 rw [hWn] at hH kQ ⊢
 have zkQ : bs < bkQ := (by rw [← hbkQ]; exact zz)
 rw [hbkQ] at kQ ⊢
 clear hbkQ hWn zz
 clear hK K
 (try simp only [cq])
 refine wpAnyH_ready (rs := [10]) (by kernel_rfl) (by simp) ?_
 refine arc1 (some 45) fun K hK => ?_
 go_simp
 (refine (daysof_in 12 (by decide) (by decide) false bs _ hH.2.2.2.2.2.1).mono ?_; rintro e w' ⟨v2, n2, d2, rfl, hn1, hdk, hD, hd⟩; obtain ⟨aq, cq, hv2, _, _, _⟩ := daysAt_of_row hD; subst hv2; (try (replace kP := hd.blk kP (by omega))); (try (replace kQ := hd.blk kQ (by omega))))
 refine hK.out _ _ ?_ ?_
 · (exact ⟨hd.blk hH.1 (by omega), hd.blk hH.2.1 (by omega), hd.blk hH.2.2.1 (by omega), hd.blk hH.2.2.2.1 (by omega), hd.row hH.2.2.2.2.1 (by omega), hd.seed, Drawn.below hH.2.2.2.2.2.2 hd zwbs⟩)
 (try clear hH); (try clear hd)
 intro hH
 clear hK K
 (try simp only [cq])
 refine tkY 13 (some 12) ?_ ?_ ?_
 rotate_left
 · intro w _; go_simp; (try with_reducible rfl)
 (try simp only [cq])
 refine tkY 14 (some 13) ?_ ?_ ?_
 rotate_left
 · intro w _; go_simp; (try with_reducible rfl)
 (try simp only [cq])
 refine wpAnyH_ready (rs := [12]) (by kernel_rfl) (by simp) ?_
 refine arc1 (some 47) fun K hK => ?_
 have zz := hH.2.2.2.2.2.1.choose_spec.lt
 go_simp
 first | refine oA hK ?_ (fun hH hA => ?_) | refine oD hK ?_ (fun hH hA => ?_)
 · exact ⟨hH.1.alloc _, hH.2.1.alloc _, hH.2.2.1.alloc _, hH.2.2.2.1.alloc _, hH.2.2.2.2.1.alloc _, hH.2.2.2.2.2.1.imp fun _ h => h.alloc _, hH.2.2.2.2.2.2.alloc hH.2.2.2.2.2.2.size _⟩
 have kR := hA
 clear hA
 obtain ⟨bkR, hbkR⟩ : ∃ b, Blk.num kR = b := ⟨_, rfl⟩
 obtain ⟨Wn, hWn⟩ : ∃ V, Blk.wld kR = V := ⟨_, rfl⟩
 simp only [Blk.num] at hbkR
 simp only [Blk.wld] at hWn
 (try replace kP := awB hWn kP)
 (try replace kQ := awB hWn kQ)
 (try replace hD := awR hWn hD)
 rw [hWn] at hH kR ⊢
 have zkR : bs < bkR := (by rw [← hbkR]; exact zz)
 rw [hbkR] at kR ⊢
 clear hbkR hWn zz
 clear hK K
 (try simp only [cq])
 refine tkY 15 (some 14) ?_ ?_ ?_
 rotate_left
 · intro w _; go_simp; (try with_reducible rfl)
 (try simp only [cq])
 refine wpAnyH_done (by kernel_rfl) ?_ _
 (try dsimp only [Act.put])
 (try simp only [cq])
 have kD := daysAt_of_row hD
 have kC2 := covAt_of_row hH.2.2.2.2.1
 have kB := hH.2.2.2.2.2.2
 have kC := HC.out.later kB
 have kE := HD.out.later kB
 clear hH hD
 go_wp2_with fail
 go_meet
 exact ⟨_, _, _, pickB (l, (Value.slice va l.n vcap)) (m, (Value.slice vb m.n vbcap)) (m, (Value.slice vb m.n vbcap)), pickB x y y, pickB (Value.slice da md dcap) (Value.slice aq n2 cq) (Value.slice da md dcap), pickB md n2 md, pickB d d2 d, rfl, rfl, rfl, ⟨⟨_, lwArr3 _ _ _, kP⟩, ⟨_, icArr3 _ _ _, kQ⟩, ⟨_, vlArr3 _ _ _, kR⟩, pickB_all (P := fun (z : Lw × Value) => CovAt _ z.2 z.1.n z.1.D z.1.P0 z.1.P1) kC kC2 kC2, fun k => by
   match k with
   | 0 => exact kE
   | 1 => exact kD
   | _ + 2 => exact kE, pickB_all (P := fun z => z ≤ 420) hmd (by omega) hmd⟩, kB⟩
 }
 refine arc (some 45) (fun K hK => ?_) ?_
 {
 go_simp
 (refine (daysof_in 12 (by decide) (by decide) false bs _ hH.2.2.2.2.2.1).mono ?_; rintro e w' ⟨v2, n2, d2, rfl, hn1, hdk, hD, hd⟩; obtain ⟨aq, cq, hv2, _, _, _⟩ := daysAt_of_row hD; subst hv2; (try (replace kP := hd.blk kP (by omega))); (try (replace kQ := hd.blk kQ (by omega))))
 refine hK.out _ _ ?_ ?_
 · (exact ⟨hd.blk hH.1 (by omega), hd.blk hH.2.1 (by omega), hd.blk hH.2.2.1 (by omega), hd.blk hH.2.2.2.1 (by omega), hd.row hH.2.2.2.2.1 (by omega), hd.seed, Drawn.below hH.2.2.2.2.2.2 hd zwbs⟩)
 (try clear hH); (try clear hd)
 intro hH
 clear hK K
 (try simp only [cq])
 refine tkY 13 (some 12) ?_ ?_ ?_
 rotate_left
 · intro w _; go_simp; (try with_reducible rfl)
 (try simp only [cq])
 refine wpAnyH_ready (rs := [7, 12]) (by kernel_rfl) (by simp) ?_
 refine arc (some 42) (fun K hK => ?_) ?_
 {
 have zz := hH.2.2.2.2.2.1.choose_spec.lt
 go_simp
 first | refine oA hK ?_ (fun hH hA => ?_) | refine oD hK ?_ (fun hH hA => ?_)
 · exact ⟨hH.1.alloc _, hH.2.1.alloc _, hH.2.2.1.alloc _, hH.2.2.2.1.alloc _, hH.2.2.2.2.1.alloc _, hH.2.2.2.2.2.1.imp fun _ h => h.alloc _, hH.2.2.2.2.2.2.alloc hH.2.2.2.2.2.2.size _⟩
 have kQ := hA
 clear hA
 obtain ⟨bkQ, hbkQ⟩ : ∃ b, Blk.num kQ = b := ⟨_, rfl⟩
 obtain ⟨Wn, hWn⟩ : ∃ V, Blk.wld kQ = V := ⟨_, rfl⟩
 simp only [Blk.num] at hbkQ
 simp only [Blk.wld] at hWn
 (try replace kP := awB hWn kP)
 (try replace kR := awB hWn kR)
 (try replace hD := awR hWn hD)
 rw [hWn] at hH kQ ⊢
 have zkQ : bs < bkQ := (by rw [← hbkQ]; exact zz)
 rw [hbkQ] at kQ ⊢
 clear hbkQ hWn zz
 clear hK K
 (try simp only [cq])
 refine tkY 14 (some 13) ?_ ?_ ?_
 rotate_left
 · intro w _; go_simp; (try with_reducible rfl)
 (try simp only [cq])
 refine wpAnyH_ready (rs := [12]) (by kernel_rfl) (by simp) ?_
 refine arc1 (some 47) fun K hK => ?_
 have zz := hH.2.2.2.2.2.1.choose_spec.lt
 go_simp
 first | refine oA hK ?_ (fun hH hA => ?_) | refine oD hK ?_ (fun hH hA => ?_)
 · exact ⟨hH.1.alloc _, hH.2.1.alloc _, hH.2.2.1.alloc _, hH.2.2.2.1.alloc _, hH.2.2.2.2.1.alloc _, hH.2.2.2.2.2.1.imp fun _ h => h.alloc _, hH.2.2.2.2.2.2.alloc hH.2.2.2.2.2.2.size _⟩
 have kR := hA
 clear hA
 obtain ⟨bkR, hbkR⟩ : ∃ b, Blk.num kR = b := ⟨_, rfl⟩
 obtain ⟨Wn, hWn⟩ : ∃ V, Blk.wld kR = V := ⟨_, rfl⟩
 simp only [Blk.num] at hbkR
 simp only [Blk.wld] at hWn
 (try replace kP := awB hWn kP)
 (try replace kQ := awB hWn kQ)
 (try replace hD := awR hWn hD)
 rw [hWn] at hH kR ⊢
 have zkR : bs < bkR := (by rw [← hbkR]; exact zz)
 rw [hbkR] at kR ⊢
 clear hbkR hWn zz
 clear hK K
 (try simp only [cq])
 refine tkY 15 (some 14) ?_ ?_ ?_
 rotate_left
 · intro w _; go_simp; (try with_reducible rfl)
 (try simp only [cq])
 refine wpAnyH_done (by kernel_rfl) ?_ _
 (try dsimp only [Act.put])
 (try simp only [cq])
 have kD := daysAt_of_row hD
 have kC2 := covAt_of_row hH.2.2.2.2.1
 have kB := hH.2.2.2.2.2.2
 have kC := HC.out.later kB
 have kE := HD.out.later kB
 clear hH hD
 go_wp2_with fail
 go_meet
 exact ⟨_, _, _, pickB (l, (Value.slice va l.n vcap)) (m, (Value.slice vb m.n vbcap)) (m, (Value.slice vb m.n vbcap)), pickB x y y, pickB (Value.slice da md dcap) (Value.slice aq n2 cq) (Value.slice da md dcap), pickB md n2 md, pickB d d2 d, rfl, rfl, rfl, ⟨⟨_, lwArr3 _ _ _, kP⟩, ⟨_, icArr3 _ _ _, kQ⟩, ⟨_, vlArr3 _ _ _, kR⟩, pickB_all (P := fun (z : Lw × Value) => CovAt _ z.2 z.1.n z.1.D z.1.P0 z.1.P1) kC kC2 kC2, fun k => by
   match k with
   | 0 => exact kE
   | 1 => exact kD
   | _ + 2 => exact kE, pickB_all (P := fun z => z ≤ 420) hmd (by omega) hmd⟩, kB⟩
 }
 refine arc (some 47) (fun K hK => ?_) ?_
 {
 have zz := hH.2.2.2.2.2.1.choose_spec.lt
 go_simp
 first | refine oA hK ?_ (fun hH hA => ?_) | refine oD hK ?_ (fun hH hA => ?_)
 · exact ⟨hH.1.alloc _, hH.2.1.alloc _, hH.2.2.1.alloc _, hH.2.2.2.1.alloc _, hH.2.2.2.2.1.alloc _, hH.2.2.2.2.2.1.imp fun _ h => h.alloc _, hH.2.2.2.2.2.2.alloc hH.2.2.2.2.2.2.size _⟩
 have kR := hA
 clear hA
 obtain ⟨bkR, hbkR⟩ : ∃ b, Blk.num kR = b := ⟨_, rfl⟩
 obtain ⟨Wn, hWn⟩ : ∃ V, Blk.wld kR = V := ⟨_, rfl⟩
 simp only [Blk.num] at hbkR
 simp only [Blk.wld] at hWn
 (try replace kP := awB hWn kP)
 (try replace kQ := awB hWn kQ)
 (try replace hD := awR hWn hD)
 rw [hWn] at hH kR ⊢
 have zkR : bs < bkR := (by rw [← hbkR]; exact zz)
 rw [hbkR] at kR ⊢
 clear hbkR hWn zz
 clear hK K
 (try simp only [cq])
 refine wpAnyH_ready (rs := [7]) (by kernel_rfl) (by simp) ?_
 refine arc1 (some 42) fun K hK => ?_
 have zz := hH.2.2.2.2.2.1.choose_spec.lt
 go_simp
 first | refine oA hK ?_ (fun hH hA => ?_) | refine oD hK ?_ (fun hH hA => ?_)
 · exact ⟨hH.1.alloc _, hH.2.1.alloc _, hH.2.2.1.alloc _, hH.2.2.2.1.alloc _, hH.2.2.2.2.1.alloc _, hH.2.2.2.2.2.1.imp fun _ h => h.alloc _, hH.2.2.2.2.2.2.alloc hH.2.2.2.2.2.2.size _⟩
 have kQ := hA
 clear hA
 obtain ⟨bkQ, hbkQ⟩ : ∃ b, Blk.num kQ = b := ⟨_, rfl⟩
 obtain ⟨Wn, hWn⟩ : ∃ V, Blk.wld kQ = V := ⟨_, rfl⟩
 simp only [Blk.num] at hbkQ
 simp only [Blk.wld] at hWn
 (try replace kP := awB hWn kP)
 (try replace kR := awB hWn kR)
 (try replace hD := awR hWn hD)
 rw [hWn] at hH kQ ⊢
 have zkQ : bs < bkQ := (by rw [← hbkQ]; exact zz)
 rw [hbkQ] at kQ ⊢
 clear hbkQ hWn zz
 clear hK K
 (try simp only [cq])
 refine tkY 14 (some 13) ?_ ?_ ?_
 rotate_left
 · intro w _; go_simp; (try with_reducible rfl)
 (try simp only [cq])
 refine tkY 15 (some 14) ?_ ?_ ?_
 rotate_left
 · intro w _; go_simp; (try with_reducible rfl)
 (try simp only [cq])
 refine wpAnyH_done (by kernel_rfl) ?_ _
 (try dsimp only [Act.put])
 (try simp only [cq])
 have kD := daysAt_of_row hD
 have kC2 := covAt_of_row hH.2.2.2.2.1
 have kB := hH.2.2.2.2.2.2
 have kC := HC.out.later kB
 have kE := HD.out.later kB
 clear hH hD
 go_wp2_with fail
 go_meet
 exact ⟨_, _, _, pickB (l, (Value.slice va l.n vcap)) (m, (Value.slice vb m.n vbcap)) (m, (Value.slice vb m.n vbcap)), pickB x y y, pickB (Value.slice da md dcap) (Value.slice aq n2 cq) (Value.slice da md dcap), pickB md n2 md, pickB d d2 d, rfl, rfl, rfl, ⟨⟨_, lwArr3 _ _ _, kP⟩, ⟨_, icArr3 _ _ _, kQ⟩, ⟨_, vlArr3 _ _ _, kR⟩, pickB_all (P := fun (z : Lw × Value) => CovAt _ z.2 z.1.n z.1.D z.1.P0 z.1.P1) kC kC2 kC2, fun k => by
   match k with
   | 0 => exact kE
   | 1 => exact kD
   | _ + 2 => exact kE, pickB_all (P := fun z => z ≤ 420) hmd (by omega) hmd⟩, kB⟩
 }
 exact AllReadyH.nil
 }
 exact AllReadyH.nil
 }
 refine arc (some 42) (fun K hK => ?_) ?_
 {
 have zz := hH.2.2.2.2.2.1.choose_spec.lt
 go_simp
 first | refine oA hK ?_ (fun hH hA => ?_) | refine oD hK ?_ (fun hH hA => ?_)
 · exact ⟨hH.1.alloc _, hH.2.1.alloc _, hH.2.2.1.alloc _, hH.2.2.2.1.alloc _, hH.2.2.2.2.1.alloc _, hH.2.2.2.2.2.1.imp fun _ h => h.alloc _, hH.2.2.2.2.2.2.alloc hH.2.2.2.2.2.2.size _⟩
 have kQ := hA
 clear hA
 obtain ⟨bkQ, hbkQ⟩ : ∃ b, Blk.num kQ = b := ⟨_, rfl⟩
 obtain ⟨Wn, hWn⟩ : ∃ V, Blk.wld kQ = V := ⟨_, rfl⟩
 simp only [Blk.num] at hbkQ
 simp only [Blk.wld] at hWn
 (try replace kP := awB hWn kP)
 (try replace kR := awB hWn kR)
 (try replace hD := awR hWn hD)
 rw [hWn] at hH kQ ⊢
 have zkQ : bs < bkQ := (by rw [← hbkQ]; exact zz)
 rw [hbkQ] at kQ ⊢
 clear hbkQ hWn zz
 clear hK K
 (try simp only [cq])
 refine wpAnyH_ready (rs := [3, 10]) (by kernel_rfl) (by simp) ?_
 refine arc (some 38) (fun K hK => ?_) ?_
 {
 have zz := hH.2.2.2.2.2.1.choose_spec.lt
 go_simp
 first | refine oA hK ?_ (fun hH hA => ?_) | refine oD hK ?_ (fun hH hA => ?_)
 · exact ⟨hH.1.alloc _, hH.2.1.alloc _, hH.2.2.1.alloc _, hH.2.2.2.1.alloc _, hH.2.2.2.2.1.alloc _, hH.2.2.2.2.2.1.imp fun _ h => h.alloc _, hH.2.2.2.2.2.2.alloc hH.2.2.2.2.2.2.size _⟩
 have kP := hA
 clear hA
 obtain ⟨bkP, hbkP⟩ : ∃ b, Blk.num kP = b := ⟨_, rfl⟩
 obtain ⟨Wn, hWn⟩ : ∃ V, Blk.wld kP = V := ⟨_, rfl⟩
 simp only [Blk.num] at hbkP
 simp only [Blk.wld] at hWn
 (try replace kQ := awB hWn kQ)
 (try replace kR := awB hWn kR)
 (try replace hD := awR hWn hD)
 rw [hWn] at hH kP ⊢
 have zkP : bs < bkP := (by rw [← hbkP]; exact zz)
 rw [hbkP] at kP ⊢
 clear hbkP hWn zz
 clear hK K
 (try simp only [cq])
 refine wpAnyH_ready (rs := [10]) (by kernel_rfl) (by simp) ?_
 refine arc1 (some 45) fun K hK => ?_
 go_simp
 (refine (daysof_in 12 (by decide) (by decide) false bs _ hH.2.2.2.2.2.1).mono ?_; rintro e w' ⟨v2, n2, d2, rfl, hn1, hdk, hD, hd⟩; obtain ⟨aq, cq, hv2, _, _, _⟩ := daysAt_of_row hD; subst hv2; (try (replace kP := hd.blk kP (by omega))); (try (replace kQ := hd.blk kQ (by omega))))
 refine hK.out _ _ ?_ ?_
 · (exact ⟨hd.blk hH.1 (by omega), hd.blk hH.2.1 (by omega), hd.blk hH.2.2.1 (by omega), hd.blk hH.2.2.2.1 (by omega), hd.row hH.2.2.2.2.1 (by omega), hd.seed, Drawn.below hH.2.2.2.2.2.2 hd zwbs⟩)
 (try clear hH); (try clear hd)
 intro hH
 clear hK K
 (try simp only [cq])
 refine tkY 13 (some 12) ?_ ?_ ?_
 rotate_left
 · intro w _; go_simp; (try with_reducible rfl)
 (try simp only [cq])
 refine tkY 14 (some 13) ?_ ?_ ?_
 rotate_left
 · intro w _; go_simp; (try with_reducible rfl)
 (try simp only [cq])
 refine wpAnyH_ready (rs := [12]) (by kernel_rfl) (by simp) ?_
 refine arc1 (some 47) fun K hK => ?_
 have zz := hH.2.2.2.2.2.1.choose_spec.lt
 go_simp
 first | refine oA hK ?_ (fun hH hA => ?_) | refine oD hK ?_ (fun hH hA => ?_)
 · exact ⟨hH.1.alloc _, hH.2.1.alloc _, hH.2.2.1.alloc _, hH.2.2.2.1.alloc _, hH.2.2.2.2.1.alloc _, hH.2.2.2.2.2.1.imp fun _ h => h.alloc _, hH.2.2.2.2.2.2.alloc hH.2.2.2.2.2.2.size _⟩
 have kR := hA
 clear hA
 obtain ⟨bkR, hbkR⟩ : ∃ b, Blk.num kR = b := ⟨_, rfl⟩
 obtain ⟨Wn, hWn⟩ : ∃ V, Blk.wld kR = V := ⟨_, rfl⟩
 simp only [Blk.num] at hbkR
 simp only [Blk.wld] at hWn
 (try replace kP := awB hWn kP)
 (try replace kQ := awB hWn kQ)
 (try replace hD := awR hWn hD)
 rw [hWn] at hH kR ⊢
 have zkR : bs < bkR := (by rw [← hbkR]; exact zz)
 rw [hbkR] at kR ⊢
 clear hbkR hWn zz
 clear hK K
 (try simp only [cq])
 refine tkY 15 (some 14) ?_ ?_ ?_
 rotate_left
 · intro w _; go_simp; (try with_reducible rfl)
 (try simp only [cq])
 refine wpAnyH_done (by kernel_rfl) ?_ _
 (try dsimp only [Act.put])
 (try simp only [cq])
 have kD := daysAt_of_row hD
 have kC2 := covAt_of_row hH.2.2.2.2.1
 have kB := hH.2.2.2.2.2.2
 have kC := HC.out.later kB
 have kE := HD.out.later kB
 clear hH hD
 go_wp2_with fail
 go_meet
 exact ⟨_, _, _, pickB (l, (Value.slice va l.n vcap)) (m, (Value.slice vb m.n vbcap)) (m, (Value.slice vb m.n vbcap)), pickB x y y, pickB (Value.slice da md dcap) (Value.slice aq n2 cq) (Value.slice da md dcap), pickB md n2 md, pickB d d2 d, rfl, rfl, rfl, ⟨⟨_, lwArr3 _ _ _, kP⟩, ⟨_, icArr3 _ _ _, kQ⟩, ⟨_, vlArr3 _ _ _, kR⟩, pickB_all (P := fun (z : Lw × Value) => CovAt _ z.2 z.1.n z.1.D z.1.P0 z.1.P1) kC kC2 kC2, fun k => by
   match k with
   | 0 => exact kE
   | 1 => exact kD
   | _ + 2 => exact kE, pickB_all (P := fun z => z ≤ 420) hmd (by omega) hmd⟩, kB⟩
 }
 refine arc (some 45) (fun K hK => ?_) ?_
 {
 go_simp
 (refine (daysof_in 12 (by decide) (by decide) false bs _ hH.2.2.2.2.2.1).mono ?_; rintro e w' ⟨v2, n2, d2, rfl, hn1, hdk, hD, hd⟩; obtain ⟨aq, cq, hv2, _, _, _⟩ := daysAt_of_row hD; subst hv2; (try (replace kP := hd.blk kP (by omega))); (try (replace kQ := hd.blk kQ (by omega))))
 refine hK.out _ _ ?_ ?_
 · (exact ⟨hd.blk hH.1 (by omega), hd.blk hH.2.1 (by omega), hd.blk hH.2.2.1 (by omega), hd.blk hH.2.2.2.1 (by omega), hd.row hH.2.2.2.2.1 (by omega), hd.seed, Drawn.below hH.2.2.2.2.2.2 hd zwbs⟩)
 (try clear hH); (try clear hd)
 intro hH
 clear hK K
 (try simp only [cq])
 refine wpAnyH_ready (rs := [3, 12]) (by kernel_rfl) (by simp) ?_
 refine arc (some 38) (fun K hK => ?_) ?_
 {
 have zz := hH.2.2.2.2.2.1.choose_spec.lt
 go_simp
 first | refine oA hK ?_ (fun hH hA => ?_) | refine oD hK ?_ (fun hH hA => ?_)
 · exact ⟨hH.1.alloc _, hH.2.1.alloc _, hH.2.2.1.alloc _, hH.2.2.2.1.alloc _, hH.2.2.2.2.1.alloc _, hH.2.2.2.2.2.1.imp fun _ h => h.alloc _, hH.2.2.2.2.2.2.alloc hH.2.2.2.2.2.2.size _⟩
 have kP := hA
 clear hA
 obtain ⟨bkP, hbkP⟩ : ∃ b, Blk.num kP = b := ⟨_, rfl⟩
 obtain ⟨Wn, hWn⟩ : ∃ V, Blk.wld kP = V := ⟨_, rfl⟩
 simp only [Blk.num] at hbkP
 simp only [Blk.wld] at hWn
 (try replace kQ := awB hWn kQ)
 (try replace kR := awB hWn kR)
 (try replace hD := awR hWn hD)
 rw [hWn] at hH kP ⊢
 have zkP : bs < bkP := (by rw [← hbkP]; exact zz)
 rw [hbkP] at kP ⊢
 clear hbkP hWn zz
 clear hK K
 (try simp only [cq])
 refine tkY 13 (some 12) ?_ ?_ ?_
 rotate_left
 · intro w _; go_simp; (try with_reducible rfl)
 (try simp only [cq])
 refine tkY 14 (some 13) ?_ ?_ ?_
 rotate_left
 · intro w _; go_simp; (try with_reducible rfl)
 (try simp only [cq])
 refine wpAnyH_ready (rs := [12]) (by kernel_rfl) (by simp) ?_
 refine arc1 (some 47) fun K hK => ?_
 have zz := hH.2.2.2.2.2.1.choose_spec.lt
 go_simp
 first | refine oA hK ?_ (fun hH hA => ?_) | refine oD hK ?_ (fun hH hA => ?_)
 · exact ⟨hH.1.alloc _, hH.2.1.alloc _, hH.2.2.1.alloc _, hH.2.2.2.1.alloc _, hH.2.2.2.2.1.alloc _, hH.2.2.2.2.2.1.imp fun _ h => h.alloc _, hH.2.2.2.2.2.2.alloc hH.2.2.2.2.2.2.size _⟩
 have kR := hA
 clear hA
 obtain ⟨bkR, hbkR⟩ : ∃ b, Blk.num kR = b := ⟨_, rfl⟩
 obtain ⟨Wn, hWn⟩ : ∃ V, Blk.wld kR = V := ⟨_, rfl⟩
 simp only [Blk.num] at hbkR
 simp only [Blk.wld] at hWn
 (try replace kP := awB hWn kP)
 (try replace kQ := awB hWn kQ)
 (try replace hD := awR hWn hD)
 rw [hWn] at hH kR ⊢
 have zkR : bs < bkR := (by rw [← hbkR]; exact zz)
 rw [hbkR] at kR ⊢
 clear hbkR hWn zz
 clear hK K
 (try simp only [cq])
 refine tkY 15 (some 14) ?_ ?_ ?_
 rotate_left
 · intro w _; go_simp; (try with_reducible rfl)
 (try simp only [cq])
 refine wpAnyH_done (by kernel_rfl) ?_ _
 (try dsimp only [Act.put])
 (try simp only [cq])
 have kD := daysAt_of_row hD
 have kC2 := covAt_of_row hH.2.2.2.2.1
 have kB := hH.2.2.2.2.2.2
 have kC := HC.out.later kB
 have kE := HD.out.later kB
 clear hH hD
 go_wp2_with fail
 go_meet
 exact ⟨_, _, _, pickB (l, (Value.slice va l.n vcap)) (m, (Value.slice vb m.n vbcap)) (m, (Value.slice vb m.n vbcap)), pickB x y y, pickB (Value.slice da md dcap) (Value.slice aq n2 cq) (Value.slice da md dcap), pickB md n2 md, pickB d d2 d, rfl, rfl, rfl, ⟨⟨_, lwArr3 _ _ _, kP⟩, ⟨_, icArr3 _ _ _, kQ⟩, ⟨_, vlArr3 _ _ _, kR⟩, pickB_all (P := fun (z : Lw × Value) => CovAt _ z.2 z.1.n z.1.D z.1.P0 z.1.P1) kC kC2 kC2, fun k => by
   match k with
   | 0 => exact kE
   | 1 => exact kD
   | _ + 2 => exact kE, pickB_all (P := fun z => z ≤ 420) hmd (by omega) hmd⟩, kB⟩
 }
 refine arc (some 47) (fun K hK => ?_) ?_
 {
 have zz := hH.2.2.2.2.2.1.choose_spec.lt
 go_simp
 first | refine oA hK ?_ (fun hH hA => ?_) | refine oD hK ?_ (fun hH hA => ?_)
 · exact ⟨hH.1.alloc _, hH.2.1.alloc _, hH.2.2.1.alloc _, hH.2.2.2.1.alloc _, hH.2.2.2.2.1.alloc _, hH.2.2.2.2.2.1.imp fun _ h => h.alloc _, hH.2.2.2.2.2.2.alloc hH.2.2.2.2.2.2.size _⟩
 have kR := hA
 clear hA
 obtain ⟨bkR, hbkR⟩ : ∃ b, Blk.num kR = b := ⟨_, rfl⟩
 obtain ⟨Wn, hWn⟩ : ∃ V, Blk.wld kR = V := ⟨_, rfl⟩
 simp only [Blk.num] at hbkR
 simp only [Blk.wld] at hWn
 (try replace kP := awB hWn kP)
 (try replace kQ := awB hWn kQ)
 (try replace hD := awR hWn hD)
 rw [hWn] at hH kR ⊢
 have zkR : bs < bkR := (by rw [← hbkR]; exact zz)
 rw [hbkR] at kR ⊢
 clear hbkR hWn zz
 clear hK K
 (try simp only [cq])
 refine wpAnyH_ready (rs := [3]) (by kernel_rfl) (by simp) ?_
 refine arc1 (some 38) fun K hK => ?_
 have zz := hH.2.2.2.2.2.1.choose_spec.lt
 go_simp
 first | refine oA hK ?_ (fun hH hA => ?_) | refine oD hK ?_ (fun hH hA => ?_)
 · exact ⟨hH.1.alloc _, hH.2.1.alloc _, hH.2.2.1.alloc _, hH.2.2.2.1.alloc _, hH.2.2.2.2.1.alloc _, hH.2.2.2.2.2.1.imp fun _ h => h.alloc _, hH.2.2.2.2.2.2.alloc hH.2.2.2.2.2.2.size _⟩
 have kP := hA
 clear hA
 obtain ⟨bkP, hbkP⟩ : ∃ b, Blk.num kP = b := ⟨_, rfl⟩
 obtain ⟨Wn, hWn⟩ : ∃ V, Blk.wld kP = V := ⟨_, rfl⟩
 simp only [Blk.num] at hbkP
 simp only [Blk.wld] at hWn
 (try replace kQ := awB hWn kQ)
 (try replace kR := awB hWn kR)
 (try replace hD := awR hWn hD)
 rw [hWn] at hH kP ⊢
 have zkP : bs < bkP := (by rw [← hbkP]; exact zz)
 rw [hbkP] at kP ⊢
 clear hbkP hWn zz
 clear hK K
 (try simp only [cq])
 refine tkY 13 (some 12) ?_ ?_ ?_
 rotate_left
 · intro w _; go_simp; (try with_reducible rfl)
 (try simp only [cq])
 refine tkY 14 (some 13) ?_ ?_ ?_
 rotate_left
 · intro w _; go_simp; (try with_reducible rfl)
 (try simp only [cq])
 refine tkY 15 (some 14) ?_ ?_ ?_
 rotate_left
 · intro w _; go_simp; (try with_reducible rfl)
 (try simp only [cq])
 refine wpAnyH_done (by kernel_rfl) ?_ _
 (try dsimp only [Act.put])
 (try simp only [cq])
 have kD := daysAt_of_row hD
 have kC2 := covAt_of_row hH.2.2.2.2.1
 have kB := hH.2.2.2.2.2.2
 have kC := HC.out.later kB
 have kE := HD.out.later kB
 clear hH hD
 go_wp2_with fail
 go_meet
 exact ⟨_, _, _, pickB (l, (Value.slice va l.n vcap)) (m, (Value.slice vb m.n vbcap)) (m, (Value.slice vb m.n vbcap)), pickB x y y, pickB (Value.slice da md dcap) (Value.slice aq n2 cq) (Value.slice da md dcap), pickB md n2 md, pickB d d2 d, rfl, rfl, rfl, ⟨⟨_, lwArr3 _ _ _, kP⟩, ⟨_, icArr3 _ _ _, kQ⟩, ⟨_, vlArr3 _ _ _, kR⟩, pickB_all (P := fun (z : Lw × Value) => CovAt _ z.2 z.1.n z.1.D z.1.P0 z.1.P1) kC kC2 kC2, fun k => by
   match k with
   | 0 => exact kE
   | 1 => exact kD
   | _ + 2 => exact kE, pickB_all (P := fun z => z ≤ 420) hmd (by omega) hmd⟩, kB⟩
 }
 exact AllReadyH.nil
 }
 exact AllReadyH.nil
 }
 refine arc (some 45) (fun K hK => ?_) ?_
 {
 go_simp
 (refine (daysof_in 12 (by decide) (by decide) false bs _ hH.2.2.2.2.2.1).mono ?_; rintro e w' ⟨v2, n2, d2, rfl, hn1, hdk, hD, hd⟩; obtain ⟨aq, cq, hv2, _, _, _⟩ := daysAt_of_row hD; subst hv2; (try (replace kP := hd.blk kP (by omega))); (try (replace kQ := hd.blk kQ (by omega))))
 refine hK.out _ _ ?_ ?_
 · (exact ⟨hd.blk hH.1 (by omega), hd.blk hH.2.1 (by omega), hd.blk hH.2.2.1 (by omega), hd.blk hH.2.2.2.1 (by omega), hd.row hH.2.2.2.2.1 (by omega), hd.seed, Drawn.below hH.2.2.2.2.2.2 hd zwbs⟩)
 (try clear hH); (try clear hd)
 intro hH
 clear hK K
 (try simp only [cq])
 refine wpAnyH_ready (rs := [3, 7, 12]) (by kernel_rfl) (by simp) ?_
 refine arc (some 38) (fun K hK => ?_) ?_
 {
 have zz := hH.2.2.2.2.2.1.choose_spec.lt
 go_simp
 first | refine oA hK ?_ (fun hH hA => ?_) | refine oD hK ?_ (fun hH hA => ?_)
 · exact ⟨hH.1.alloc _, hH.2.1.alloc _, hH.2.2.1.alloc _, hH.2.2.2.1.alloc _, hH.2.2.2.2.1.alloc _, hH.2.2.2.2.2.1.imp fun _ h => h.alloc _, hH.2.2.2.2.2.2.alloc hH.2.2.2.2.2.2.size _⟩
 have kP := hA
 clear hA
 obtain ⟨bkP, hbkP⟩ : ∃ b, Blk.num kP = b := ⟨_, rfl⟩
 obtain ⟨Wn, hWn⟩ : ∃ V, Blk.wld kP = V := ⟨_, rfl⟩
 simp only [Blk.num] at hbkP
 simp only [Blk.wld] at hWn
 (try replace kQ := awB hWn kQ)
 (try replace kR := awB hWn kR)
 (try replace hD := awR hWn hD)
 rw [hWn] at hH kP ⊢
 have zkP : bs < bkP := (by rw [← hbkP]; exact zz)
 rw [hbkP] at kP ⊢
 clear hbkP hWn zz
 clear hK K
 (try simp only [cq])
 refine tkY 13 (some 12) ?_ ?_ ?_
 rotate_left
 · intro w _; go_simp; (try with_reducible rfl)
 (try simp only [cq])
 refine wpAnyH_ready (rs := [7, 12]) (by kernel_rfl) (by simp) ?_
 refine arc (some 42) (fun K hK => ?_) ?_
 {
 have zz := hH.2.2.2.2.2.1.choose_spec.lt
 go_simp
 first | refine oA hK ?_ (fun hH hA => ?_) | refine oD hK ?_ (fun hH hA => ?_)
 · exact ⟨hH.1.alloc _, hH.2.1.alloc _, hH.2.2.1.alloc _, hH.2.2.2.1.alloc _, hH.2.2.2.2.1.alloc _, hH.2.2.2.2.2.1.imp fun _ h => h.alloc _, hH.2.2.2.2.2.2.alloc hH.2.2.2.2.2.2.size _⟩
 have kQ := hA
 clear hA
 obtain ⟨bkQ, hbkQ⟩ : ∃ b, Blk.num kQ = b := ⟨_, rfl⟩
 obtain ⟨Wn, hWn⟩ : ∃ V, Blk.wld kQ = V := ⟨_, rfl⟩
 simp only [Blk.num] at hbkQ
 simp only [Blk.wld] at hWn
 (try replace kP := awB hWn kP)
 (try replace kR := awB hWn kR)
 (try replace hD := awR hWn hD)
 rw [hWn] at hH kQ ⊢
 have zkQ : bs < bkQ := (by rw [← hbkQ]; exact zz)
 rw [hbkQ] at kQ ⊢
 clear hbkQ hWn zz
 clear hK K
 (try simp only [cq])
 refine tkY 14 (some 13) ?_ ?_ ?_
 rotate_left
 · intro w _; go_simp; (try with_reducible rfl)
 (try simp only [cq])
 refine wpAnyH_ready (rs := [12]) (by kernel_rfl) (by simp) ?_
 refine arc1 (some 47) fun K hK => ?_
 have zz := hH.2.2.2.2.2.1.choose_spec.lt
 go_simp
 first | refine oA hK ?_ (fun hH hA => ?_) | refine oD hK ?_ (fun hH hA => ?_)
 · exact ⟨hH.1.alloc _, hH.2.1.alloc _, hH.2.2.1.alloc _, hH.2.2.2.1.alloc _, hH.2.2.2.2.1.alloc _, hH.2.2.2.2.2.1.imp fun _ h => h.alloc _, hH.2.2.2.2.2.2.alloc hH.2.2.2.2.2.2.size _⟩
 have kR := hA
 clear hA
 obtain ⟨bkR, hbkR⟩ : ∃ b, Blk.num kR = b := ⟨_, rfl⟩
 obtain ⟨Wn, hWn⟩ : ∃ V, Blk.wld kR = V := ⟨_, rfl⟩
 simp only [Blk.num] at hbkR
 simp only [Blk.wld] at hWn
 (try replace kP := awB hWn kP)
 (try replace kQ := awB hWn kQ)
 (try replace hD := awR hWn hD)
 rw [hWn] at hH kR ⊢
 have zkR : bs < bkR := (by rw [← hbkR]; exact zz)
 rw [hbkR] at kR ⊢
 clear hbkR hWn zz
 clear hK K
 (try simp only [cq])
 refine tkY 15 (some 14) ?_ ?_ ?_
 rotate_left
 · intro w _; go_simp; (try with_reducible rfl)
 (try simp only [cq])
 refine wpAnyH_done (by kernel_rfl) ?_ _
 (try dsimp only [Act.put])
 (try simp only [cq])
 have kD := daysAt_of_row hD
 have kC2 := covAt_of_row hH.2.2.2.2.1
 have kB := hH.2.2.2.2.2.2
 have kC := HC.out.later kB
 have kE := HD.out.later kB
 clear hH hD
 go_wp2_with fail
 go_meet
 exact ⟨_, _, _, pickB (l, (Value.slice va l.n vcap)) (m, (Value.slice vb m.n vbcap)) (m, (Value.slice vb m.n vbcap)), pickB x y y, pickB (Value.slice da md dcap) (Value.slice aq n2 cq) (Value.slice da md dcap), pickB md n2 md, pickB d d2 d, rfl, rfl, rfl, ⟨⟨_, lwArr3 _ _ _, kP⟩, ⟨_, icArr3 _ _ _, kQ⟩, ⟨_, vlArr3 _ _ _, kR⟩, pickB_all (P := fun (z : Lw × Value) => CovAt _ z.2 z.1.n z.1.D z.1.P0 z.1.P1) kC kC2 kC2, fun k => by
   match k with
   | 0 => exact kE
   | 1 => exact kD
   | _ + 2 => exact kE, pickB_all (P := fun z => z ≤ 420) hmd (by omega) hmd⟩, kB⟩
 }
 refine arc (some 47) (fun K hK => ?_) ?_
 {
 have zz := hH.2.2.2.2.2.1.choose_spec.lt
 go_simp
 first | refine oA hK ?_ (fun hH hA => ?_) | refine oD hK ?_ (fun hH hA => ?_)
 · exact ⟨hH.1.alloc _, hH.2.1.alloc _, hH.2.2.1.alloc _, hH.2.2.2.1.alloc _, hH.2.2.2.2.1.alloc _, hH.2.2.2.2.2.1.imp fun _ h => h.alloc _, hH.2.2.2.2.2.2.alloc hH.2.2.2.2.2.2.size _⟩
 have kR := hA
 clear hA
 obtain ⟨bkR, hbkR⟩ : ∃ b, Blk.num kR = b := ⟨_, rfl⟩
 obtain ⟨Wn, hWn⟩ : ∃ V, Blk.wld kR = V := ⟨_, rfl⟩
 simp only [Blk.num] at hbkR
 simp only [Blk.wld] at hWn
 (try replace kP := awB hWn kP)
 (try replace kQ := awB hWn kQ)
 (try replace hD := awR hWn hD)
 rw [hWn] at hH kR ⊢
 have zkR : bs < bkR := (by rw [← hbkR]; exact zz)
 rw [hbkR] at kR ⊢
 clear hbkR hWn zz
 clear hK K
 (try simp only [cq])
 refine wpAnyH_ready (rs := [7]) (by kernel_rfl) (by simp) ?_
 refine arc1 (some 42) fun K hK => ?_
 have zz := hH.2.2.2.2.2.1.choose_spec.lt
 go_simp
 first | refine oA hK ?_ (fun hH hA => ?_) | refine oD hK ?_ (fun hH hA => ?_)
 · exact ⟨hH.1.alloc _, hH.2.1.alloc _, hH.2.2.1.alloc _, hH.2.2.2.1.alloc _, hH.2.2.2.2.1.alloc _, hH.2.2.2.2.2.1.imp fun _ h => h.alloc _, hH.2.2.2.2.2.2.alloc hH.2.2.2.2.2.2.size _⟩
 have kQ := hA
 clear hA
 obtain ⟨bkQ, hbkQ⟩ : ∃ b, Blk.num kQ = b := ⟨_, rfl⟩
 obtain ⟨Wn, hWn⟩ : ∃ V, Blk.wld kQ = V := ⟨_, rfl⟩
 simp only [Blk.num] at hbkQ
 simp only [Blk.wld] at hWn
 (try replace kP := awB hWn kP)
 (try replace kR := awB hWn kR)
 (try replace hD := awR hWn hD)
 rw [hWn] at hH kQ ⊢
 have zkQ : bs < bkQ := (by rw [← hbkQ]; exact zz)
 rw [hbkQ] at kQ ⊢
 clear hbkQ hWn zz
 clear hK K
 (try simp only [cq])
 refine tkY 14 (some 13) ?_ ?_ ?_
 rotate_left
 · intro w _; go_simp; (try with_reducible rfl)
 (try simp only [cq])
 refine tkY 15 (some 14) ?_ ?_ ?_
 rotate_left
 · intro w _; go_simp; (try with_reducible rfl)
 (try simp only [cq])
 refine wpAnyH_done (by kernel_rfl) ?_ _
 (try dsimp only [Act.put])
 (try simp only [cq])
 have kD := daysAt_of_row hD
 have kC2 := covAt_of_row hH.2.2.2.2.1
 have kB := hH.2.2.2.2.2.2
 have kC := HC.out.later kB
 have kE := HD.out.later kB
 clear hH hD
 go_wp2_with fail
 go_meet
 exact ⟨_, _, _, pickB (l, (Value.slice va l.n vcap)) (m, (Value.slice vb m.n vbcap)) (m, (Value.slice vb m.n vbcap)), pickB x y y, pickB (Value.slice da md dcap) (Value.slice aq n2 cq) (Value.slice da md dcap), pickB md n2 md, pickB d d2 d, rfl, rfl, rfl, ⟨⟨_, lwArr3 _ _ _, kP⟩, ⟨_, icArr3 _ _ _, kQ⟩, ⟨_, vlArr3 _ _ _, kR⟩, pickB_all (P := fun (z : Lw × Value) => CovAt _ z.2 z.1.n z.1.D z.1.P0 z.1.P1) kC kC2 kC2, fun k => by
   match k with
   | 0 => exact kE
   | 1 => exact kD
   | _ + 2 => exact kE, pickB_all (P := fun z => z ≤ 420) hmd (by omega) hmd⟩, kB⟩
 }
 exact AllReadyH.nil
 }
 refine arc (some 42) (fun K hK => ?_) ?_
 {
 have zz := hH.2.2.2.2.2.1.choose_spec.lt
 go_simp
 first | refine oA hK ?_ (fun hH hA => ?_) | refine oD hK ?_ (fun hH hA => ?_)
 · exact ⟨hH.1.alloc _, hH.2.1.alloc _, hH.2.2.1.alloc _, hH.2.2.2.1.alloc _, hH.2.2.2.2.1.alloc _, hH.2.2.2.2.2.1.imp fun _ h => h.alloc _, hH.2.2.2.2.2.2.alloc hH.2.2.2.2.2.2.size _⟩
 have kQ := hA
 clear hA
 obtain ⟨bkQ, hbkQ⟩ : ∃ b, Blk.num kQ = b := ⟨_, rfl⟩
 obtain ⟨Wn, hWn⟩ : ∃ V, Blk.wld kQ = V := ⟨_, rfl⟩
 simp only [Blk.num] at hbkQ
 simp only [Blk.wld] at hWn
 (try replace kP := awB hWn kP)
 (try replace kR := awB hWn kR)
 (try replace hD := awR hWn hD)
 rw [hWn] at hH kQ ⊢
 have zkQ : bs < bkQ := (by rw [← hbkQ]; exact zz)
 rw [hbkQ] at kQ ⊢
 clear hbkQ hWn zz
 clear hK K
 (try simp only [cq])
 refine wpAnyH_ready (rs := [3, 12]) (by kernel_rfl) (by simp) ?_
 refine arc (some 38) (fun K hK => ?_) ?_
 {
 have zz := hH.2.2.2.2.2.1.choose_spec.lt
 go_simp
 first | refine oA hK ?_ (fun hH hA => ?_) | refine oD hK ?_ (fun hH hA => ?_)
 · exact ⟨hH.1.alloc _, hH.2.1.alloc _, hH.2.2.1.alloc _, hH.2.2.2.1.alloc _, hH.2.2.2.2.1.alloc _, hH.2.2.2.2.2.1.imp fun _ h => h.alloc _, hH.2.2.2.2.2.2.alloc hH.2.2.2.2.2.2.size _⟩
 have kP := hA
 clear hA
 obtain ⟨bkP, hbkP⟩ : ∃ b, Blk.num kP = b := ⟨_, rfl⟩
 obtain ⟨Wn, hWn⟩ : ∃ V, Blk.wld kP = V := ⟨_, rfl⟩
 simp only [Blk.num] at hbkP
 simp only [Blk.wld] at hWn
 (try replace kQ := awB hWn kQ)
 (try replace kR := awB hWn kR)
 (try replace hD := awR hWn hD)
 rw [hWn] at hH kP ⊢
 have zkP : bs < bkP := (by rw [← hbkP]; exact zz)
 rw [hbkP] at kP ⊢
 clear hbkP hWn zz
 clear hK K
 (try simp only [cq])
 refine tkY 13 (some 12) ?_ ?_ ?_
 rotate_left
 · intro w _; go_simp; (try with_reducible rfl)
 (try simp only [cq])
 refine tkY 14 (some 13) ?_ ?_ ?_
 rotate_left
 · intro w _; go_simp; (try with_reducible rfl)
 (try simp only [cq])
 refine wpAnyH_ready (rs := [12]) (by kernel_rfl) (by simp) ?_
 refine arc1 (some 47) fun K hK => ?_
 have zz := hH.2.2.2.2.2.1.choose_spec.lt
 go_simp
 first | refine oA hK ?_ (fun hH hA => ?_) | refine oD hK ?_ (fun hH hA => ?_)
 · exact ⟨hH.1.alloc _, hH.2.1.alloc _, hH.2.2.1.alloc _, hH.2.2.2.1.alloc _, hH.2.2.2.2.1.alloc _, hH.2.2.2.2.2.1.imp fun _ h => h.alloc _, hH.2.2.2.2.2.2.alloc hH.2.2.2.2.2.2.size _⟩
 have kR := hA
 clear hA
 obtain ⟨bkR, hbkR⟩ : ∃ b, Blk.num kR = b := ⟨_, rfl⟩
 obtain ⟨Wn, hWn⟩ : ∃ V, Blk.wld kR = V := ⟨_, rfl⟩
 simp only [Blk.num] at hbkR
 simp only [Blk.wld] at hWn
 (try replace kP := awB hWn kP)
 (try replace kQ := awB hWn kQ)
 (try replace hD := awR hWn hD)
 rw [hWn] at hH kR ⊢
 have zkR : bs < bkR := (by rw [← hbkR]; exact zz)
 rw [hbkR] at kR ⊢
 clear hbkR hWn zz
 clear hK K
 (try simp only [cq])
 refine tkY 15 (some 14) ?_ ?_ ?_
 rotate_left
 · intro w _; go_simp; (try with_reducible rfl)
 (try simp only [cq])
 refine wpAnyH_done (by kernel_rfl) ?_ _
 (try dsimp only [Act.put])
 (try simp only [cq])
 have kD := daysAt_of_row hD
 have kC2 := covAt_of_row hH.2.2.2.2.1
 have kB := hH.2.2.2.2.2.2
 have kC := HC.out.later kB
 have kE := HD.out.later kB
 clear hH hD
 go_wp2_with fail
 go_meet
 exact ⟨_, _, _, pickB (l, (Value.slice va l.n vcap)) (m, (Value.slice vb m.n vbcap)) (m, (Value.slice vb m.n vbcap)), pickB x y y, pickB (Value.slice da md dcap) (Value.slice aq n2 cq) (Value.slice da md dcap), pickB md n2 md, pickB d d2 d, rfl, rfl, rfl, ⟨⟨_, lwArr3 _ _ _, kP⟩, ⟨_, icArr3 _ _ _, kQ⟩, ⟨_, vlArr3 _ _ _, kR⟩, pickB_all (P := fun (z : Lw × Value) => CovAt _ z.2 z.1.n z.1.D z.1.P0 z.1.P1) kC kC2 kC2, fun k => by
   match k with
   | 0 => exact kE
   | 1 => exact kD
   | _ + 2 => exact kE, pickB_all (P := fun z => z ≤ 420) hmd (by omega) hmd⟩, kB⟩
 }
 refine arc (some 47) (fun K hK => ?_) ?_
 {
 have zz := hH.2.2.2.2.2.1.choose_spec.lt
 go_simp
 first | refine oA hK ?_ (fun hH hA => ?_) | refine oD hK ?_ (fun hH hA => ?_)
 · exact ⟨hH.1.alloc _, hH.2.1.alloc _, hH.2.2.1.alloc _, hH.2.2.2.1.alloc _, hH.2.2.2.2.1.alloc _, hH.2.2.2.2.2.1.imp fun _ h => h.alloc _, hH.2.2.2.2.2.2.alloc hH.2.2.2.2.2.2.size _⟩
 have kR := hA
 clear hA
 obtain ⟨bkR, hbkR⟩ : ∃ b, Blk.num kR = b := ⟨_, rfl⟩
 obtain ⟨Wn, hWn⟩ : ∃ V, Blk.wld kR = V := ⟨_, rfl⟩
 simp only [Blk.num] at hbkR
 simp only [Blk.wld] at hWn
 (try replace kP := awB hWn kP)
 (try replace kQ := awB hWn kQ)
 (try replace hD := awR hWn hD)
 rw [hWn] at hH kR ⊢
 have zkR : bs < bkR := (by rw [← hbkR]; exact zz)
 rw [hbkR] at kR ⊢
 clear hbkR hWn zz
 clear hK K
 (try simp only [cq])
 refine wpAnyH_ready (rs := [3]) (by kernel_rfl) (by simp) ?_
 refine arc1 (some 38) fun K hK => ?_
 have zz := hH.2.2.2.2.2.1.choose_spec.lt
 go_simp
 first | refine oA hK ?_ (fun hH hA => ?_) | refine oD hK ?_ (fun hH hA => ?_)
 · exact ⟨hH.1.alloc _, hH.2.1.alloc _, hH.2.2.1.alloc _, hH.2.2.2.1.alloc _, hH.2.2.2.2.1.alloc _, hH.2.2.2.2.2.1.imp fun _ h => h.alloc _, hH.2.2.2.2.2.2.alloc hH.2.2.2.2.2.2.size _⟩
 have kP := hA
 clear hA
 obtain ⟨bkP, hbkP⟩ : ∃ b, Blk.num kP = b := ⟨_, rfl⟩
 obtain ⟨Wn, hWn⟩ : ∃ V, Blk.wld kP = V := ⟨_, rfl⟩
 simp only [Blk.num] at hbkP
 simp only [Blk.wld] at hWn
 (try replace kQ := awB hWn kQ)
 (try replace kR := awB hWn kR)
 (try replace hD := awR hWn hD)
 rw [hWn] at hH kP ⊢
 have zkP : bs < bkP := (by rw [← hbkP]; exact zz)
 rw [hbkP] at kP ⊢
 clear hbkP hWn zz
 clear hK K
 (try simp only [cq])
 refine tkY 13 (some 12) ?_ ?_ ?_
 rotate_left
 · intro w _; go_simp; (try with_reducible rfl)
 (try simp only [cq])
 refine tkY 14 (some 13) ?_ ?_ ?_
 rotate_left
 · intro w _; go_simp; (try with_reducible rfl)
 (try simp only [cq])
 refine tkY 15 (some 14) ?_ ?_ ?_
 rotate_left
 · intro w _; go_simp; (try with_reducible rfl)
 (try simp only [cq])
 refine wpAnyH_done (by kernel_rfl) ?_ _
 (try dsimp only [Act.put])
 (try simp only [cq])
 have kD := daysAt_of_row hD
 have kC2 := covAt_of_row hH.2.2.2.2.1
 have kB := hH.2.2.2.2.2.2
 have kC := HC.out.later kB
 have kE := HD.out.later kB
 clear hH hD
 go_wp2_with fail
 go_meet
 exact ⟨_, _, _, pickB (l, (Value.slice va l.n vcap)) (m, (Value.slice vb m.n vbcap)) (m, (Value.slice vb m.n vbcap)), pickB x y y, pickB (Value.slice da md dcap) (Value.slice aq n2 cq) (Value.slice da md dcap), pickB md n2 md, pickB d d2 d, rfl, rfl, rfl, ⟨⟨_, lwArr3 _ _ _, kP⟩, ⟨_, icArr3 _ _ _, kQ⟩, ⟨_, vlArr3 _ _ _, kR⟩, pickB_all (P := fun (z : Lw × Value) => CovAt _ z.2 z.1.n z.1.D z.1.P0 z.1.P1) kC kC2 kC2, fun k => by
   match k with
   | 0 => exact kE
   | 1 => exact kD
   | _ + 2 => exact kE, pickB_all (P := fun z => z ≤ 420) hmd (by omega) hmd⟩, kB⟩
 }
 exact AllReadyH.nil
 }
 refine arc (some 47) (fun K hK => ?_) ?_
 {
 have zz := hH.2.2.2.2.2.1.choose_spec.lt
 go_simp
 first | refine oA hK ?_ (fun hH hA => ?_) | refine oD hK ?_ (fun hH hA => ?_)
 · exact ⟨hH.1.alloc _, hH.2.1.alloc _, hH.2.2.1.alloc _, hH.2.2.2.1.alloc _, hH.2.2.2.2.1.alloc _, hH.2.2.2.2.2.1.imp fun _ h => h.alloc _, hH.2.2.2.2.2.2.alloc hH.2.2.2.2.2.2.size _⟩
 have kR := hA
 clear hA
 obtain ⟨bkR, hbkR⟩ : ∃ b, Blk.num kR = b := ⟨_, rfl⟩
 obtain ⟨Wn, hWn⟩ : ∃ V, Blk.wld kR = V := ⟨_, rfl⟩
 simp only [Blk.num] at hbkR
 simp only [Blk.wld] at hWn
 (try replace kP := awB hWn kP)
 (try replace kQ := awB hWn kQ)
 (try replace hD := awR hWn hD)
 rw [hWn] at hH kR ⊢
 have zkR : bs < bkR := (by rw [← hbkR]; exact zz)
 rw [hbkR] at kR ⊢
 clear hbkR hWn zz
 clear hK K
 (try simp only [cq])
 refine wpAnyH_ready (rs := [3, 7]) (by kernel_rfl) (by simp) ?_
 refine arc (some 38) (fun K hK => ?_) ?_
 {
 have zz := hH.2.2.2.2.2.1.choose_spec.lt
 go_simp
 first | refine oA hK ?_ (fun hH hA => ?_) | refine oD hK ?_ (fun hH hA => ?_)
 · exact ⟨hH.1.alloc _, hH.2.1.alloc _, hH.2.2.1.alloc _, hH.2.2.2.1.alloc _, hH.2.2.2.2.1.alloc _, hH.2.2.2.2.2.1.imp fun _ h => h.alloc _, hH.2.2.2.2.2.2.alloc hH.2.2.2.2.2.2.size _⟩
 have kP := hA
 clear hA
 obtain ⟨bkP, hbkP⟩ : ∃ b, Blk.num kP = b := ⟨_, rfl⟩
 obtain ⟨Wn, hWn⟩ : ∃ V, Blk.wld kP = V := ⟨_, rfl⟩
 simp only [Blk.num] at hbkP
 simp only [Blk.wld] at hWn
 (try replace kQ := awB hWn kQ)
 (try replace kR := awB hWn kR)
 (try replace hD := awR hWn hD)
 rw [hWn] at hH kP ⊢
 have zkP : bs < bkP := (by rw [← hbkP]; exact zz)
 rw [hbkP] at kP ⊢
 clear hbkP hWn zz
 clear hK K
 (try simp only [cq])
 refine tkY 13 (some 12) ?_ ?_ ?_
 rotate_left
 · intro w _; go_simp; (try with_reducible rfl)
 (try simp only [cq])
 refine wpAnyH_ready (rs := [7]) (by kernel_rfl) (by simp) ?_
 refine arc1 (some 42) fun K hK => ?_
 have zz := hH.2.2.2.2.2.1.choose_spec.lt
 go_simp
 first | refine oA hK ?_ (fun hH hA => ?_) | refine oD hK ?_ (fun hH hA => ?_)
 · exact ⟨hH.1.alloc _, hH.2.1.alloc _, hH.2.2.1.alloc _, hH.2.2.2.1.alloc _, hH.2.2.2.2.1.alloc _, hH.2.2.2.2.2.1.imp fun _ h => h.alloc _, hH.2.2.2.2.2.2.alloc hH.2.2.2.2.2.2.size _⟩
 have kQ := hA
 clear hA
 obtain ⟨bkQ, hbkQ⟩ : ∃ b, Blk.num kQ = b := ⟨_, rfl⟩
 obtain ⟨Wn, hWn⟩ : ∃ V, Blk.wld kQ = V := ⟨_, rfl⟩
 simp only [Blk.num] at hbkQ
 simp only [Blk.wld] at hWn
 (try replace kP := awB hWn kP)
 (try replace kR := awB hWn kR)
 (try replace hD := awR hWn hD)
 rw [hWn] at hH kQ ⊢
 have zkQ : bs < bkQ := (by rw [← hbkQ]; exact zz)
 rw [hbkQ] at kQ ⊢
 clear hbkQ hWn zz
 clear hK K
 (try simp only [cq])
 refine tkY 14 (some 13) ?_ ?_ ?_
 rotate_left
 · intro w _; go_simp; (try with_reducible rfl)
 (try simp only [cq])
 refine tkY 15 (some 14) ?_ ?_ ?_
 rotate_left
 · intro w _; go_simp; (try with_reducible rfl)
 (try simp only [cq])
 refine wpAnyH_done (by kernel_rfl) ?_ _
 (try dsimp only [Act.put])
 (try simp only [cq])
 have kD := daysAt_of_row hD
 have kC2 := covAt_of_row hH.2.2.2.2.1
 have kB := hH.2.2.2.2.2.2
 have kC := HC.out.later kB
 have kE := HD.out.later kB
 clear hH hD
 go_wp2_with fail
 go_meet
 exact ⟨_, _, _, pickB (l, (Value.slice va l.n vcap)) (m, (Value.slice vb m.n vbcap)) (m, (Value.slice vb m.n vbcap)), pickB x y y, pickB (Value.slice da md dcap) (Value.slice aq n2 cq) (Value.slice da md dcap), pickB md n2 md, pickB d d2 d, rfl, rfl, rfl, ⟨⟨_, lwArr3 _ _ _, kP⟩, ⟨_, icArr3 _ _ _, kQ⟩, ⟨_, vlArr3 _ _ _, kR⟩, pickB_all (P := fun (z : Lw × Value) => CovAt _ z.2 z.1.n z.1.D z.1.P0 z.1.P1) kC kC2 kC2, fun k => by
   match k with
   | 0 => exact kE
   | 1 => exact kD
   | _ + 2 => exact kE, pickB_all (P := fun z => z ≤ 420) hmd (by omega) hmd⟩, kB⟩
 }
 refine arc (some 42) (fun K hK => ?_) ?_
 {
 have zz := hH.2.2.2.2.2.1.choose_spec.lt
 go_simp
 first | refine oA hK ?_ (fun hH hA => ?_) | refine oD hK ?_ (fun hH hA => ?_)
 · exact ⟨hH.1.alloc _, hH.2.1.alloc _, hH.2.2.1.alloc _, hH.2.2.2.1.alloc _, hH.2.2.2.2.1.alloc _, hH.2.2.2.2.2.1.imp fun _ h => h.alloc _, hH.2.2.2.2.2.2.alloc hH.2.2.2.2.2.2.size _⟩
 have kQ := hA
 clear hA
 obtain ⟨bkQ, hbkQ⟩ : ∃ b, Blk.num kQ = b := ⟨_, rfl⟩
 obtain ⟨Wn, hWn⟩ : ∃ V, Blk.wld kQ = V := ⟨_, rfl⟩
 simp only [Blk.num] at hbkQ
 simp only [Blk.wld] at hWn
 (try replace kP := awB hWn kP)
 (try replace kR := awB hWn kR)
 (try replace hD := awR hWn hD)
 rw [hWn] at hH kQ ⊢
 have zkQ : bs < bkQ := (by rw [← hbkQ]; exact zz)
 rw [hbkQ] at kQ ⊢
 clear hbkQ hWn zz
 clear hK K
 (try simp only [cq])
 refine wpAnyH_ready (rs := [3]) (by kernel_rfl) (by simp) ?_
 refine arc1 (some 38) fun K hK => ?_
 have zz := hH.2.2.2.2.2.1.choose_spec.lt
 go_simp
 first | refine oA hK ?_ (fun hH hA => ?_) | refine oD hK ?_ (fun hH hA => ?_)
 · exact ⟨hH.1.alloc _, hH.2.1.alloc _, hH.2.2.1.alloc _, hH.2.2.2.1.alloc _, hH.2.2.2.2.1.alloc _, hH.2.2.2.2.2.1.imp fun _ h => h.alloc _, hH.2.2.2.2.2.2.alloc hH.2.2.2.2.2.2.size _⟩
 have kP := hA
 clear hA
 obtain ⟨bkP, hbkP⟩ : ∃ b, Blk.num kP = b := ⟨_, rfl⟩
 obtain ⟨Wn, hWn⟩ : ∃ V, Blk.wld kP = V := ⟨_, rfl⟩
 simp only [Blk.num] at hbkP
 simp only [Blk.wld] at hWn
 (try replace kQ := awB hWn kQ)
 (try replace kR := awB hWn kR)
 (try replace hD := awR hWn hD)
 rw [hWn] at hH kP ⊢
 have zkP : bs < bkP := (by rw [← hbkP]; exact zz)
 rw [hbkP] at kP ⊢
 clear hbkP hWn zz
 clear hK K
 (try simp only [cq])
 refine tkY 13 (some 12) ?_ ?_ ?_
 rotate_left
 · intro w _; go_simp; (try with_reducible rfl)
 (try simp only [cq])
 refine tkY 14 (some 13) ?_ ?_ ?_
 rotate_left
 · intro w _; go_simp; (try with_reducible rfl)
 (try simp only [cq])
 refine tkY 15 (some 14) ?_ ?_ ?_
 rotate_left
 · intro w _; go_simp; (try with_reducible rfl)
 (try simp only [cq])
 refine wpAnyH_done (by kernel_rfl) ?_ _
 (try dsimp only [Act.put])
 (try simp only [cq])
 have kD := daysAt_of_row hD
 have kC2 := covAt_of_row hH.2.2.2.2.1
 have kB := hH.2.2.2.2.2.2
 have kC := HC.out.later kB
 have kE := HD.out.later kB
 clear hH hD
 go_wp2_with fail
 go_meet
 exact ⟨_, _, _, pickB (l, (Value.slice va l.n vcap)) (m, (Value.slice vb m.n vbcap)) (m, (Value.slice vb m.n vbcap)), pickB x y y, pickB (Value.slice da md dcap) (Value.slice aq n2 cq) (Value.slice da md dcap), pickB md n2 md, pickB d d2 d, rfl, rfl, rfl, ⟨⟨_, lwArr3 _ _ _, kP⟩, ⟨_, icArr3 _ _ _, kQ⟩, ⟨_, vlArr3 _ _ _, kR⟩, pickB_all (P := fun (z : Lw × Value) => CovAt _ z.2 z.1.n z.1.D z.1.P0 z.1.P1) kC kC2 kC2, fun k => by
   match k with
   | 0 => exact kE
   | 1 => exact kD
   | _ + 2 => exact kE, pickB_all (P := fun z => z ≤ 420) hmd (by omega) hmd⟩, kB⟩
 }
 exact AllReadyH.nil
 }
 exact AllReadyH.nil
 }
 exact AllReadyH.nil )
  case rest =>
    obtain ⟨b1, b2, b3, ls, xs, vs, ns, ds, rfl, rfl, rfl, hL, kB⟩ := hcut
    clear jL jX jM jY hR hAs jB5 hm hy
    obtain ⟨V3, hVV⟩ : ∃ V3, V3 = wc := ⟨_, rfl⟩
    subst hVV
    have HL := Lib.hid hL
    obtain ⟨B4, hB4⟩ : ∃ z, V3.heap.size = z := ⟨_, rfl⟩
    have HB4 := Lib.hid hB4
    have zwB : w.heap.size ≤ B4 := by have := kB.size; omega
    have zB4 : B4 ≤ V3.heap.size := by omega
    have zB4b : V3.heap.size ≤ B4 := by omega
    have zp : 0 < B4 := by obtain ⟨⟨C, _, hb⟩, _⟩ := hL; have := hb.lt; omega
    have kB4 : Below B4 V3 V3 := by rw [← hB4]; exact Below.refl _ _
    have KB := Lib.hid kB
    clear hB4 hL kB
    go_wp2_with fail
    go_loopw [15] (fun i wr => ∃ k : Nat, k ≤ 3 ∧ i = .int .i64 k ∧ Below B4 V3 wr) (fun i _ => 3 - (intOf i).toNat)
    case atStart => exact ⟨0, Nat.zero_le _, rfl, kB4⟩
    case round =>
      clear kB4
      obtain ⟨k, hk, rfl, hb⟩ := hrel
      by_cases hlt : k < 3
      · obtain ⟨⟨C1, g1, j1⟩, ⟨C2, g2, j2⟩, ⟨C3, g3, j3⟩, g4, g5, g6⟩ := HL.out
        have hcv := g4 k
        have hdv := g5 k
        have hfew := g6 k
        have R1 := Lib.hid (fun (W : World) (h : Below B4 V3 W) => g1.cells (j1.below h (by have := j1.lt; omega)) hlt)
        have R2 := Lib.hid (fun (W : World) (h : Below B4 V3 W) => g2.cells (j2.below h (by have := j2.lt; omega)) hlt)
        have R3 := Lib.hid (fun (W : World) (h : Below B4 V3 W) => (j3.below h (by have := j3.lt; omega)).cell k (g3 k hlt))
        obtain ⟨⟨q, vq0⟩, hlv⟩ : ∃ z, ls k = z := ⟨_, rfl⟩
        obtain ⟨xk, hxk⟩ : ∃ z, xs k = z := ⟨_, rfl⟩
        obtain ⟨vk, hvk⟩ : ∃ z, vs k = z := ⟨_, rfl⟩
        obtain ⟨nk, hnk⟩ : ∃ z, ns k = z := ⟨_, rfl⟩
        obtain ⟨dk, hdk⟩ : ∃ z, ds k = z := ⟨_, rfl⟩
        rw [hlv] at hcv R1
        rw [hxk] at R2
        rw [hvk] at R3 hdv
        rw [hnk] at hdv hfew
        rw [hdk] at hdv
        dsimp only at R1 hcv
        simp only [Nat.zero_add] at R2
        clear hlv hxk hvk hnk hdk g1 g2 g3 g4 g5 g6 j1 j2 j3
        obtain ⟨vq, vqcap, hvq, _, _, _⟩ := id hcv
        subst hvq
        have HCV := Lib.hid (fun (W : World) (h : Below B4 V3 W) => hcv.later (by rw [← HB4.out] at h; exact h))
        have HDV := Lib.hid (fun (W : World) (h : Below B4 V3 W) => hdv.later (by rw [← HB4.out] at h; exact h))
        clear hcv hdv
        have K1 := Lib.hid (fun (W : World) (own : Value) (h : Below B4 V3 W) (ho : DaysAt W own nk dk) => fRun_any q (.slice vq q.n vqcap) xk own nk dk W (HCV.out W h) ho (by have := h.size; omega))
        have K2 := Lib.hid (fun (W : World) (own : Value) (h : Below B4 V3 W) (ho : DaysAt W own nk dk) => rRun_any q (.slice vq q.n vqcap) xk own nk dk W (HCV.out W h) ho)
        have K3 := Lib.hid (fun (W : World) (own : Value) (ho : DaysAt W own nk dk) => idx_any own nk dk W ho)
        have K4 := Lib.hid (fun (W : World) (own : Value) (ho : DaysAt W own nk dk) => ridx_any own nk dk W ho)
        obtain ⟨E, hE⟩ : ∃ z, eRun q xk nk dk = z := ⟨_, rfl⟩
        obtain ⟨N, hN⟩ : ∃ z, runN q xk nk dk = z := ⟨_, rfl⟩
        obtain ⟨F, hF⟩ : ∃ z, (fun i => iceAt q dk xk (i + 1)) = z := ⟨_, rfl⟩
        obtain ⟨s0, hs0⟩ : ∃ z, idxL nk dk = z := ⟨_, rfl⟩
        obtain ⟨s1, hs1⟩ : ∃ z, idxH nk dk = z := ⟨_, rfl⟩
        obtain ⟨G, hG⟩ : ∃ z, eDs nk dk = z := ⟨_, rfl⟩
        have zN : N ≤ 420 := by rw [← hN]; unfold runN; split <;> omega
        rw [hE, hN, hF] at K1 K2
        rw [hs0, hs1, hG] at K3 K4
        clear hE hN hF hs0 hs1 hG
        have zr := hb.size
        have jO : ((wr.alloc (.cells #[] 58))).ownsRow (wr.heap.size) 58 6 (.slice (some ⟨wr.heap.size, 0, none⟩) 0 0) 0 [] :=
          ⟨rfl, .inr ⟨wr.heap.size, 0, #[], rfl, Nat.le_refl _, World.alloc_heap_new wr _, Nat.le_refl _, Nat.zero_le _, rfl, rfl⟩⟩
        have hO : Below B4 V3 (wr.alloc (.cells #[] 58)) := bwA hb (by omega) _
        have r3 := R3.out _ hb
        have zb3 := World.block_lt_of_cell? _ _ r3
        go_upto_region 10 with (at_builtin; refine append_days rfl _ _ rfl rfl wr.heap.size _ 0 [] rfl jO vk nk dk rfl (HDV.out _ hO) (by omega) (by simp) ?_; intro own w10 hown' hgrow; simp only [Nat.zero_add, List.nil_append] at hown'; have kOwn := daysAt_of_row hown'; have hb10 : Below B4 V3 w10 := hO.grown hgrow (by have := hO.size; omega) (fun p e => by have := (jO.lt p e).1; omega); clear hown' hgrow r3 zb3)
        clear jO hO hb zr
        go_cut [17, 18] (fun s17 s18 wx => ∃ r1 : Value, r1 = s17 ∧ s18 = .int .i64 E ∧ IceL wx r1 N F ∧ DaysAt wx own nk dk ∧ Below B4 V3 wx)
        case first =>
          (
 refine wp_region_held_drew (S := (fun w' => Below B4 V3 w' ∧ DaysAt w' own nk dk)) (by kernel_rfl) ?_ (fun hH => ?_)
 · (try dsimp only); (exact ⟨hb10.drew, kOwn.later (Below.refl _ _).drew⟩)
 refine tkY 0 (some 61) ?_ ?_ ?_
 rotate_left
 · intro w _; go_simp; (try with_reducible rfl)
 (try simp only [cq])
 refine tkY 1 (some 62) ?_ ?_ ?_
 rotate_left
 · intro w _; go_simp; (try with_reducible rfl)
 (try simp only [cq])
 refine tkY 2 (some 63) ?_ ?_ ?_
 rotate_left
 · intro w hS0; (try dsimp only at hS0); obtain ⟨kb, _⟩ := hS0; obtain ⟨l0, l1, l2, l3, l4, l5, l6, l7⟩ := R1.out _ kb; obtain ⟨a0, a1, a2, a3, a4, a5, a6, a7⟩ := R2.out _ kb; have z1 := World.block_lt_of_cell? _ _ l0; have z2 := World.block_lt_of_cell? _ _ a0;go_simp; (try with_reducible rfl)
 (try simp only [cq])
 refine tkY 3 (some 64) ?_ ?_ ?_
 rotate_left
 · intro w hS0; (try dsimp only at hS0); obtain ⟨kb, _⟩ := hS0; obtain ⟨l0, l1, l2, l3, l4, l5, l6, l7⟩ := R1.out _ kb; obtain ⟨a0, a1, a2, a3, a4, a5, a6, a7⟩ := R2.out _ kb; have z1 := World.block_lt_of_cell? _ _ l0; have z2 := World.block_lt_of_cell? _ _ a0;go_simp; (try with_reducible rfl)
 (try simp only [cq])
 refine tkY 4 (some 65) ?_ ?_ ?_
 rotate_left
 · intro w _; go_simp; (try with_reducible rfl)
 (try simp only [cq])
 refine tkY 5 (some 66) ?_ ?_ ?_
 rotate_left
 · intro w _; go_simp; (try with_reducible rfl)
 (try simp only [cq])
 refine tkY 6 (some 67) ?_ ?_ ?_
 rotate_left
 · intro w hS0; (try dsimp only at hS0); obtain ⟨kb, _⟩ := hS0; obtain ⟨l0, l1, l2, l3, l4, l5, l6, l7⟩ := R1.out _ kb; obtain ⟨a0, a1, a2, a3, a4, a5, a6, a7⟩ := R2.out _ kb; have z1 := World.block_lt_of_cell? _ _ l0; have z2 := World.block_lt_of_cell? _ _ a0;go_simp; (try with_reducible rfl)
 (try simp only [cq])
 refine tkY 7 (some 68) ?_ ?_ ?_
 rotate_left
 · intro w hS0; (try dsimp only at hS0); obtain ⟨kb, _⟩ := hS0; obtain ⟨l0, l1, l2, l3, l4, l5, l6, l7⟩ := R1.out _ kb; obtain ⟨a0, a1, a2, a3, a4, a5, a6, a7⟩ := R2.out _ kb; have z1 := World.block_lt_of_cell? _ _ l0; have z2 := World.block_lt_of_cell? _ _ a0;go_simp; (try with_reducible rfl)
 (try simp only [cq])
 refine tkY 8 (some 69) ?_ ?_ ?_
 rotate_left
 · intro w _; go_simp; (try with_reducible rfl)
 (try simp only [cq])
 refine wpAnyH_ready (rs := [9]) (by kernel_rfl) (by simp) ?_
 refine arc1 (some 70) fun K hK => ?_
 go_simp
 (refine (K1.out _ _ hH.1 hH.2).mono ?_; rintro e w' ⟨r1, rfl, hI, hbc⟩)
 refine hK.out _ _ ?_ ?_
 · (exact ⟨hH.1.trans (hbc.mono (by have := hH.1.size; omega)), hH.2.later hbc⟩)
 (try clear hH); (try clear hbc)
 intro hH
 clear hK K
 (try simp only [cq])
 refine tkY 10 (some 60) ?_ ?_ ?_
 rotate_left
 · intro w _; go_simp; (try with_reducible rfl)
 (try simp only [cq])
 refine tkY 11 (some 71) ?_ ?_ ?_
 rotate_left
 · intro w _; go_simp; (try with_reducible rfl)
 (try simp only [cq])
 refine tkY 12 (some 72) ?_ ?_ ?_
 rotate_left
 · intro w _; go_simp; (try with_reducible rfl)
 (try simp only [cq])
 refine tkY 13 (some 17) ?_ ?_ ?_
 rotate_left
 · intro w _; go_simp; (try with_reducible rfl)
 (try simp only [cq])
 refine tkY 14 (some 18) ?_ ?_ ?_
 rotate_left
 · intro w _; go_simp; (try with_reducible rfl)
 (try simp only [cq])
 refine wpAnyH_done (by kernel_rfl) ?_ _
 (try dsimp only [Act.put])
 (try simp only [cq])
 go_wp2_with fail
 go_meet
 exact ⟨_, rfl, rfl, hI, hH.2, hH.1⟩ )
        case rest =>
          clear hb10 kOwn
          obtain ⟨r1, rfl, rfl, hI1, kOwn, hb10⟩ := hcut
          clear K1
          go_upto_region 11 with fail
          go_cut [19, 20] (fun s19 s20 wx => ∃ r2 : Value, r2 = s19 ∧ s20 = .int .i64 E ∧ IceL wx r2 N F ∧ IceL wx r1 N F ∧ DaysAt wx own nk dk ∧ Below B4 V3 wx)
          case first =>
            (
 refine wp_region_held_drew (S := (fun w' => Below B4 V3 w' ∧ IceL w' r1 N F ∧ DaysAt w' own nk dk)) (by kernel_rfl) ?_ (fun hH => ?_)
 · (try dsimp only); (exact ⟨hb10.drew, hI1.later (Below.refl _ _).drew, kOwn.later (Below.refl _ _).drew⟩)
 refine tkY 0 (some 74) ?_ ?_ ?_
 rotate_left
 · intro w _; go_simp; (try with_reducible rfl)
 (try simp only [cq])
 refine tkY 1 (some 75) ?_ ?_ ?_
 rotate_left
 · intro w _; go_simp; (try with_reducible rfl)
 (try simp only [cq])
 refine tkY 2 (some 76) ?_ ?_ ?_
 rotate_left
 · intro w hS0; (try dsimp only at hS0); obtain ⟨kb, _⟩ := hS0; obtain ⟨l0, l1, l2, l3, l4, l5, l6, l7⟩ := R1.out _ kb; obtain ⟨a0, a1, a2, a3, a4, a5, a6, a7⟩ := R2.out _ kb; have r3 := R3.out _ kb; have z1 := World.block_lt_of_cell? _ _ l0; have z2 := World.block_lt_of_cell? _ _ a0; have z3 := World.block_lt_of_cell? _ _ r3;go_simp; (try with_reducible rfl)
 (try simp only [cq])
 refine tkY 3 (some 77) ?_ ?_ ?_
 rotate_left
 · intro w hS0; (try dsimp only at hS0); obtain ⟨kb, _⟩ := hS0; obtain ⟨l0, l1, l2, l3, l4, l5, l6, l7⟩ := R1.out _ kb; obtain ⟨a0, a1, a2, a3, a4, a5, a6, a7⟩ := R2.out _ kb; have r3 := R3.out _ kb; have z1 := World.block_lt_of_cell? _ _ l0; have z2 := World.block_lt_of_cell? _ _ a0; have z3 := World.block_lt_of_cell? _ _ r3;go_simp; (try with_reducible rfl)
 (try simp only [cq])
 refine tkY 4 (some 78) ?_ ?_ ?_
 rotate_left
 · intro w _; go_simp; (try with_reducible rfl)
 (try simp only [cq])
 refine tkY 5 (some 79) ?_ ?_ ?_
 rotate_left
 · intro w _; go_simp; (try with_reducible rfl)
 (try simp only [cq])
 refine tkY 6 (some 80) ?_ ?_ ?_
 rotate_left
 · intro w hS0; (try dsimp only at hS0); obtain ⟨kb, _⟩ := hS0; obtain ⟨l0, l1, l2, l3, l4, l5, l6, l7⟩ := R1.out _ kb; obtain ⟨a0, a1, a2, a3, a4, a5, a6, a7⟩ := R2.out _ kb; have r3 := R3.out _ kb; have z1 := World.block_lt_of_cell? _ _ l0; have z2 := World.block_lt_of_cell? _ _ a0; have z3 := World.block_lt_of_cell? _ _ r3;go_simp; (try with_reducible rfl)
 (try simp only [cq])
 refine tkY 7 (some 81) ?_ ?_ ?_
 rotate_left
 · intro w hS0; (try dsimp only at hS0); obtain ⟨kb, _⟩ := hS0; obtain ⟨l0, l1, l2, l3, l4, l5, l6, l7⟩ := R1.out _ kb; obtain ⟨a0, a1, a2, a3, a4, a5, a6, a7⟩ := R2.out _ kb; have r3 := R3.out _ kb; have z1 := World.block_lt_of_cell? _ _ l0; have z2 := World.block_lt_of_cell? _ _ a0; have z3 := World.block_lt_of_cell? _ _ r3;go_simp; (try with_reducible rfl)
 (try simp only [cq])
 refine tkY 8 (some 82) ?_ ?_ ?_
 rotate_left
 · intro w _; go_simp; (try with_reducible rfl)
 (try simp only [cq])
 refine tkY 9 (some 83) ?_ ?_ ?_
 rotate_left
 · intro w _; go_simp; (try with_reducible rfl)
 (try simp only [cq])
 refine tkY 10 (some 84) ?_ ?_ ?_
 rotate_left
 · intro w hS0; (try dsimp only at hS0); obtain ⟨kb, _⟩ := hS0; obtain ⟨l0, l1, l2, l3, l4, l5, l6, l7⟩ := R1.out _ kb; obtain ⟨a0, a1, a2, a3, a4, a5, a6, a7⟩ := R2.out _ kb; have r3 := R3.out _ kb; have z1 := World.block_lt_of_cell? _ _ l0; have z2 := World.block_lt_of_cell? _ _ a0; have z3 := World.block_lt_of_cell? _ _ r3;go_simp; (try with_reducible rfl)
 (try simp only [cq])
 refine tkY 11 (some 85) ?_ ?_ ?_
 rotate_left
 · intro w hS0; (try dsimp only at hS0); obtain ⟨kb, _⟩ := hS0; obtain ⟨l0, l1, l2, l3, l4, l5, l6, l7⟩ := R1.out _ kb; obtain ⟨a0, a1, a2, a3, a4, a5, a6, a7⟩ := R2.out _ kb; have r3 := R3.out _ kb; have z1 := World.block_lt_of_cell? _ _ l0; have z2 := World.block_lt_of_cell? _ _ a0; have z3 := World.block_lt_of_cell? _ _ r3;go_simp; (try with_reducible rfl)
 (try simp only [cq])
 refine wpAnyH_ready (rs := [12]) (by kernel_rfl) (by simp) ?_
 refine arc1 (some 86) fun K hK => ?_
 go_simp
 (refine (K2.out _ _ hH.1 (HDV.out _ hH.1)).mono ?_; rintro e w' ⟨r2, rfl, hI, hbc⟩)
 refine hK.out _ _ ?_ ?_
 · (exact ⟨hH.1.trans (hbc.mono (by have := hH.1.size; omega)), hH.2.1.later hbc, hH.2.2.later hbc⟩)
 (try clear hH); (try clear hbc)
 intro hH
 clear hK K
 (try simp only [cq])
 refine tkY 13 (some 73) ?_ ?_ ?_
 rotate_left
 · intro w _; go_simp; (try with_reducible rfl)
 (try simp only [cq])
 refine tkY 14 (some 87) ?_ ?_ ?_
 rotate_left
 · intro w _; go_simp; (try with_reducible rfl)
 (try simp only [cq])
 refine tkY 15 (some 88) ?_ ?_ ?_
 rotate_left
 · intro w _; go_simp; (try with_reducible rfl)
 (try simp only [cq])
 refine tkY 16 (some 19) ?_ ?_ ?_
 rotate_left
 · intro w _; go_simp; (try with_reducible rfl)
 (try simp only [cq])
 refine tkY 17 (some 20) ?_ ?_ ?_
 rotate_left
 · intro w _; go_simp; (try with_reducible rfl)
 (try simp only [cq])
 refine wpAnyH_done (by kernel_rfl) ?_ _
 (try dsimp only [Act.put])
 (try simp only [cq])
 go_wp2_with fail
 go_meet
 exact ⟨_, rfl, rfl, hI, hH.2.1, hH.2.2, hH.1⟩ )
          case rest =>
            clear hb10 kOwn hI1
            obtain ⟨r2, rfl, rfl, hI2, hI1, kOwn, hb⟩ := hcut
            clear K2 R1 R2
            go_wp2_with fail
            refine (K3.out _ _ kOwn).mono ?_
            rintro e w5 ⟨rfl, hbc⟩
            replace hI1 := hI1.later hbc
            replace hI2 := hI2.later hbc
            replace kOwn := kOwn.later hbc
            replace hb := hb.trans (hbc.mono (by have := hb.size; omega))
            clear hbc
            have jC := Blk.new w5 #[.int .i64 s0, .int .i64 s1] 24
            have oC : Below w5.heap.size w5 (w5.alloc (.cells #[.int .i64 s0, .int .i64 s1] 24)) := (Below.refl _ _).alloc (Nat.le_refl _) _
            replace hI1 := hI1.later oC
            replace hI2 := hI2.later oC
            replace kOwn := kOwn.later oC
            have r3 := R3.out _ hb
            have zb3 := World.block_lt_of_cell? _ _ r3
            replace hb := hb.trans (oC.mono (by have := hb.size; omega))
            have kV := HDV.out _ hb
            clear oC
            go_wp2_with fail
            refine (K4.out _ _ kV).mono ?_
            rintro e w6 ⟨rfl, hbc⟩
            clear r3 zb3
            obtain ⟨bC, hbC⟩ : ∃ z, w5.heap.size = z := ⟨_, rfl⟩
            rw [hbC] at jC ⊢
            clear hbC
            replace jC := jC.call hbc
            replace hI1 := hI1.later hbc
            replace hI2 := hI2.later hbc
            replace kOwn := kOwn.later hbc
            replace hb := hb.trans (hbc.mono (by have := hb.size; omega))
            clear hbc kV
            have zC := jC.lt
            replace jC := jC.alloc (.cells #[.int .i64 s0, .int .i64 s1] 24)
            have jE := Blk.new w6 #[.int .i64 s0, .int .i64 s1] 24
            have oC : Below w6.heap.size w6 (w6.alloc (.cells #[.int .i64 s0, .int .i64 s1] 24)) := (Below.refl _ _).alloc (Nat.le_refl _) _
            replace hI1 := hI1.later oC
            replace hI2 := hI2.later oC
            replace kOwn := kOwn.later oC
            replace hb := hb.trans (oC.mono (by have := hb.size; omega))
            clear oC
            go_upto_region 14 with fail
            obtain ⟨bE, hbE⟩ : ∃ z, w6.heap.size = z := ⟨_, rfl⟩
            rw [hbE] at jE zC ⊢
            clear hbE
            generalize w6.alloc (.cells #[.int .i64 s0, .int .i64 s1] 24) = w7 at jC jE hI1 hI2 kOwn hb ⊢
            go_wp2_with fail
            refine (same_yes _ _ N F _ (by omega) hI1 hI2).mono ?_
            rintro e w8 ⟨rfl, hbc⟩
            replace jC := jC.call hbc
            replace jE := jE.call hbc
            replace kOwn := kOwn.later hbc
            replace hb := hb.trans (hbc.mono (by have := hb.size; omega))
            clear hbc hI1 hI2
            obtain ⟨c0, c1⟩ := jC.c2
            obtain ⟨e0, e1⟩ := jE.c2
            have z1 := jC.lt
            have z2 := jE.lt
            have kV := HDV.out _ hb
            have r3 := R3.out _ hb
            have zb3 := World.block_lt_of_cell? _ _ r3
            go_wp2_with fail
            refine (samed_yes _ _ nk dk _ (by omega) kOwn kV).mono ?_
            rintro e w9 ⟨rfl, hbc⟩
            replace hb := hb.trans (hbc.mono (by have := hb.size; omega))
            clear hbc kOwn kV r3 zb3 c0 c1 e0 e1 z1 z2 jC jE zC
            go_wp2
            go_roundw
            case rel => exact ⟨k + 1, by omega, by go_num, hb⟩
            case measure => simp [intOf]; omega
      · have jB := bwS KB.out (by have := KB.out.size; omega) (show Below V3.heap.size V3 wr by rw [HB4.out]; exact hb)
        clear hb
        go_wp2_with fail
        refine (awake_any _).mono ?_
        rintro e w9 ⟨rfl, hb⟩
        replace jB := bwS jB (Nat.le_refl _) hb
        go_wp2
        go_ret
        exact ⟨rfl, jB⟩
end Go.Proofs.YteenanddllhdmaaGreat
