/-
  FrostNarrows says yes: what is known better stays within.
-/
import Derived.Test.YtoobgjigfmnnaaaInDay
import Derived.Test.YtoobgjigfmnnaaaBearing
import Derived.Test.YtoobgjigfmnnaaaKeep
import Derived.Test.YtoobgjigfmnnaaaAwake
import Derived.Test.YtoobgjigfmnnaaaNew
set_option linter.unusedVariables false
set_option linter.unusedSimpArgs false
namespace Go.Proofs.Ytoobgjigfmnnaaa
open Go.RowKit

set_option maxRecDepth 100000 in
set_option maxHeartbeats 16000000 in
theorem narrows_any (a : Option Addr) (n0 cap : Nat) (w : World) (hn : NumsAt w a n0) :
    Calls Try.prog 9 #[.slice a n0 cap] w fun e w' => e = .returned (.bool true) ∧ Below w.heap.size w w' := by
  go_enter Try.func9, Try.ntmps9
  go_wp2_with fail
  refine (newseed_at a n0 cap _ hn).mono ?_
  rintro e w1 ⟨rfl, hS, hB⟩
  clear hn
  obtain ⟨bs, hbs⟩ : ∃ b, w.heap.size = b := ⟨_, rfl⟩
  rw [hbs] at hS ⊢
  have hle : w.heap.size ≤ bs := by omega
  have HB := Lib.hid (And.intro hle hB)
  clear hbs hB hle
  have hb1 : bs < w1.heap.size := hS.choose_spec.lt
  go_wp2_with fail
  refine (frostof_in bs w1 hS).mono ?_
  rintro e w2 ⟨l, v, rfl, hl, hR, hA⟩
  clear hS
  obtain ⟨va, vcap, hvv, hz1, hz2, hz3⟩ := covAt_of_row hR
  clear hz1 hz2 hz3
  subst hvv
  go_wp2_with fail
  refine (iceof_in bs w2 hA.seed).mono ?_
  rintro e w3 ⟨x, rfl, hx, hd⟩
  replace hR := hd.row hR (by omega)
  replace hA := hA.trans hd
  clear hd
  have zA := hA.2.size
  have jL := (Blk.new w3 #[.int .i64 l.gr, .int .i64 l.la, .slice va l.n vcap, .int .i64 l.m0, .int .i64 l.m1, .int .i64 l.so, .int .i64 l.h0, .int .i64 l.h1] 26).alloc (.cells #[.int .i64 x.b0, .int .i64 x.b1, .int .i64 x.w0, .int .i64 x.w1, .int .i64 x.q0, .int .i64 x.q1, .int .i64 x.s0, .int .i64 x.s1] 28)
  have jX := Blk.new1 w3 (.cells #[.int .i64 l.gr, .int .i64 l.la, .slice va l.n vcap, .int .i64 l.m0, .int .i64 l.m1, .int .i64 l.so, .int .i64 l.h0, .int .i64 l.h1] 26) #[.int .i64 x.b0, .int .i64 x.b1, .int .i64 x.w0, .int .i64 x.w1, .int .i64 x.q0, .int .i64 x.q1, .int .i64 x.s0, .int .i64 x.s1] 28
  replace hR := (hR.alloc (.cells #[.int .i64 l.gr, .int .i64 l.la, .slice va l.n vcap, .int .i64 l.m0, .int .i64 l.m1, .int .i64 l.so, .int .i64 l.h0, .int .i64 l.h1] 26)).alloc (.cells #[.int .i64 x.b0, .int .i64 x.b1, .int .i64 x.w0, .int .i64 x.w1, .int .i64 x.q0, .int .i64 x.q1, .int .i64 x.s0, .int .i64 x.s1] 28)
  replace hA := (hA.new (.cells #[.int .i64 l.gr, .int .i64 l.la, .slice va l.n vcap, .int .i64 l.m0, .int .i64 l.m1, .int .i64 l.so, .int .i64 l.h0, .int .i64 l.h1] 26)).new (.cells #[.int .i64 x.b0, .int .i64 x.b1, .int .i64 x.w0, .int .i64 x.w1, .int .i64 x.q0, .int .i64 x.q1, .int .i64 x.s0, .int .i64 x.s1] 28)
  go_wp2_with fail
  refine (yes_in 2 bs _ hA.seed (by decide)).mono ?_
  rintro e w4 ⟨fr, rfl, hd⟩
  obtain ⟨bL, hbL⟩ : ∃ b, w3.heap.size = b := ⟨_, rfl⟩
  rw [hbL] at zA jL jX
  (try rw [hbL])
  clear hbL
  replace jL := hd.blk jL (by omega)
  replace jX := hd.blk jX (by omega)
  replace hR := hd.row hR (by omega)
  replace hA := hA.trans hd
  clear hd
  go_wp2_with fail
  refine (daysof_in 10 (by decide) (by decide) fr bs _ hA.seed).mono ?_
  rintro e w5 ⟨vd, n, d, rfl, hn10, hdk, hD, hd⟩
  replace jL := hd.blk jL (by omega)
  replace jX := hd.blk jX (by omega)
  replace hR := hd.row hR (by omega)
  replace hA := hA.trans hd
  clear hd
  have hok : ∀ i, i < n → (d i).Ok := fun i hi => (hdk i hi).ok
  clear hdk
  obtain ⟨x0, x1, x2, x3, x4, x5, x6, x7⟩ := jX.c8
  have zX := jX.lt
  go_wp2_with fail
  refine (innerice_in x bs _ hA.seed hx).mono ?_
  rintro e w6 ⟨y, rfl, hyx, hy, hd⟩
  clear x0 x1 x2 x3 x4 x5 x6 x7 zX
  replace jL := hd.blk jL (by omega)
  replace jX := hd.blk jX (by omega)
  replace hR := hd.row hR (by omega)
  replace hD := hd.row hD (by omega)
  replace hA := hA.trans hd
  clear hd
  go_wp2_with fail
  refine (innerdays_in n (by omega) vd d bs _ hA.seed hD hok).mono ?_
  rintro e w7 ⟨vd2, d2, rfl, hd2, hD2, hd⟩
  replace jL := hd.blk jL (by omega)
  replace jX := hd.blk jX (by omega)
  replace hR := hd.row hR (by omega)
  replace hD := hd.row hD (by omega)
  replace hA := hA.trans hd
  clear hd
  have kC := covAt_of_row hR
  have kD := daysAt_of_row hD
  have kD2 := daysAt_of_row hD2
  clear hR hD hD2
  obtain ⟨da, dcap, hvd, ncap, hz2, hz3⟩ := id kD
  clear hz2 hz3
  subst hvd
  obtain ⟨da2, dcap2, hvd, ncap2, hz2, hz3⟩ := id kD2
  clear hz2 hz3
  subst hvd
  have hok2 : ∀ i, i < n → (d2 i).Ok := fun i hi => (hd2 i hi).1
  have hsub : ∀ i, i < n → (d2 i).Sub (d i) := fun i hi => (hd2 i hi).2
  clear hd2
  have HOk := Lib.hid (And.intro hok (And.intro hok2 hsub))
  clear hok hok2 hsub
  obtain ⟨l0, l1, l2, l3, l4, l5, l6, l7⟩ := jL.c8
  obtain ⟨x0, x1, x2, x3, x4, x5, x6, x7⟩ := jX.c8
  have zL := jL.lt
  have zX := jX.lt
  go_wp2_with fail
  clear l0 l1 l2 l3 l4 l5 l6 l7 x0 x1 x2 x3 x4 x5 x6 x7 zL zX
  have jY := Blk.new w7 #[.int .i64 y.b0, .int .i64 y.b1, .int .i64 y.w0, .int .i64 y.w1, .int .i64 y.q0, .int .i64 y.q1, .int .i64 y.s0, .int .i64 y.s1] 28
  have hbY : Below w7.heap.size w7 (w7.alloc (.cells #[.int .i64 y.b0, .int .i64 y.b1, .int .i64 y.w0, .int .i64 y.w1, .int .i64 y.q0, .int .i64 y.q1, .int .i64 y.s0, .int .i64 y.s1] 28)) := below_alloc (Below.refl _ _) (Nat.le_refl _) _
  replace jL := jL.alloc (.cells #[.int .i64 y.b0, .int .i64 y.b1, .int .i64 y.w0, .int .i64 y.w1, .int .i64 y.q0, .int .i64 y.q1, .int .i64 y.s0, .int .i64 y.s1] 28)
  replace jX := jX.alloc (.cells #[.int .i64 y.b0, .int .i64 y.b1, .int .i64 y.w0, .int .i64 y.w1, .int .i64 y.q0, .int .i64 y.q1, .int .i64 y.s0, .int .i64 y.s1] 28)
  replace kC := kC.later hbY
  replace kD := kD.later hbY
  replace kD2 := kD2.later hbY
  have zY7 := hA.2.size
  replace hA := hA.new (.cells #[.int .i64 y.b0, .int .i64 y.b1, .int .i64 y.w0, .int .i64 y.w1, .int .i64 y.q0, .int .i64 y.q1, .int .i64 y.s0, .int .i64 y.s1] 28)
  clear hbY
  obtain ⟨bY, hbY⟩ : ∃ b, w7.heap.size = b := ⟨_, rfl⟩
  rw [hbY] at jY zY7
  (try rw [hbY])
  clear hbY
  refine (run_kit l _ x _ n d _ hl kC hx.val kD (by omega) HOk.out.1 (Nat.lt_of_le_of_lt (Nat.zero_le _) jL.lt)).mono ?_
  rintro e w8 ⟨ra, rfl, hra, hb⟩
  replace jL := jL.call hb
  replace jX := jX.call hb
  replace jY := jY.call hb
  replace kC := kC.later hb
  replace kD := kD.later hb
  replace kD2 := kD2.later hb
  replace hA := hA.after hb
  have kRa := iceL_of_row hra
  clear hb hra
  obtain ⟨aa, acap, hra', acn, hz2, hz3⟩ := id kRa
  clear hz2 hz3
  subst hra'
  obtain ⟨l0, l1, l2, l3, l4, l5, l6, l7⟩ := jL.c8
  obtain ⟨x0, x1, x2, x3, x4, x5, x6, x7⟩ := jY.c8
  have zL := jL.lt
  have zX := jY.lt
  go_wp2_with fail
  clear l0 l1 l2 l3 l4 l5 l6 l7 x0 x1 x2 x3 x4 x5 x6 x7 zL zX
  refine (run_kit l _ y _ n d2 _ hl kC hy.val kD2 (by omega) HOk.out.2.1 (Nat.lt_of_le_of_lt (Nat.zero_le _) jL.lt)).mono ?_
  rintro e w9 ⟨rb, rfl, hrb, hb⟩
  replace jL := jL.call hb
  replace jX := jX.call hb
  replace jY := jY.call hb
  replace kC := kC.later hb
  replace kD := kD.later hb
  replace kD2 := kD2.later hb
  replace hA := hA.after hb
  replace kRa := kRa.later hb
  have kRb := iceL_of_row hrb
  clear hb hrb
  obtain ⟨ab, bcap, hrb', bcn, hz2, hz3⟩ := id kRb
  clear hz2 hz3
  subst hrb'
  have xb := hx.b
  go_upto_region 7 with fail
  refine wp_region_held_drew (S := (fun w' => Drawn bs w9 w')) (by kernel_rfl) ?_ (fun hHeld => ?_)
  · (try dsimp only); (exact Drawn.drew hA.seed)
  refine wpAnyH_take (i := 0) (oi := { dst := some 57, op := _, type := _, pos := _, after := _, guard := _ }) (v := ?_) rfl (by kernel_rfl) (by kernel_rfl) (by kernel_rfl) (fun _ _ _ h => h) (Or.inl ⟨by rfl, ?_⟩) (by assumption) ?_
  rotate_left
  · intro w hSw; (try dsimp only at hSw); have kx := hSw.blk jX (by omega); obtain ⟨x0, x1, x2, x3, x4, x5, x6, x7⟩ := kx.c8; have zX := kx.lt;go_simp; (try with_reducible rfl)
  (try simp only [Act.put, List.setIfInBounds_toArray, List.set_cons_zero, List.set_cons_succ])
  refine wpAnyH_take (i := 1) (oi := { dst := some 58, op := _, type := _, pos := _, after := _, guard := _ }) (v := ?_) rfl (by kernel_rfl) (by kernel_rfl) (by kernel_rfl) (fun _ _ _ h => h) (Or.inl ⟨by rfl, ?_⟩) (by assumption) ?_
  rotate_left
  · intro w hSw; (try dsimp only at hSw); have kx := hSw.blk jX (by omega); obtain ⟨x0, x1, x2, x3, x4, x5, x6, x7⟩ := kx.c8; have zX := kx.lt;go_simp; (try with_reducible rfl)
  (try simp only [Act.put, List.setIfInBounds_toArray, List.set_cons_zero, List.set_cons_succ])
  refine wpAnyH_take (i := 2) (oi := { dst := some 59, op := _, type := _, pos := _, after := _, guard := _ }) (v := ?_) rfl (by kernel_rfl) (by kernel_rfl) (by kernel_rfl) (fun _ _ _ h => h) (Or.inl ⟨by rfl, ?_⟩) (by assumption) ?_
  rotate_left
  · intro w hSw; (try dsimp only at hSw); have kx := hSw.blk jX (by omega); obtain ⟨x0, x1, x2, x3, x4, x5, x6, x7⟩ := kx.c8; have zX := kx.lt;go_simp; (try with_reducible rfl)
  (try simp only [Act.put, List.setIfInBounds_toArray, List.set_cons_zero, List.set_cons_succ])
  refine wpAnyH_take (i := 3) (oi := { dst := some 60, op := _, type := _, pos := _, after := _, guard := _ }) (v := ?_) rfl (by kernel_rfl) (by kernel_rfl) (by kernel_rfl) (fun _ _ _ h => h) (Or.inl ⟨by rfl, ?_⟩) (by assumption) ?_
  rotate_left
  · intro w hSw; (try dsimp only at hSw); have kx := hSw.blk jX (by omega); obtain ⟨x0, x1, x2, x3, x4, x5, x6, x7⟩ := kx.c8; have zX := kx.lt;go_simp; (try with_reducible rfl)
  (try simp only [Act.put, List.setIfInBounds_toArray, List.set_cons_zero, List.set_cons_succ])
  refine wpAnyH_ready (rs := [4]) (by kernel_rfl) (by simp) ?_
  refine AllReadyH.cons (o := { dst := some 61, op := _, type := _, pos := _, after := _, guard := _ }) rfl (fun K hK => ?_) AllReadyH.nil
  go_simp
  (refine (from_in (-5) 200 bs _ hHeld.seed (by decide) (by decide) (by decide) (by decide)).mono ?_; rintro e w' ⟨r, rfl, r0, r1, hd⟩)
  refine hK.out _ _ ?_ ?_
  · (exact hHeld.trans hd)
  (try clear hHeld); (try clear hd)
  intro hHeld
  have e1 : IntKind.i64.wrap (x.b0 + r) = x.b0 + r := IntWalk.i64_in _ (by omega)
  clear hK K
  (try simp only [Act.put, List.setIfInBounds_toArray, List.set_cons_zero, List.set_cons_succ])
  refine wpAnyH_take (i := 5) (oi := { dst := some 62, op := _, type := _, pos := _, after := _, guard := _ }) (v := ?_) rfl (by kernel_rfl) (by kernel_rfl) (by kernel_rfl) (fun _ _ _ h => h) (Or.inl ⟨by rfl, ?_⟩) (by assumption) ?_
  rotate_left
  · intro w hSw; (try dsimp only at hSw); have kx := hSw.blk jX (by omega); obtain ⟨x0, x1, x2, x3, x4, x5, x6, x7⟩ := kx.c8; have zX := kx.lt;go_simp; (try with_reducible rfl)
  (try simp only [Act.put, List.setIfInBounds_toArray, List.set_cons_zero, List.set_cons_succ])
  refine wpAnyH_take (i := 6) (oi := { dst := some 13, op := _, type := _, pos := _, after := _, guard := _ }) (v := ?_) rfl (by kernel_rfl) (by kernel_rfl) (by kernel_rfl) (fun _ _ _ h => h) (Or.inl ⟨by rfl, ?_⟩) (by assumption) ?_
  rotate_left
  · intro w hSw; (try dsimp only at hSw); have kx := hSw.blk jX (by omega); obtain ⟨x0, x1, x2, x3, x4, x5, x6, x7⟩ := kx.c8; have zX := kx.lt;go_simp; (try with_reducible rfl)
  (try simp only [Act.put, List.setIfInBounds_toArray, List.set_cons_zero, List.set_cons_succ])
  refine wpAnyH_done (by kernel_rfl) ?_ _
  (try dsimp only [Act.put])
  (try simp only [Act.put, List.setIfInBounds_toArray, List.set_cons_zero, List.set_cons_succ])
  replace jL := hHeld.blk jL (by omega)
  replace jX := hHeld.blk jX (by omega)
  replace jY := hHeld.blk jY (by omega)
  replace kC := kC.drawn hA.seed hHeld
  replace kD := kD.drawn hA.seed hHeld
  replace kD2 := kD2.drawn hA.seed hHeld
  replace kRa := kRa.drawn hA.seed hHeld
  replace kRb := kRb.drawn hA.seed hHeld
  replace hA := hA.trans hHeld
  clear hHeld e1
  go_upto_if 64 with fail
  go_cut [13] (fun s13 wx => ∃ need : Int, s13 = .int .i64 need ∧ 0 ≤ need ∧ need ≤ 5000 ∧ wx = w')
  case first =>
    by_cases hneg : x.b0 + r < 0
    · go_wp2_with fail
      go_meet
      exact ⟨0, rfl, by decide, by decide, rfl⟩
    · go_wp2_with fail
      go_meet
      exact ⟨x.b0 + r, rfl, by omega, by omega, rfl⟩
  case rest =>
    obtain ⟨need, rfl, nd0, nd1, rfl⟩ := hcut
    clear r0 r1 xb
    have hNx : ∀ i, i < n → (iceAt l d x (i + 1)).Nn := fun i hi => iceAt_nn hl hx.val.nn n HOk.out.1 (i + 1) (by omega)
    have hNy : ∀ i, i < n → (iceAt l d2 y (i + 1)).Nn := fun i hi => iceAt_nn hl hy.val.nn n HOk.out.2.1 (i + 1) (by omega)
    have hSub : ∀ i, i < n → (iceAt l d2 y (i + 1)).Sub (iceAt l d x (i + 1)) := fun i hi => iceAt_sub hl hx.val.nn hy.val.nn hyx n HOk.out.1 HOk.out.2.1 HOk.out.2.2 (i + 1) (by omega)
    have k0 := hl.ok.h0
    have k1 : 0 ≤ l.h1 := Int.le_trans hl.ok.h0 hl.ok.h1
    have HI1 := Lib.hid (firstI_imp (fun i => rdyS need l.h0 (iceAt l d x (i + 1))) (fun i => rdyS need l.h0 (iceAt l d2 y (i + 1))) n 0 (fun i _ hi h => rdyS_sub k0 (hNx i (by omega)) (hNy i (by omega)) (hSub i (by omega)) h))
    have HI2 := Lib.hid (firstI_imp (fun i => rdyP need l.h1 (iceAt l d2 y (i + 1))) (fun i => rdyP need l.h1 (iceAt l d x (i + 1))) n 0 (fun i _ hi h => rdyP_sub k1 (hNx i (by omega)) (hNy i (by omega)) (hSub i (by omega)) h))
    have HS := Lib.hid hSub
    clear hNx hNy hSub
    have q1 := fun W g1 g2 g3 => ready_kit l (.slice va l.n vcap) x (.slice da n dcap) n d need W hl g1 hx.val g2 (by omega) HOk.out.1 g3 nd0 nd1
    have q2 := fun W g1 g2 g3 => ready_kit l (.slice va l.n vcap) y (.slice da2 n dcap2) n d2 need W hl g1 hy.val g2 (by omega) HOk.out.2.1 g3 nd0 nd1
    generalize firstI (fun i => rdyS need l.h0 (iceAt l d x (i + 1))) 0 n = p at HI1 q1
    generalize firstI (fun i => rdyP need l.h1 (iceAt l d x (i + 1))) 0 n = q at HI2 q1
    generalize firstI (fun i => rdyS need l.h0 (iceAt l d2 y (i + 1))) 0 n = r at HI1 q2
    generalize firstI (fun i => rdyP need l.h1 (iceAt l d2 y (i + 1))) 0 n = t at HI2 q2
    have Q1 := Lib.hid q1
    have Q2 := Lib.hid q2
    clear q1 q2
    obtain ⟨l0, l1, l2, l3, l4, l5, l6, l7⟩ := jL.c8
    obtain ⟨x0, x1, x2, x3, x4, x5, x6, x7⟩ := jX.c8
    have zL := jL.lt
    have zX := jX.lt
    go_wp2_with fail
    clear l0 l1 l2 l3 l4 l5 l6 l7 x0 x1 x2 x3 x4 x5 x6 x7 zL zX
    refine (Q1.out _ kC kD (Nat.lt_of_le_of_lt (Nat.zero_le _) jL.lt)).mono ?_
    rintro e w11 ⟨rfl, hb⟩
    replace jL := jL.call hb
    replace jX := jX.call hb
    replace jY := jY.call hb
    replace kC := kC.later hb
    replace kD := kD.later hb
    replace kD2 := kD2.later hb
    replace kRa := kRa.later hb
    replace kRb := kRb.later hb
    replace hA := hA.after hb
    clear hb
    obtain ⟨l0, l1, l2, l3, l4, l5, l6, l7⟩ := jL.c8
    obtain ⟨x0, x1, x2, x3, x4, x5, x6, x7⟩ := jY.c8
    have zL := jL.lt
    have zX := jY.lt
    go_wp2_with fail
    clear l0 l1 l2 l3 l4 l5 l6 l7 x0 x1 x2 x3 x4 x5 x6 x7 zL zX
    refine (Q2.out _ kC kD2 (Nat.lt_of_le_of_lt (Nat.zero_le _) jL.lt)).mono ?_
    rintro e w12 ⟨rfl, hb⟩
    replace jL := jL.call hb
    replace jX := jX.call hb
    replace jY := jY.call hb
    replace kC := kC.later hb
    replace kD := kD.later hb
    replace kD2 := kD2.later hb
    replace kRa := kRa.later hb
    replace kRb := kRb.later hb
    replace hA := hA.after hb
    clear hb
    clear Q1 Q2
    have hbl : bearL x.b0 x.w0 l.h0 ≤ bearL y.b0 y.w0 l.h0 := by
      have g := gotL_mono hx.w.1 hyx.w0 k0 (Int.le_refl l.h0)
      have b := hyx.b0
      unfold bearL
      omega
    have hbh : bearH y.b1 y.w1 l.h1 ≤ bearH x.b1 x.w1 l.h1 := by
      have g := gotH_mono (Int.le_trans hy.w.1 hy.w.2.1) hyx.w1 k1 (Int.le_refl l.h1)
      have b := hyx.b1
      unfold bearH
      omega
    have q1 := fun W g1 => bearing_kit l (.slice va l.n vcap) x W hl g1 hx.val
    have q2 := fun W g1 => bearing_kit l (.slice va l.n vcap) y W hl g1 hy.val
    generalize bearL x.b0 x.w0 l.h0 = u0 at hbl q1
    generalize bearL y.b0 y.w0 l.h0 = v0 at hbl q2
    generalize bearH x.b1 x.w1 l.h1 = u1 at hbh q1
    generalize bearH y.b1 y.w1 l.h1 = v1 at hbh q2
    generalize soundI x.q0 x.q1 = so1 at q1
    generalize soundI y.q0 y.q1 = so2 at q2
    have Q1 := Lib.hid q1
    have Q2 := Lib.hid q2
    have HB1 := Lib.hid (And.intro hbl hbh)
    clear q1 q2 hbl hbh k0 k1
    obtain ⟨l0, l1, l2, l3, l4, l5, l6, l7⟩ := jL.c8
    obtain ⟨x0, x1, x2, x3, x4, x5, x6, x7⟩ := jX.c8
    have zL := jL.lt
    have zX := jX.lt
    go_wp2_with fail
    clear l0 l1 l2 l3 l4 l5 l6 l7 x0 x1 x2 x3 x4 x5 x6 x7 zL zX
    refine (Q1.out _ kC).mono ?_
    rintro e w13 ⟨rfl, hb⟩
    replace jL := jL.call hb
    replace jX := jX.call hb
    replace jY := jY.call hb
    replace kC := kC.later hb
    replace kD := kD.later hb
    replace kD2 := kD2.later hb
    replace kRa := kRa.later hb
    replace kRb := kRb.later hb
    replace hA := hA.after hb
    clear hb
    have jU := Blk.new w13 #[.int .i64 u0, .int .i64 u1] 24
    obtain ⟨bU, hbU⟩ : ∃ b, w13.heap.size = b := ⟨_, rfl⟩
    replace jL := jL.alloc (.cells #[.int .i64 u0, .int .i64 u1] 24)
    replace jX := jX.alloc (.cells #[.int .i64 u0, .int .i64 u1] 24)
    replace jY := jY.alloc (.cells #[.int .i64 u0, .int .i64 u1] 24)
    have hbY : Below w13.heap.size w13 (w13.alloc (.cells #[.int .i64 u0, .int .i64 u1] 24)) := below_alloc (Below.refl _ _) (Nat.le_refl _) _
    replace kC := kC.later hbY
    replace kRa := kRa.later hbY
    replace kRb := kRb.later hbY
    replace hA := hA.new (.cells #[.int .i64 u0, .int .i64 u1] 24)
    clear kD kD2 hbY
    go_upto_region 13 with fail
    rw [hbU] at jU
    (try rw [hbU])
    clear hbU
    generalize w13.alloc (.cells #[.int .i64 u0, .int .i64 u1] 24) = w14 at jL jX jY jU kC kRa kRb hA ⊢
    obtain ⟨l0, l1, l2, l3, l4, l5, l6, l7⟩ := jL.c8
    obtain ⟨x0, x1, x2, x3, x4, x5, x6, x7⟩ := jY.c8
    have zL := jL.lt
    have zX := jY.lt
    go_wp2_with fail
    clear l0 l1 l2 l3 l4 l5 l6 l7 x0 x1 x2 x3 x4 x5 x6 x7 zL zX
    refine (Q2.out _ kC).mono ?_
    rintro e w15 ⟨rfl, hb⟩
    replace jU := jU.call hb
    replace kRa := kRa.later hb
    replace kRb := kRb.later hb
    replace hA := hA.after hb
    clear hb jL jX jY kC Q1 Q2
    have jV := Blk.new w15 #[.int .i64 v0, .int .i64 v1] 24
    obtain ⟨bV, hbV⟩ : ∃ b, w15.heap.size = b := ⟨_, rfl⟩
    replace jU := jU.alloc (.cells #[.int .i64 v0, .int .i64 v1] 24)
    have hbY : Below w15.heap.size w15 (w15.alloc (.cells #[.int .i64 v0, .int .i64 v1] 24)) := below_alloc (Below.refl _ _) (Nat.le_refl _) _
    replace kRa := kRa.later hbY
    replace kRb := kRb.later hbY
    replace hA := hA.new (.cells #[.int .i64 v0, .int .i64 v1] 24)
    clear hbY
    go_upto_region 14 with fail
    rw [hbV] at jV
    (try rw [hbV])
    clear hbV
    generalize w15.alloc (.cells #[.int .i64 v0, .int .i64 v1] 24) = w16 at jU jV kRa kRb hA ⊢
    obtain ⟨u00, u01⟩ := jU.c2
    obtain ⟨v00, v01⟩ := jV.c2
    have zU := jU.lt
    have zV := jV.lt
    go_wp2_with fail
    refine (kin_yes _ _ _ _ _ HB1.out.1 HB1.out.2).mono ?_
    rintro e w17 ⟨rfl, hb⟩
    replace kRa := kRa.later hb
    replace kRb := kRb.later hb
    replace hA := hA.after hb
    clear hb jU jV u00 u01 v00 v01 zU zV
    have HA := Lib.hid hA
    clear hA
    obtain ⟨_, _, hva, _, _, ka⟩ := kRa
    simp only [Value.slice.injEq] at hva
    obtain ⟨rfl, _, rfl⟩ := hva
    obtain ⟨_, _, hvb, _, _, kb⟩ := kRb
    simp only [Value.slice.injEq] at hvb
    obtain ⟨rfl, _, rfl⟩ := hvb
    have KA := Lib.hid ka
    have KB := Lib.hid kb
    clear ka kb
    go_wp2_with fail
    go_loopw [26] (fun i wr => ∃ k : Nat, k ≤ n ∧ i = .int .i64 k ∧ Below w17.heap.size w17 wr) (fun i _ => n - (intOf i).toNat)
    case atStart => exact ⟨0, Nat.zero_le _, rfl, Below.refl _ _⟩
    case round =>
      obtain ⟨k, hk, rfl, hB⟩ := hrel
      by_cases hlt : k < n
      · obtain ⟨b1, o1, rfl, qa⟩ := KA.out (by omega)
        obtain ⟨b2, o2, rfl, qb⟩ := KB.out (by omega)
        replace qa := (qa.call hB) k hlt
        replace qb := (qb.call hB) k hlt
        have HSk := HS.out k hlt
        dsimp only at qa qb
        generalize iceAt l d x (k + 1) = zx at qa HSk
        generalize iceAt l d2 y (k + 1) = zy at qb HSk
        have zq1 := World.block_lt_of_cell? _ _ qa.1
        have zq2 := World.block_lt_of_cell? _ _ qb.1
        go_upto_region 19 with fail
        refine wp_region_held_drew (S := (fun w' => Below wr.heap.size wr w')) (by kernel_rfl) ?_ (fun hHeld => ?_)
        · (try dsimp only); (exact (Below.refl _ _).drew)
        refine wpAnyH_take (i := 0) (oi := { dst := some 138, op := _, type := _, pos := _, after := _, guard := _ }) (v := ?_) rfl (by kernel_rfl) (by kernel_rfl) (by kernel_rfl) (fun _ _ _ h => h) (Or.inl ⟨by rfl, ?_⟩) (by assumption) ?_
        rotate_left
        · intro w hSw; (try dsimp only at hSw); have p0 := cell_later hSw qa.1; have p1 := cell_later hSw qa.2.1; have p2 := cell_later hSw qa.2.2.1; have p3 := cell_later hSw qa.2.2.2.1; have p4 := cell_later hSw qa.2.2.2.2.1; have p5 := cell_later hSw qa.2.2.2.2.2.1; have p6 := cell_later hSw qa.2.2.2.2.2.2.1; have p7 := cell_later hSw qa.2.2.2.2.2.2.2; have r0 := cell_later hSw qb.1; have r1 := cell_later hSw qb.2.1; have r2 := cell_later hSw qb.2.2.1; have r3 := cell_later hSw qb.2.2.2.1; have r4 := cell_later hSw qb.2.2.2.2.1; have r5 := cell_later hSw qb.2.2.2.2.2.1; have r6 := cell_later hSw qb.2.2.2.2.2.2.1; have r7 := cell_later hSw qb.2.2.2.2.2.2.2;go_simp; (try with_reducible rfl)
        (try simp only [Act.put, List.setIfInBounds_toArray, List.set_cons_zero, List.set_cons_succ])
        refine wpAnyH_take (i := 1) (oi := { dst := some 139, op := _, type := _, pos := _, after := _, guard := _ }) (v := ?_) rfl (by kernel_rfl) (by kernel_rfl) (by kernel_rfl) (fun _ _ _ h => h) (Or.inl ⟨by rfl, ?_⟩) (by assumption) ?_
        rotate_left
        · intro w hSw; (try dsimp only at hSw); have p0 := cell_later hSw qa.1; have p1 := cell_later hSw qa.2.1; have p2 := cell_later hSw qa.2.2.1; have p3 := cell_later hSw qa.2.2.2.1; have p4 := cell_later hSw qa.2.2.2.2.1; have p5 := cell_later hSw qa.2.2.2.2.2.1; have p6 := cell_later hSw qa.2.2.2.2.2.2.1; have p7 := cell_later hSw qa.2.2.2.2.2.2.2; have r0 := cell_later hSw qb.1; have r1 := cell_later hSw qb.2.1; have r2 := cell_later hSw qb.2.2.1; have r3 := cell_later hSw qb.2.2.2.1; have r4 := cell_later hSw qb.2.2.2.2.1; have r5 := cell_later hSw qb.2.2.2.2.2.1; have r6 := cell_later hSw qb.2.2.2.2.2.2.1; have r7 := cell_later hSw qb.2.2.2.2.2.2.2;go_simp; (try with_reducible rfl)
        (try simp only [Act.put, List.setIfInBounds_toArray, List.set_cons_zero, List.set_cons_succ])
        refine wpAnyH_take (i := 2) (oi := { dst := some 140, op := _, type := _, pos := _, after := _, guard := _ }) (v := ?_) rfl (by kernel_rfl) (by kernel_rfl) (by kernel_rfl) (fun _ _ _ h => h) (Or.inl ⟨by rfl, ?_⟩) (by assumption) ?_
        rotate_left
        · intro w hSw; (try dsimp only at hSw); have p0 := cell_later hSw qa.1; have p1 := cell_later hSw qa.2.1; have p2 := cell_later hSw qa.2.2.1; have p3 := cell_later hSw qa.2.2.2.1; have p4 := cell_later hSw qa.2.2.2.2.1; have p5 := cell_later hSw qa.2.2.2.2.2.1; have p6 := cell_later hSw qa.2.2.2.2.2.2.1; have p7 := cell_later hSw qa.2.2.2.2.2.2.2; have r0 := cell_later hSw qb.1; have r1 := cell_later hSw qb.2.1; have r2 := cell_later hSw qb.2.2.1; have r3 := cell_later hSw qb.2.2.2.1; have r4 := cell_later hSw qb.2.2.2.2.1; have r5 := cell_later hSw qb.2.2.2.2.2.1; have r6 := cell_later hSw qb.2.2.2.2.2.2.1; have r7 := cell_later hSw qb.2.2.2.2.2.2.2;go_simp; (try with_reducible rfl)
        (try simp only [Act.put, List.setIfInBounds_toArray, List.set_cons_zero, List.set_cons_succ])
        refine wpAnyH_take (i := 3) (oi := { dst := some 141, op := _, type := _, pos := _, after := _, guard := _ }) (v := ?_) rfl (by kernel_rfl) (by kernel_rfl) (by kernel_rfl) (fun _ _ _ h => h) (Or.inl ⟨by rfl, ?_⟩) (by assumption) ?_
        rotate_left
        · intro w hSw; (try dsimp only at hSw); have p0 := cell_later hSw qa.1; have p1 := cell_later hSw qa.2.1; have p2 := cell_later hSw qa.2.2.1; have p3 := cell_later hSw qa.2.2.2.1; have p4 := cell_later hSw qa.2.2.2.2.1; have p5 := cell_later hSw qa.2.2.2.2.2.1; have p6 := cell_later hSw qa.2.2.2.2.2.2.1; have p7 := cell_later hSw qa.2.2.2.2.2.2.2; have r0 := cell_later hSw qb.1; have r1 := cell_later hSw qb.2.1; have r2 := cell_later hSw qb.2.2.1; have r3 := cell_later hSw qb.2.2.2.1; have r4 := cell_later hSw qb.2.2.2.2.1; have r5 := cell_later hSw qb.2.2.2.2.2.1; have r6 := cell_later hSw qb.2.2.2.2.2.2.1; have r7 := cell_later hSw qb.2.2.2.2.2.2.2;go_simp; (try with_reducible rfl)
        (try simp only [Act.put, List.setIfInBounds_toArray, List.set_cons_zero, List.set_cons_succ])
        refine wpAnyH_take (i := 4) (oi := { dst := some 142, op := _, type := _, pos := _, after := _, guard := _ }) (v := ?_) rfl (by kernel_rfl) (by kernel_rfl) (by kernel_rfl) (fun _ _ _ h => h) (Or.inl ⟨by rfl, ?_⟩) (by assumption) ?_
        rotate_left
        · intro w hSw; (try dsimp only at hSw); have p0 := cell_later hSw qa.1; have p1 := cell_later hSw qa.2.1; have p2 := cell_later hSw qa.2.2.1; have p3 := cell_later hSw qa.2.2.2.1; have p4 := cell_later hSw qa.2.2.2.2.1; have p5 := cell_later hSw qa.2.2.2.2.2.1; have p6 := cell_later hSw qa.2.2.2.2.2.2.1; have p7 := cell_later hSw qa.2.2.2.2.2.2.2; have r0 := cell_later hSw qb.1; have r1 := cell_later hSw qb.2.1; have r2 := cell_later hSw qb.2.2.1; have r3 := cell_later hSw qb.2.2.2.1; have r4 := cell_later hSw qb.2.2.2.2.1; have r5 := cell_later hSw qb.2.2.2.2.2.1; have r6 := cell_later hSw qb.2.2.2.2.2.2.1; have r7 := cell_later hSw qb.2.2.2.2.2.2.2;go_simp; (try with_reducible rfl)
        (try simp only [Act.put, List.setIfInBounds_toArray, List.set_cons_zero, List.set_cons_succ])
        refine wpAnyH_take (i := 5) (oi := { dst := some 143, op := _, type := _, pos := _, after := _, guard := _ }) (v := ?_) rfl (by kernel_rfl) (by kernel_rfl) (by kernel_rfl) (fun _ _ _ h => h) (Or.inl ⟨by rfl, ?_⟩) (by assumption) ?_
        rotate_left
        · intro w hSw; (try dsimp only at hSw); have p0 := cell_later hSw qa.1; have p1 := cell_later hSw qa.2.1; have p2 := cell_later hSw qa.2.2.1; have p3 := cell_later hSw qa.2.2.2.1; have p4 := cell_later hSw qa.2.2.2.2.1; have p5 := cell_later hSw qa.2.2.2.2.2.1; have p6 := cell_later hSw qa.2.2.2.2.2.2.1; have p7 := cell_later hSw qa.2.2.2.2.2.2.2; have r0 := cell_later hSw qb.1; have r1 := cell_later hSw qb.2.1; have r2 := cell_later hSw qb.2.2.1; have r3 := cell_later hSw qb.2.2.2.1; have r4 := cell_later hSw qb.2.2.2.2.1; have r5 := cell_later hSw qb.2.2.2.2.2.1; have r6 := cell_later hSw qb.2.2.2.2.2.2.1; have r7 := cell_later hSw qb.2.2.2.2.2.2.2;go_simp; (try with_reducible rfl)
        (try simp only [Act.put, List.setIfInBounds_toArray, List.set_cons_zero, List.set_cons_succ])
        refine wpAnyH_take (i := 6) (oi := { dst := some 144, op := _, type := _, pos := _, after := _, guard := _ }) (v := ?_) rfl (by kernel_rfl) (by kernel_rfl) (by kernel_rfl) (fun _ _ _ h => h) (Or.inl ⟨by rfl, ?_⟩) (by assumption) ?_
        rotate_left
        · intro w hSw; (try dsimp only at hSw); have p0 := cell_later hSw qa.1; have p1 := cell_later hSw qa.2.1; have p2 := cell_later hSw qa.2.2.1; have p3 := cell_later hSw qa.2.2.2.1; have p4 := cell_later hSw qa.2.2.2.2.1; have p5 := cell_later hSw qa.2.2.2.2.2.1; have p6 := cell_later hSw qa.2.2.2.2.2.2.1; have p7 := cell_later hSw qa.2.2.2.2.2.2.2; have r0 := cell_later hSw qb.1; have r1 := cell_later hSw qb.2.1; have r2 := cell_later hSw qb.2.2.1; have r3 := cell_later hSw qb.2.2.2.1; have r4 := cell_later hSw qb.2.2.2.2.1; have r5 := cell_later hSw qb.2.2.2.2.2.1; have r6 := cell_later hSw qb.2.2.2.2.2.2.1; have r7 := cell_later hSw qb.2.2.2.2.2.2.2;go_simp; (try with_reducible rfl)
        (try simp only [Act.put, List.setIfInBounds_toArray, List.set_cons_zero, List.set_cons_succ])
        refine wpAnyH_take (i := 7) (oi := { dst := some 145, op := _, type := _, pos := _, after := _, guard := _ }) (v := ?_) rfl (by kernel_rfl) (by kernel_rfl) (by kernel_rfl) (fun _ _ _ h => h) (Or.inl ⟨by rfl, ?_⟩) (by assumption) ?_
        rotate_left
        · intro w hSw; (try dsimp only at hSw); have p0 := cell_later hSw qa.1; have p1 := cell_later hSw qa.2.1; have p2 := cell_later hSw qa.2.2.1; have p3 := cell_later hSw qa.2.2.2.1; have p4 := cell_later hSw qa.2.2.2.2.1; have p5 := cell_later hSw qa.2.2.2.2.2.1; have p6 := cell_later hSw qa.2.2.2.2.2.2.1; have p7 := cell_later hSw qa.2.2.2.2.2.2.2; have r0 := cell_later hSw qb.1; have r1 := cell_later hSw qb.2.1; have r2 := cell_later hSw qb.2.2.1; have r3 := cell_later hSw qb.2.2.2.1; have r4 := cell_later hSw qb.2.2.2.2.1; have r5 := cell_later hSw qb.2.2.2.2.2.1; have r6 := cell_later hSw qb.2.2.2.2.2.2.1; have r7 := cell_later hSw qb.2.2.2.2.2.2.2;go_simp; (try with_reducible rfl)
        (try simp only [Act.put, List.setIfInBounds_toArray, List.set_cons_zero, List.set_cons_succ])
        refine wpAnyH_ready (rs := [8]) (by kernel_rfl) (by simp) ?_
        refine AllReadyH.cons (o := { dst := some 146, op := _, type := _, pos := _, after := _, guard := _ }) rfl (fun K hK => ?_) AllReadyH.nil
        go_simp
        (refine (kinside_yes zy zx HSk _).mono ?_; rintro e w' ⟨rfl, hb⟩)
        refine hK.out _ _ ?_ ?_
        · (exact below_step hHeld (Nat.le_refl _) hb)
        (try clear hHeld); (try clear hb)
        intro hHeld
        clear hK K
        (try simp only [Act.put, List.setIfInBounds_toArray, List.set_cons_zero, List.set_cons_succ])
        refine wpAnyH_take (i := 9) (oi := { dst := some 147, op := _, type := _, pos := _, after := _, guard := _ }) (v := ?_) rfl (by kernel_rfl) (by kernel_rfl) (by kernel_rfl) (fun _ _ _ h => h) (Or.inl ⟨by rfl, ?_⟩) (by assumption) ?_
        rotate_left
        · intro w hSw; (try dsimp only at hSw); have p0 := cell_later hSw qa.1; have p1 := cell_later hSw qa.2.1; have p2 := cell_later hSw qa.2.2.1; have p3 := cell_later hSw qa.2.2.2.1; have p4 := cell_later hSw qa.2.2.2.2.1; have p5 := cell_later hSw qa.2.2.2.2.2.1; have p6 := cell_later hSw qa.2.2.2.2.2.2.1; have p7 := cell_later hSw qa.2.2.2.2.2.2.2; have r0 := cell_later hSw qb.1; have r1 := cell_later hSw qb.2.1; have r2 := cell_later hSw qb.2.2.1; have r3 := cell_later hSw qb.2.2.2.1; have r4 := cell_later hSw qb.2.2.2.2.1; have r5 := cell_later hSw qb.2.2.2.2.2.1; have r6 := cell_later hSw qb.2.2.2.2.2.2.1; have r7 := cell_later hSw qb.2.2.2.2.2.2.2;go_simp; (try with_reducible rfl)
        (try simp only [Act.put, List.setIfInBounds_toArray, List.set_cons_zero, List.set_cons_succ])
        refine wpAnyH_done (by kernel_rfl) ?_ _
        (try dsimp only [Act.put])
        (try simp only [Act.put, List.setIfInBounds_toArray, List.set_cons_zero, List.set_cons_succ])
        have hB2 := below_step hB (Nat.le_refl _) hHeld
        go_wp2
        go_roundw
        case rel => exact ⟨k + 1, by omega, by go_num, hB2⟩
        case measure => simp [intOf]; omega
      · obtain rfl : k = n := by omega
        have H1 := HI1.out
        have H2 := HI2.out
        clear HI1 HI2
        rcases H1 with rfl | ⟨g1, g2⟩
        · rcases H2 with rfl | ⟨g3, g4⟩
          · go_wp2_with fail
            refine (awake_any _).mono ?_
            rintro e w18 ⟨rfl, hb⟩
            have hA := HA.out.after (below_step hB (Nat.le_refl _) hb)
            go_wp2
            go_ret
            exact ⟨rfl, Drawn.below HB.out.2 hA HB.out.1⟩
          · have z1 : (t == 0) = false := by simp; omega
            go_wp2_with fail
            refine (awake_any _).mono ?_
            rintro e w18 ⟨rfl, hb⟩
            have hA := HA.out.after (below_step hB (Nat.le_refl _) hb)
            go_wp2
            go_ret
            exact ⟨rfl, Drawn.below HB.out.2 hA HB.out.1⟩
        · have z0 : (p == 0) = false := by simp; omega
          rcases H2 with rfl | ⟨g3, g4⟩
          · go_wp2_with fail
            refine (awake_any _).mono ?_
            rintro e w18 ⟨rfl, hb⟩
            have hA := HA.out.after (below_step hB (Nat.le_refl _) hb)
            go_wp2
            go_ret
            exact ⟨rfl, Drawn.below HB.out.2 hA HB.out.1⟩
          · have z1 : (t == 0) = false := by simp; omega
            go_wp2_with fail
            refine (awake_any _).mono ?_
            rintro e w18 ⟨rfl, hb⟩
            have hA := HA.out.after (below_step hB (Nat.le_refl _) hb)
            go_wp2
            go_ret
            exact ⟨rfl, Drawn.below HB.out.2 hA HB.out.1⟩
end Go.Proofs.Ytoobgjigfmnnaaa
