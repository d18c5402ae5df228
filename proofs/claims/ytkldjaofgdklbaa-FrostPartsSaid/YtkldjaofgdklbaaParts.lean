/-
  FrostParts says yes: days are one after the other.
-/
import Derived.Test.YtkldjaofgdklbaaTail
import Derived.Test.YtkldjaofgdklbaaRef11
import Derived.Test.YtkldjaofgdklbaaAwake
import Derived.Test.YtkldjaofgdklbaaNew
set_option linter.unusedVariables false
set_option linter.unusedSimpArgs false
namespace Go.Proofs.Ytkldjaofgdklbaa
open Go.RowKit

set_option maxRecDepth 100000 in
set_option maxHeartbeats 16000000 in
theorem parts_any (a : Option Addr) (n0 cap : Nat) (at0 : Int) (w : World) (hn : NumsAt w a n0) :
    Calls Try.prog 8 #[.slice a n0 cap, .int .i64 at0] w fun e w' => e = .returned (.bool true) ∧ Below w.heap.size w w' := by
  go_enter Try.func8, Try.ntmps8
  go_wp2_with fail
  refine (newseed_at a n0 cap _ hn).mono ?_
  rintro e w1 ⟨rfl, hS, hB⟩
  clear hn
  obtain ⟨bs, hbs⟩ : ∃ b, w.heap.size = b := ⟨_, rfl⟩
  rw [hbs] at hS ⊢
  have hle : w.heap.size ≤ bs := by omega
  have HB := Lib.hid (And.intro hle hB)
  clear hbs hB hle
  have hb1 : bs < w1.heap.size := hS.choose_spec.lt
  go_wp2_with fail
  refine (frostof_in bs w1 hS).mono ?_
  rintro e w2 ⟨l, v, rfl, hl, hR, hA⟩
  clear hS
  obtain ⟨va, vcap, hvv, hz1, hz2, hz3⟩ := covAt_of_row hR
  clear hz1 hz2 hz3
  subst hvv
  go_wp2_with fail
  refine (iceof_in bs w2 hA.seed).mono ?_
  rintro e w3 ⟨x, rfl, hx, hd⟩
  replace hR := hd.row hR (by omega)
  replace hA := hA.trans hd
  clear hd
  have zA := hA.2.size
  have jL := (Blk.new w3 #[.int .i64 l.gr, .int .i64 l.la, .slice va l.n vcap, .int .i64 l.m0, .int .i64 l.m1, .int .i64 l.so, .int .i64 l.h0, .int .i64 l.h1] 26).alloc (.cells #[.int .i64 x.b0, .int .i64 x.b1, .int .i64 x.w0, .int .i64 x.w1, .int .i64 x.q0, .int .i64 x.q1, .int .i64 x.s0, .int .i64 x.s1] 28)
  have jX := Blk.new1 w3 (.cells #[.int .i64 l.gr, .int .i64 l.la, .slice va l.n vcap, .int .i64 l.m0, .int .i64 l.m1, .int .i64 l.so, .int .i64 l.h0, .int .i64 l.h1] 26) #[.int .i64 x.b0, .int .i64 x.b1, .int .i64 x.w0, .int .i64 x.w1, .int .i64 x.q0, .int .i64 x.q1, .int .i64 x.s0, .int .i64 x.s1] 28
  replace hR := (hR.alloc (.cells #[.int .i64 l.gr, .int .i64 l.la, .slice va l.n vcap, .int .i64 l.m0, .int .i64 l.m1, .int .i64 l.so, .int .i64 l.h0, .int .i64 l.h1] 26)).alloc (.cells #[.int .i64 x.b0, .int .i64 x.b1, .int .i64 x.w0, .int .i64 x.w1, .int .i64 x.q0, .int .i64 x.q1, .int .i64 x.s0, .int .i64 x.s1] 28)
  replace hA := (hA.new (.cells #[.int .i64 l.gr, .int .i64 l.la, .slice va l.n vcap, .int .i64 l.m0, .int .i64 l.m1, .int .i64 l.so, .int .i64 l.h0, .int .i64 l.h1] 26)).new (.cells #[.int .i64 x.b0, .int .i64 x.b1, .int .i64 x.w0, .int .i64 x.w1, .int .i64 x.q0, .int .i64 x.q1, .int .i64 x.s0, .int .i64 x.s1] 28)
  go_wp2_with fail
  refine (yes_in 2 bs _ hA.seed (by decide)).mono ?_
  rintro e w4 ⟨fr, rfl, hd⟩
  obtain ⟨bL, hbL⟩ : ∃ b, w3.heap.size = b := ⟨_, rfl⟩
  rw [hbL] at zA jL jX
  (try rw [hbL])
  clear hbL
  replace jL := hd.blk jL (by omega)
  replace jX := hd.blk jX (by omega)
  replace hR := hd.row hR (by omega)
  replace hA := hA.trans hd
  clear hd
  go_wp2_with fail
  refine (daysof_in 10 (by decide) (by decide) fr bs _ hA.seed).mono ?_
  rintro e w5 ⟨vd, n, d, rfl, hn10, hdk, hD, hd⟩
  replace jL := hd.blk jL (by omega)
  replace jX := hd.blk jX (by omega)
  replace hR := hd.row hR (by omega)
  replace hA := hA.trans hd
  clear hd
  have kC := covAt_of_row hR
  have kD := daysAt_of_row hD
  have hok : ∀ i, i < n → (d i).Ok := fun i hi => (hdk i hi).ok
  clear hR hD hdk
  obtain ⟨da, dcap, hvd, ncap, hz2, hz3⟩ := id kD
  clear hz2 hz3
  subst hvd
  have HW : Hid (∀ W, Calls Try.prog 47 #[.int .i64 at0, .int .i64 ((n : Int) + 1)] W fun e w' => ∃ k : Nat, e = .returned (.int .i64 k) ∧ k < n + 1 ∧ W = w') := fun W => by
    have q := wrap_in at0 (n + 1) W (by omega) (by omega)
    rw [show ((n + 1 : Nat) : Int) = (n : Int) + 1 by omega] at q
    exact q
  have e1 : IntKind.i64.wrap ((n : Int) + 1) = (n : Int) + 1 := IntWalk.i64_in _ (by omega)
  go_wp2_with fail
  refine (HW.out _).mono ?_
  rintro e w6 ⟨k, rfl, hk, rfl⟩
  have hkn : k ≤ n := by omega
  clear HW hk e1
  obtain ⟨l0, l1, l2, l3, l4, l5, l6, l7⟩ := jL.c8
  obtain ⟨x0, x1, x2, x3, x4, x5, x6, x7⟩ := jX.c8
  have zL := jL.lt
  have zX := jX.lt
  go_wp2_with fail
  refine (run_kit l _ x _ n d _ hl kC hx.val kD (by omega) hok (by omega)).mono ?_
  rintro e w6 ⟨ra, rfl, hra, hb⟩
  clear l0 l1 l2 l3 l4 l5 l6 l7 x0 x1 x2 x3 x4 x5 x6 x7 zL zX
  replace jL := jL.call hb
  replace jX := jX.call hb
  replace kC := kC.later hb
  replace kD := kD.later hb
  replace hA := hA.after hb
  have kRa := iceL_of_row hra
  clear hb hra
  obtain ⟨aa, acap, hra', acn, hz2, hz3⟩ := id kRa
  clear hz2 hz3
  subst hra'
  obtain ⟨aT, cT, hT⟩ : ∃ q c, sliced da 0 k dcap 6 = .slice q k c := ⟨_, _, rfl⟩
  have S1 : ∀ W, (Instr.slice 38 (.slice da n dcap) none (some (.int .i64 (k : Int))) none).run Try.prog W = .ok (.slice aT k cT) W := fun W => by rw [← hT]; exact slice_day da n dcap k (by omega) W
  have kDk : DaysAt w6 (.slice aT k cT) k d := by
    have q := kD.sl 0 k (by omega) hkn
    rw [hT] at q
    simpa using q
  clear hT
  go_upto_region 6 with fail
  refine wp_region_held_drew (S := (fun w' => Blk w' bL #[.int .i64 l.gr, .int .i64 l.la, .slice va l.n vcap, .int .i64 l.m0, .int .i64 l.m1, .int .i64 l.so, .int .i64 l.h0, .int .i64 l.h1] 26 ∧ Blk w' (bL + 1) #[.int .i64 x.b0, .int .i64 x.b1, .int .i64 x.w0, .int .i64 x.w1, .int .i64 x.q0, .int .i64 x.q1, .int .i64 x.s0, .int .i64 x.s1] 28 ∧ CovAt w' (.slice va l.n vcap) l.n l.D l.P0 l.P1 ∧ DaysAt w' (.slice da n dcap) n d ∧ DaysAt w' (.slice aT k cT) k d ∧ IceL w' (.slice aa n acap) n (fun i => iceAt l d x (i + 1)) ∧ Drawn bs w1 w')) (by kernel_rfl) ?_ (fun hH => ?_)
  · (try dsimp only); (exact ⟨jL.drew, jX.drew, kC, kD, kDk, kRa, hA.trans (Drawn.drew hA.seed)⟩)
  refine tkY 0 (some 40) ?_ ?_ ?_
  rotate_left
  · intro w hS0; (try dsimp only at hS0); obtain ⟨kl, kx, _, _, _, _, _⟩ := hS0; obtain ⟨l0, l1, l2, l3, l4, l5, l6, l7⟩ := kl.c8; obtain ⟨x0, x1, x2, x3, x4, x5, x6, x7⟩ := kx.c8;go_simp; (try with_reducible rfl)
  (try simp only [cq])
  refine tkY 1 (some 41) ?_ ?_ ?_
  rotate_left
  · intro w hS0; (try dsimp only at hS0); obtain ⟨kl, kx, _, _, _, _, _⟩ := hS0; obtain ⟨l0, l1, l2, l3, l4, l5, l6, l7⟩ := kl.c8; obtain ⟨x0, x1, x2, x3, x4, x5, x6, x7⟩ := kx.c8;go_simp; (try with_reducible rfl)
  (try simp only [cq])
  refine tkY 2 (some 42) ?_ ?_ ?_
  rotate_left
  · intro w _; go_simp; (try with_reducible rfl)
  (try simp only [cq])
  refine tkY 3 (some 43) ?_ ?_ ?_
  rotate_left
  · intro w _; go_simp; (try with_reducible rfl)
  (try simp only [cq])
  refine tkY 4 (some 44) ?_ ?_ ?_
  rotate_left
  · intro w hS0; (try dsimp only at hS0); obtain ⟨kl, kx, _, _, _, _, _⟩ := hS0; obtain ⟨l0, l1, l2, l3, l4, l5, l6, l7⟩ := kl.c8; obtain ⟨x0, x1, x2, x3, x4, x5, x6, x7⟩ := kx.c8;go_simp; (try with_reducible rfl)
  (try simp only [cq])
  refine wpAnyH_ready (rs := [5]) (by kernel_rfl) (by simp) ?_
  refine arc1 (some 45) fun K hK => ?_
  go_simp
  (refine (run_kit l _ x _ k d _ hl hH.2.2.1 hx.val hH.2.2.2.2.1 (by omega) (fun i hi => hok i (by omega)) (Nat.lt_of_le_of_lt (Nat.zero_le _) hH.1.lt)).mono ?_; rintro e w' ⟨rb, rfl, hrb, hb⟩)
  refine hK.out _ _ ?_ ?_
  · (exact ⟨hH.1.call hb, hH.2.1.call hb, hH.2.2.1.later hb, hH.2.2.2.1.later hb, hH.2.2.2.2.1.later hb, hH.2.2.2.2.2.1.later hb, hH.2.2.2.2.2.2.after hb⟩)
  (try clear hH); (try clear hb)
  intro hH
  clear hK K
  (try simp only [cq])
  refine tkY 6 (some 39) ?_ ?_ ?_
  rotate_left
  · intro w _; go_simp; (try with_reducible rfl)
  (try simp only [cq])
  refine tkY 7 (some 46) ?_ ?_ ?_
  rotate_left
  · intro w _; go_simp; (try with_reducible rfl)
  (try simp only [cq])
  refine tkY 8 (some 47) ?_ ?_ ?_
  rotate_left
  · intro w _; go_simp; (try with_reducible rfl)
  (try simp only [cq])
  refine tkY 9 (some 12) ?_ ?_ ?_
  rotate_left
  · intro w _; go_simp; (try with_reducible rfl)
  (try simp only [cq])
  refine tkY 10 (some 13) ?_ ?_ ?_
  rotate_left
  · intro w _; go_simp; (try with_reducible rfl)
  (try simp only [cq])
  refine wpAnyH_done (by kernel_rfl) ?_ _
  (try dsimp only [Act.put])
  (try simp only [cq])
  clear jL jX kC kD kDk kRa hA S1
  obtain ⟨jL, jX, kC, kD, _, kRa, hA⟩ := hH
  have kRb := iceL_of_row hrb
  clear hrb
  obtain ⟨ab, bcap, hrb', bcn, hz2, hbx⟩ := id kRb
  clear hz2 hbx
  subst hrb'
  obtain ⟨a3, c3, h3⟩ : ∃ q c, sliced aa 0 k acap 8 = .slice q k c := ⟨_, _, rfl⟩
  have S3 : ∀ W, (Instr.slice 41 (.slice aa n acap) none (some (.int .i64 (k : Int))) none).run Try.prog W = .ok (.slice a3 k c3) W := fun W => by rw [← h3]; exact slice_ice aa n acap k (by omega) W
  have k3 := kRa.sl 0 k (by omega) hkn
  rw [h3] at k3
  simp only [Nat.zero_add, Nat.sub_zero] at k3
  clear h3
  go_wp2_with fail
  refine (same_yes _ _ k _ _ (by omega) k3 kRb).mono ?_
  rintro e w8 ⟨rfl, hb⟩
  clear k3 S3
  replace jL := jL.call hb
  replace jX := jX.call hb
  replace kC := kC.later hb
  replace kD := kD.later hb
  replace kRa := kRa.later hb
  replace kRb := kRb.later hb
  replace hA := hA.after hb
  clear hb
  obtain ⟨x0, x1, x2, x3, x4, x5, x6, x7⟩ := jX.c8
  have zX := jX.lt
  go_upto_if 71 with fail
  clear x0 x1 x2 x3 x4 x5 x6 x7 zX
  have jY := Blk.new w8 #[.int .i64 x.b0, .int .i64 x.b1, .int .i64 x.w0, .int .i64 x.w1, .int .i64 x.q0, .int .i64 x.q1, .int .i64 x.s0, .int .i64 x.s1] 28
  have hbY : Below w8.heap.size w8 (w8.alloc (.cells #[.int .i64 x.b0, .int .i64 x.b1, .int .i64 x.w0, .int .i64 x.w1, .int .i64 x.q0, .int .i64 x.q1, .int .i64 x.s0, .int .i64 x.s1] 28)) := bwA (Below.refl _ _) (Nat.le_refl _) _
  go_cut [14] (fun s14 wx => s14 = .pointer (some ⟨w8.heap.size, 0, none⟩) ∧ Blk wx w8.heap.size #[.int .i64 (iceAt l d x k).b0, .int .i64 (iceAt l d x k).b1, .int .i64 (iceAt l d x k).w0, .int .i64 (iceAt l d x k).w1, .int .i64 (iceAt l d x k).q0, .int .i64 (iceAt l d x k).q1, .int .i64 (iceAt l d x k).s0, .int .i64 (iceAt l d x k).s1] 28 ∧ Below w8.heap.size w8 wx)
  case first =>
    by_cases h0 : 0 < k
    · obtain ⟨j, hj⟩ : ∃ j, k = j + 1 := ⟨k - 1, by omega⟩
      obtain ⟨ab', bc', hv', hz1, hz2, hc'⟩ := kRb
      clear hz1 hz2
      simp only [Value.slice.injEq] at hv'
      obtain ⟨rfl, _, rfl⟩ := hv'
      obtain ⟨b, o, rfl, hc⟩ := hc' (by omega)
      have hq := hc j (by omega)
      obtain ⟨z, hz⟩ : ∃ z, iceAt l d x (j + 1) = z := ⟨_, rfl⟩
      simp only [hz] at hq
      obtain ⟨q0, q1, q2, q3, q4, q5, q6, q7⟩ := hq
      clear hc hc'
      replace q0 := cell_later hbY q0
      replace q1 := cell_later hbY q1
      replace q2 := cell_later hbY q2
      replace q3 := cell_later hbY q3
      replace q4 := cell_later hbY q4
      replace q5 := cell_later hbY q5
      replace q6 := cell_later hbY q6
      replace q7 := cell_later hbY q7
      have zq := World.block_lt_of_cell? _ _ q0
      obtain ⟨r0, r1, r2, r3, r4, r5, r6, r7⟩ := jY.c8
      have g0 := jY.free 0
      have g1 := jY.free 1
      have g2 := jY.free 2
      have g3 := jY.free 3
      have g4 := jY.free 4
      have g5 := jY.free 5
      have g6 := jY.free 6
      have g7 := jY.free 7
      have zY := jY.lt
      have jY2 := Lib.hid (jY.set8 (.int .i64 z.b0) (.int .i64 z.b1) (.int .i64 z.w0) (.int .i64 z.w1) (.int .i64 z.q0) (.int .i64 z.q1) (.int .i64 z.s0) (.int .i64 z.s1))
      have hB2 := Lib.hid (below_set8 (c := w8.heap.size) hbY (Nat.le_refl _) (.int .i64 z.b0) (.int .i64 z.b1) (.int .i64 z.w0) (.int .i64 z.w1) (.int .i64 z.q0) (.int .i64 z.q1) (.int .i64 z.s0) (.int .i64 z.s1))
      have e2 : IntKind.i64.wrap ((k : Int) - 1) = (j : Int) := by rw [IntWalk.i64_in _ (by omega)]; omega
      have hjn : j < k := by omega
      have hK := Lib.hid hj
      have hZ := Lib.hid hz
      clear hj hz kRa kC kD hA jL jX
      generalize w8.alloc (.cells #[.int .i64 x.b0, .int .i64 x.b1, .int .i64 x.w0, .int .i64 x.w1, .int .i64 x.q0, .int .i64 x.q1, .int .i64 x.s0, .int .i64 x.s1] 28) = V at jY hbY q0 q1 q2 q3 q4 q5 q6 q7 zq r0 r1 r2 r3 r4 r5 r6 r7 g0 g1 g2 g3 g4 g5 g6 g7 zY jY2 hB2 ⊢
      have hkk : decide (0 < k) = true := by simp; omega
      simp only [hkk]
      clear hkk h0
      go_wp2_with fail
      go_meet
      exact ⟨rfl, by rw [hK.out, hZ.out]; exact jY2.out, hB2.out⟩
    · obtain rfl : k = 0 := by omega
      go_wp2_with fail
      go_meet
      exact ⟨rfl, jY, hbY⟩
  case rest =>
    obtain ⟨rfl, jY, hbb⟩ := hcut
    obtain ⟨y, hy⟩ : ∃ y, iceAt l d x k = y := ⟨_, rfl⟩
    rw [hy] at jY
    replace jL := jL.call hbb
    replace kC := kC.later hbb
    replace kD := kD.later hbb
    replace kRa := kRa.later hbb
    replace hA := hA.after hbb
    clear hbY jX hbb kRb
    obtain ⟨bY, hbY⟩ : ∃ b, w8.heap.size = b := ⟨_, rfl⟩
    rw [hbY] at jY ⊢
    clear hbY
    obtain ⟨r0, r1, r2, r3, r4, r5, r6, r7⟩ := jY.c8
    have zY := jY.lt
    go_wp2_with fail
    refine (rice_any y _).mono ?_
    rintro e w9 ⟨rfl, hb⟩
    clear r0 r1 r2 r3 r4 r5 r6 r7 zY
    replace jL := jL.call hb
    replace jY := jY.call hb
    replace kC := kC.later hb
    replace kD := kD.later hb
    replace kRa := kRa.later hb
    replace hA := hA.after hb
    clear hb
    by_cases he : y.e = 0
    case neg =>
      have h1 : (y.e != 0) = true := by simpa using he
      go_wp2_with fail
      refine (awake_any _).mono ?_
      rintro e w10 ⟨rfl, hb⟩
      replace hA := hA.after hb
      go_wp2
      go_ret
      exact ⟨rfl, Drawn.below HB.out.2 hA HB.out.1⟩
    case pos =>
      have hyv := Ic.val_of_e he
      rw [he]
      clear he
      obtain ⟨aU, cU, hU⟩ : ∃ q c, sliced da k n dcap 6 = .slice q (n - k) c := ⟨_, _, rfl⟩
      have S2 : ∀ W, (Instr.slice 38 (.slice da n dcap) (some (.int .i64 (k : Int))) none none).run Try.prog W = .ok (.slice aU (n - k) cU) W := fun W => by rw [← hU]; exact slice_day2 da n dcap k hkn W
      have kDu : DaysAt w9 (.slice aU (n - k) cU) (n - k) (fun i => d (k + i)) := by
        have q := kD.sl k n hkn (Nat.le_refl _)
        rw [hU] at q
        exact q
      clear hU
      go_upto_region 14 with fail
      refine wp_region_held_drew (S := (fun w' => Blk w' bL #[.int .i64 l.gr, .int .i64 l.la, .slice va l.n vcap, .int .i64 l.m0, .int .i64 l.m1, .int .i64 l.so, .int .i64 l.h0, .int .i64 l.h1] 26 ∧ Blk w' bY #[.int .i64 y.b0, .int .i64 y.b1, .int .i64 y.w0, .int .i64 y.w1, .int .i64 y.q0, .int .i64 y.q1, .int .i64 y.s0, .int .i64 y.s1] 28 ∧ CovAt w' (.slice va l.n vcap) l.n l.D l.P0 l.P1 ∧ DaysAt w' (.slice aU (n - k) cU) (n - k) (fun i => d (k + i)) ∧ IceL w' (.slice aa n acap) n (fun i => iceAt l d x (i + 1)) ∧ Drawn bs w1 w')) (by kernel_rfl) ?_ (fun hH => ?_)
      · (try dsimp only); (exact ⟨jL.drew, jY.drew, kC, kDu, kRa, hA.trans (Drawn.drew hA.seed)⟩)
      refine tkY 0 (some 82) ?_ ?_ ?_
      rotate_left
      · intro w hS0; (try dsimp only at hS0); obtain ⟨kl, kx, _, _, _, _⟩ := hS0; obtain ⟨l0, l1, l2, l3, l4, l5, l6, l7⟩ := kl.c8; obtain ⟨x0, x1, x2, x3, x4, x5, x6, x7⟩ := kx.c8;go_simp; (try with_reducible rfl)
      (try simp only [cq])
      refine tkY 1 (some 83) ?_ ?_ ?_
      rotate_left
      · intro w hS0; (try dsimp only at hS0); obtain ⟨kl, kx, _, _, _, _⟩ := hS0; obtain ⟨l0, l1, l2, l3, l4, l5, l6, l7⟩ := kl.c8; obtain ⟨x0, x1, x2, x3, x4, x5, x6, x7⟩ := kx.c8;go_simp; (try with_reducible rfl)
      (try simp only [cq])
      refine tkY 2 (some 84) ?_ ?_ ?_
      rotate_left
      · intro w _; go_simp; (try with_reducible rfl)
      (try simp only [cq])
      refine tkY 3 (some 85) ?_ ?_ ?_
      rotate_left
      · intro w _; go_simp; (try with_reducible rfl)
      (try simp only [cq])
      refine tkY 4 (some 86) ?_ ?_ ?_
      rotate_left
      · intro w hS0; (try dsimp only at hS0); obtain ⟨kl, kx, _, _, _, _⟩ := hS0; obtain ⟨l0, l1, l2, l3, l4, l5, l6, l7⟩ := kl.c8; obtain ⟨x0, x1, x2, x3, x4, x5, x6, x7⟩ := kx.c8;go_simp; (try with_reducible rfl)
      (try simp only [cq])
      refine wpAnyH_ready (rs := [5]) (by kernel_rfl) (by simp) ?_
      refine arc1 (some 87) fun K hK => ?_
      go_simp
      (refine (run_kit l _ y _ (n - k) (fun i => d (k + i)) _ hl hH.2.2.1 hyv hH.2.2.2.1 (by omega) (fun i hi => hok (k + i) (by omega)) (Nat.lt_of_le_of_lt (Nat.zero_le _) hH.1.lt)).mono ?_; rintro e w' ⟨rc, rfl, hrc, hb⟩)
      refine hK.out _ _ ?_ ?_
      · (exact ⟨hH.1.call hb, hH.2.1.call hb, hH.2.2.1.later hb, hH.2.2.2.1.later hb, hH.2.2.2.2.1.later hb, hH.2.2.2.2.2.after hb⟩)
      (try clear hH); (try clear hb)
      intro hH
      clear hK K
      (try simp only [cq])
      refine tkY 6 (some 81) ?_ ?_ ?_
      rotate_left
      · intro w _; go_simp; (try with_reducible rfl)
      (try simp only [cq])
      refine tkY 7 (some 88) ?_ ?_ ?_
      rotate_left
      · intro w _; go_simp; (try with_reducible rfl)
      (try simp only [cq])
      refine tkY 8 (some 89) ?_ ?_ ?_
      rotate_left
      · intro w _; go_simp; (try with_reducible rfl)
      (try simp only [cq])
      refine tkY 9 (some 15) ?_ ?_ ?_
      rotate_left
      · intro w _; go_simp; (try with_reducible rfl)
      (try simp only [cq])
      refine tkY 10 (some 16) ?_ ?_ ?_
      rotate_left
      · intro w _; go_simp; (try with_reducible rfl)
      (try simp only [cq])
      refine wpAnyH_done (by kernel_rfl) ?_ _
      (try dsimp only [Act.put])
      (try simp only [cq])
      clear jL jY kC kD kDu kRa hA S2
      obtain ⟨jL, jY, kC, _, kRa, hA⟩ := hH
      have kRc := iceL_of_row hrc
      clear hrc
      rw [← hy, show (fun i => iceAt l (fun i => d (k + i)) (iceAt l d x k) (i + 1)) = (fun i => iceAt l d x (k + i + 1)) from funext fun i => iceAt_part l d x k (i + 1)] at kRc
      obtain ⟨ac, ccap, hrc', ccn, hz2, hz3⟩ := id kRc
      clear hz2 hz3
      subst hrc'
      obtain ⟨a4, c4, h4⟩ : ∃ q c, sliced aa k n acap 8 = .slice q (n - k) c := ⟨_, _, rfl⟩
      have S4 : ∀ W, (Instr.slice 41 (.slice aa n acap) (some (.int .i64 (k : Int))) none none).run Try.prog W = .ok (.slice a4 (n - k) c4) W := fun W => by rw [← h4]; exact slice_ice2 aa n acap k hkn W
      have k4 := kRa.sl k n hkn (Nat.le_refl _)
      rw [h4] at k4
      clear h4
      go_wp2_with fail
      refine (same_yes _ _ (n - k) _ _ (by omega) k4 kRc).mono ?_
      rintro e w11 ⟨rfl, hb⟩
      replace hA := hA.after hb
      clear hb k4 S4
      go_wp2_with fail
      refine (awake_any _).mono ?_
      rintro e w12 ⟨rfl, hb⟩
      replace hA := hA.after hb
      go_wp2
      go_ret
      exact ⟨rfl, Drawn.below HB.out.2 hA HB.out.1⟩
end Go.Proofs.Ytkldjaofgdklbaa
