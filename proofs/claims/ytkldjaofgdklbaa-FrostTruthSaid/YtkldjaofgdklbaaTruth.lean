/-
  FrostTruth says yes: true ice is within what is known.
-/
import Derived.Test.YtkldjaofgdklbaaTail
import Derived.Test.YtkldjaofgdklbaaAfter
import Derived.Test.YtkldjaofgdklbaaBearing
import Derived.Test.YtkldjaofgdklbaaAwake
import Derived.Test.YtkldjaofgdklbaaNew
set_option linter.unusedVariables false
set_option linter.unusedSimpArgs false
namespace Go.Proofs.Ytkldjaofgdklbaa
open Go.RowKit

set_option maxRecDepth 100000 in
set_option maxHeartbeats 16000000 in
theorem truth_any (a : Option Addr) (n0 cap : Nat) (w : World) (hn : NumsAt w a n0) :
    Calls Try.prog 5 #[.slice a n0 cap] w fun e w' => e = .returned (.bool true) ∧ Below w.heap.size w w' := by
  go_enter Try.func5, Try.ntmps5
  go_wp2_with fail
  refine (newseed_at a n0 cap _ hn).mono ?_
  rintro e w1 ⟨rfl, hS, hB⟩
  clear hn
  obtain ⟨bs, hbs⟩ : ∃ b, w.heap.size = b := ⟨_, rfl⟩
  rw [hbs] at hS ⊢
  have hle : w.heap.size ≤ bs := by omega
  have HB := Lib.hid (And.intro hle hB)
  clear hbs hB hle
  have hb1 : bs < w1.heap.size := hS.choose_spec.lt
  go_wp2_with fail
  refine (frostof_in bs w1 hS).mono ?_
  rintro e w2 ⟨l, v, rfl, hl, hR, hA⟩
  clear hS
  obtain ⟨va, vcap, hvv, hz1, hz2, hz3⟩ := covAt_of_row hR
  clear hz1 hz2 hz3
  subst hvv
  go_wp2_with fail
  refine (iceof_in bs w2 hA.seed).mono ?_
  rintro e w3 ⟨x, rfl, hx, hd⟩
  replace hR := hd.row hR (by omega)
  replace hA := hA.trans hd
  clear hd
  have zA := hA.2.size
  have jL := (Blk.new w3 #[.int .i64 l.gr, .int .i64 l.la, .slice va l.n vcap, .int .i64 l.m0, .int .i64 l.m1, .int .i64 l.so, .int .i64 l.h0, .int .i64 l.h1] 26).alloc (.cells #[.int .i64 x.b0, .int .i64 x.b1, .int .i64 x.w0, .int .i64 x.w1, .int .i64 x.q0, .int .i64 x.q1, .int .i64 x.s0, .int .i64 x.s1] 28)
  have jX := Blk.new1 w3 (.cells #[.int .i64 l.gr, .int .i64 l.la, .slice va l.n vcap, .int .i64 l.m0, .int .i64 l.m1, .int .i64 l.so, .int .i64 l.h0, .int .i64 l.h1] 26) #[.int .i64 x.b0, .int .i64 x.b1, .int .i64 x.w0, .int .i64 x.w1, .int .i64 x.q0, .int .i64 x.q1, .int .i64 x.s0, .int .i64 x.s1] 28
  replace hR := (hR.alloc (.cells #[.int .i64 l.gr, .int .i64 l.la, .slice va l.n vcap, .int .i64 l.m0, .int .i64 l.m1, .int .i64 l.so, .int .i64 l.h0, .int .i64 l.h1] 26)).alloc (.cells #[.int .i64 x.b0, .int .i64 x.b1, .int .i64 x.w0, .int .i64 x.w1, .int .i64 x.q0, .int .i64 x.q1, .int .i64 x.s0, .int .i64 x.s1] 28)
  replace hA := (hA.new (.cells #[.int .i64 l.gr, .int .i64 l.la, .slice va l.n vcap, .int .i64 l.m0, .int .i64 l.m1, .int .i64 l.so, .int .i64 l.h0, .int .i64 l.h1] 26)).new (.cells #[.int .i64 x.b0, .int .i64 x.b1, .int .i64 x.w0, .int .i64 x.w1, .int .i64 x.q0, .int .i64 x.q1, .int .i64 x.s0, .int .i64 x.s1] 28)
  go_wp2_with fail
  refine (yes_in 3 bs _ hA.seed (by decide)).mono ?_
  rintro e w4 ⟨fr, rfl, hd⟩
  obtain ⟨bL, hbL⟩ : ∃ b, w3.heap.size = b := ⟨_, rfl⟩
  rw [hbL] at zA jL jX
  (try rw [hbL])
  clear hbL
  replace jL := hd.blk jL (by omega)
  replace jX := hd.blk jX (by omega)
  replace hR := hd.row hR (by omega)
  replace hA := hA.trans hd
  clear hd
  go_wp2_with fail
  refine (daysof_in 12 (by decide) (by decide) fr bs _ hA.seed).mono ?_
  rintro e w5 ⟨vd, n, d, rfl, hn12, hdk, hD, hd⟩
  replace jL := hd.blk jL (by omega)
  replace jX := hd.blk jX (by omega)
  replace hR := hd.row hR (by omega)
  replace hA := hA.trans hd
  clear hd
  have hok : ∀ i, i < n → (d i).Ok := fun i hi => (hdk i hi).ok
  clear hdk
  have kC := covAt_of_row hR
  have kD := daysAt_of_row hD
  clear hR hD
  obtain ⟨da, dcap, hvd, ncap, hz2, hz3⟩ := id kD
  clear hz2 hz3
  subst hvd
  obtain ⟨l0, l1, l2, l3, l4, l5, l6, l7⟩ := jL.c8
  obtain ⟨x0, x1, x2, x3, x4, x5, x6, x7⟩ := jX.c8
  have zL := jL.lt
  have zX := jX.lt
  go_wp2_with fail
  clear l0 l1 l2 l3 l4 l5 l6 l7 x0 x1 x2 x3 x4 x5 x6 x7 zL zX
  refine (run_kit l _ x _ n d _ hl kC hx.val kD (by omega) hok (Nat.lt_of_le_of_lt (Nat.zero_le _) jL.lt)).mono ?_
  rintro e w6 ⟨ra, rfl, hra, hb⟩
  have HOk := Lib.hid hok
  clear hok
  replace jL := jL.call hb
  replace jX := jX.call hb
  replace kC := kC.later hb
  replace kD := kD.later hb
  replace hA := hA.after hb
  have kRa := iceL_of_row hra
  clear hb hra
  obtain ⟨aa, acap, hra', acn, hz2, hz3⟩ := id kRa
  clear hz2 hz3
  subst hra'
  obtain ⟨x0, x1, x2, x3, x4, x5, x6, x7⟩ := jX.c8
  have zX := jX.lt
  go_wp2_with fail
  clear x0 x1 x2 x3 x4 x5 x6 x7 zX
  refine (trueice_in x bs _ hA.seed hx).mono ?_
  rintro e w7 ⟨tb, tw, tq, ts, rfl, ht, hd⟩
  replace jL := hd.blk jL (by omega)
  replace jX := hd.blk jX (by omega)
  replace kC := kC.drawn hA.seed hd
  replace kD := kD.drawn hA.seed hd
  replace kRa := kRa.drawn hA.seed hd
  replace hA := hA.trans hd
  clear hd
  have hs7 := hA.seed
  have hb7 : bs < w7.heap.size := hs7.choose_spec.lt
  have jT := Blk.new w7 #[.int .i64 tb, .int .i64 tw, .int .i64 tq, .int .i64 ts] 57
  have hE := Drawn.alloc hs7 (.cells #[.int .i64 tb, .int .i64 tw, .int .i64 tq, .int .i64 ts] 57)
  have HA := Lib.hid hA
  clear hA
  obtain ⟨bT, hbT⟩ : ∃ b, w7.heap.size = b := ⟨_, rfl⟩
  have zT : w7.heap.size ≤ bT := by omega
  have hbsT : bs < bT := by omega
  obtain ⟨_, _, hva, _, _, ka⟩ := kRa
  simp only [Value.slice.injEq] at hva
  obtain ⟨rfl, _, rfl⟩ := hva
  obtain ⟨_, _, hvd, _, _, kd⟩ := kD
  simp only [Value.slice.injEq] at hvd
  obtain ⟨rfl, _, rfl⟩ := hvd
  have KA := Lib.hid ka
  have KD := Lib.hid kd
  have HNn := Lib.hid (fun k (hk : k ≤ n) => iceAt_nn hl hx.val.nn n HOk.out k hk)
  have HBd := Lib.hid (fun k (hk : k ≤ n) => iceAt_bd (j := 0) hl.ok hx.val.bd n HOk.out k hk (by omega))
  clear ka kd
  go_upto_region 8 with fail
  rw [hbT] at jT
  (try rw [hbT])
  clear hbT
  generalize w7.alloc (.cells #[.int .i64 tb, .int .i64 tw, .int .i64 tq, .int .i64 ts] 57) = w8 at jT hE ⊢
  go_wp2_with fail
  go_loopw [10] (fun i wr => ∃ (k : Nat) (tb tw tq ts : Int), k ≤ n ∧ i = .int .i64 k ∧ TrIn tb tw tq ts (iceAt l d x k) ∧ Blk wr bT #[.int .i64 tb, .int .i64 tw, .int .i64 tq, .int .i64 ts] 57 ∧ Drawn bs w7 wr) (fun i _ => n - (intOf i).toNat)
  case atStart => exact ⟨0, tb, tw, tq, ts, Nat.zero_le _, rfl, ht, jT, hE⟩
  case round =>
    clear ht jT hE
    obtain ⟨k, tb, tw, tq, ts, hk, rfl, ht, jT, hE⟩ := hrel
    by_cases hlt : k < n
    · obtain ⟨b1, o1, rfl, qa⟩ := KA.out (by omega)
      obtain ⟨b2, o2, rfl, qd⟩ := KD.out (by omega)
      have hba : b1 ≠ bs := seed_not hs7 (qa 0 (by omega)).1
      have hbd : b2 ≠ bs := seed_not hs7 (qd 0 (by omega)).1
      replace qa := qa k hlt
      replace qd := qd k hlt
      have zd := World.block_lt_of_cell? _ _ qd.1
      have za := World.block_lt_of_cell? _ _ qa.1
      have hdk := HOk.out k hlt
      have hnk := HNn.out k hk
      obtain ⟨_, m1, _, m2, _, m3, _, m4⟩ := HBd.out k hk
      have HAf := Lib.hid (show ∀ W, Drawn bs w7 W → Calls Try.prog 32 #[.pointer (some ⟨bs, 0, none⟩), .agg #[.int .i64 l.gr, .int .i64 l.la, (.slice va l.n vcap), .int .i64 l.m0, .int .i64 l.m1, .int .i64 l.so, .int .i64 l.h0, .int .i64 l.h1], .agg #[.int .i64 tb, .int .i64 tw, .int .i64 tq, .int .i64 ts], .agg #[.int .i64 (d k).c0, .int .i64 (d k).c1, .int .i64 (d k).f0, .int .i64 (d k).f1, .int .i64 (d k).wa, .bool (d k).cl]] W fun e w' => ∃ b1 w1 q1 s1, e = .returned (.agg #[.int .i64 b1, .int .i64 w1, .int .i64 q1, .int .i64 s1]) ∧ TrIn b1 w1 q1 s1 (iceAt l d x (k + 1)) ∧ Drawn bs W w' from fun W g => after_in l va vcap (iceAt l d x k) tb tw tq ts (d k) bs W g.seed hl (kC.drawn hs7 g) hnk ht hdk (by omega) (by omega) (by omega) (by omega))
      dsimp only at qa
      clear m1 m2 m3 m4 hnk hdk ht
      generalize hz : iceAt l d x (k + 1) = z at qa HAf
      have HZ := Lib.hid hz
      clear hz
      go_upto_region 11 with fail
      have kT := jT.drew
      refine wp_region_held_drew (S := (fun w' => Drawn bs w7 w')) (by kernel_rfl) ?_ (fun hH => ?_)
      · (try dsimp only); (exact hE.trans (Drawn.drew hE.seed))
      refine tkY 0 (some 52) ?_ ?_ ?_
      rotate_left
      · intro w _; go_simp; (try with_reducible rfl)
      (try simp only [cq])
      refine tkY 1 (some 53) ?_ ?_ ?_
      rotate_left
      · intro w hS0; (try dsimp only at hS0); have kl := hS0.blk jL (by omega); obtain ⟨l0, l1, l2, l3, l4, l5, l6, l7⟩ := kl.c8; have zl := kl.lt; have p0 := hS0.cell (qd.1) hbd; have p1 := hS0.cell (qd.2.1) hbd; have p2 := hS0.cell (qd.2.2.1) hbd; have p3 := hS0.cell (qd.2.2.2.1) hbd; have p4 := hS0.cell (qd.2.2.2.2.1) hbd; have p5 := hS0.cell (qd.2.2.2.2.2) hbd;go_simp; (try with_reducible rfl)
      (try simp only [cq])
      refine tkY 3 (some 55) ?_ ?_ ?_
      rotate_left
      · intro w _; go_simp; (try with_reducible rfl)
      (try simp only [cq])
      refine tkY 4 (some 56) ?_ ?_ ?_
      rotate_left
      · intro w _; go_simp; (try with_reducible rfl)
      (try simp only [cq])
      refine tkY 5 (some 57) ?_ ?_ ?_
      rotate_left
      · intro w hS0; (try dsimp only at hS0); have kl := hS0.blk jL (by omega); obtain ⟨l0, l1, l2, l3, l4, l5, l6, l7⟩ := kl.c8; have zl := kl.lt; have p0 := hS0.cell (qd.1) hbd; have p1 := hS0.cell (qd.2.1) hbd; have p2 := hS0.cell (qd.2.2.1) hbd; have p3 := hS0.cell (qd.2.2.2.1) hbd; have p4 := hS0.cell (qd.2.2.2.2.1) hbd; have p5 := hS0.cell (qd.2.2.2.2.2) hbd;go_simp; (try with_reducible rfl)
      (try simp only [cq])
      refine tkY 6 (some 58) ?_ ?_ ?_
      rotate_left
      · intro w hS0; (try dsimp only at hS0); have kl := hS0.blk jL (by omega); obtain ⟨l0, l1, l2, l3, l4, l5, l6, l7⟩ := kl.c8; have zl := kl.lt; have p0 := hS0.cell (qd.1) hbd; have p1 := hS0.cell (qd.2.1) hbd; have p2 := hS0.cell (qd.2.2.1) hbd; have p3 := hS0.cell (qd.2.2.2.1) hbd; have p4 := hS0.cell (qd.2.2.2.2.1) hbd; have p5 := hS0.cell (qd.2.2.2.2.2) hbd;go_simp; (try with_reducible rfl)
      (try simp only [cq])
      refine wpAnyH_ready (rs := [2]) (by kernel_rfl) (by simp) ?_
      refine arc1 (some 54) fun K hK => ?_
      obtain ⟨a0, a1, a2, a3⟩ := kT.c4
      have zT2 := kT.lt
      go_simp
      refine hK.out _ _ ?_ ?_
      · exact hH
      (try clear hH); (try clear hd)
      intro hH
      clear a0 a1 a2 a3 zT2
      clear hK K
      (try simp only [cq])
      refine wpAnyH_ready (rs := [7]) (by kernel_rfl) (by simp) ?_
      refine arc1 (some 59) fun K hK => ?_
      go_simp
      (refine (HAf.out _ hH).mono ?_; rintro e w' ⟨tb2, tw2, tq2, ts2, rfl, ht2, hd⟩; replace kT := hd.blk kT (by omega))
      refine hK.out _ _ ?_ ?_
      · (exact hH.trans hd)
      (try clear hH); (try clear hd)
      intro hH
      clear hK K
      (try simp only [cq])
      refine wpAnyH_ready (rs := [8]) (by kernel_rfl) (by simp) ?_
      refine arc1 none fun K hK => ?_
      obtain ⟨a0, a1, a2, a3⟩ := kT.c4
      have fr0 := kT.free 0
      have fr1 := kT.free 1
      have fr2 := kT.free 2
      have fr3 := kT.free 3
      have zT2 := kT.lt
      have HT4 := Lib.hid (kT.set4 (.int .i64 tb2) (.int .i64 tw2) (.int .i64 tq2) (.int .i64 ts2))
      go_simp
      refine hK.out _ _ ?_ ?_
      · exact hH.set4 zT hb7 _ _ _ _
      (try clear hH); (try clear hd)
      intro hH
      clear hK K
      (try simp only [cq])
      refine wpAnyH_done (by kernel_rfl) ?_ _
      (try dsimp only [Act.put])
      (try simp only [cq])
      have jT2 := HT4.out
      have hE2 := hH
      clear a0 a1 a2 a3 fr0 fr1 fr2 fr3 zT2 hH kT jT hE HAf
      go_upto_region 12 with fail
      generalize World.setCell _ _ _ = W2 at jT2 hE2 ⊢
      refine wp_region_held_drew (S := (fun w' => Below W2.heap.size W2 w')) (by kernel_rfl) ?_ (fun hH => ?_)
      · (try dsimp only); (exact (Below.refl _ _).drew)
      refine tkY 0 (some 60) ?_ ?_ ?_
      rotate_left
      · intro w hS0; (try dsimp only at hS0); have kt := jT2.call hS0; obtain ⟨q0, q1, q2, q3⟩ := kt.c4; have r0 := cell_later hS0 (hE2.cell (qa.1) hba); have r1 := cell_later hS0 (hE2.cell (qa.2.1) hba); have r2 := cell_later hS0 (hE2.cell (qa.2.2.1) hba); have r3 := cell_later hS0 (hE2.cell (qa.2.2.2.1) hba); have r4 := cell_later hS0 (hE2.cell (qa.2.2.2.2.1) hba); have r5 := cell_later hS0 (hE2.cell (qa.2.2.2.2.2.1) hba); have r6 := cell_later hS0 (hE2.cell (qa.2.2.2.2.2.2.1) hba); have r7 := cell_later hS0 (hE2.cell (qa.2.2.2.2.2.2.2) hba);go_simp; (try with_reducible rfl)
      (try simp only [cq])
      refine tkY 1 (some 61) ?_ ?_ ?_
      rotate_left
      · intro w _; go_simp; (try with_reducible rfl)
      (try simp only [cq])
      refine tkY 2 (some 62) ?_ ?_ ?_
      rotate_left
      · intro w _; go_simp; (try with_reducible rfl)
      (try simp only [cq])
      refine tkY 3 (some 63) ?_ ?_ ?_
      rotate_left
      · intro w hS0; (try dsimp only at hS0); have kt := jT2.call hS0; obtain ⟨q0, q1, q2, q3⟩ := kt.c4; have r0 := cell_later hS0 (hE2.cell (qa.1) hba); have r1 := cell_later hS0 (hE2.cell (qa.2.1) hba); have r2 := cell_later hS0 (hE2.cell (qa.2.2.1) hba); have r3 := cell_later hS0 (hE2.cell (qa.2.2.2.1) hba); have r4 := cell_later hS0 (hE2.cell (qa.2.2.2.2.1) hba); have r5 := cell_later hS0 (hE2.cell (qa.2.2.2.2.2.1) hba); have r6 := cell_later hS0 (hE2.cell (qa.2.2.2.2.2.2.1) hba); have r7 := cell_later hS0 (hE2.cell (qa.2.2.2.2.2.2.2) hba);go_simp; (try with_reducible rfl)
      (try simp only [cq])
      refine tkY 4 (some 64) ?_ ?_ ?_
      rotate_left
      · intro w hS0; (try dsimp only at hS0); have kt := jT2.call hS0; obtain ⟨q0, q1, q2, q3⟩ := kt.c4; have r0 := cell_later hS0 (hE2.cell (qa.1) hba); have r1 := cell_later hS0 (hE2.cell (qa.2.1) hba); have r2 := cell_later hS0 (hE2.cell (qa.2.2.1) hba); have r3 := cell_later hS0 (hE2.cell (qa.2.2.2.1) hba); have r4 := cell_later hS0 (hE2.cell (qa.2.2.2.2.1) hba); have r5 := cell_later hS0 (hE2.cell (qa.2.2.2.2.2.1) hba); have r6 := cell_later hS0 (hE2.cell (qa.2.2.2.2.2.2.1) hba); have r7 := cell_later hS0 (hE2.cell (qa.2.2.2.2.2.2.2) hba);go_simp; (try with_reducible rfl)
      (try simp only [cq])
      refine wpAnyH_ready (rs := [5]) (by kernel_rfl) (by simp) ?_
      refine arc1 (some 65) fun K hK => ?_
      go_simp
      (refine (kinice_yes tb2 tw2 tq2 ts2 z ht2 _).mono ?_; rintro e w' ⟨rfl, hb⟩)
      refine hK.out _ _ ?_ ?_
      · (exact bwS hH (Nat.le_refl _) hb)
      (try clear hH); (try clear hb)
      intro hH
      clear hK K
      (try simp only [cq])
      refine tkY 6 (some 66) ?_ ?_ ?_
      rotate_left
      · intro w _; go_simp; (try with_reducible rfl)
      (try simp only [cq])
      refine wpAnyH_done (by kernel_rfl) ?_ _
      (try dsimp only [Act.put])
      (try simp only [cq])
      have jT3 := jT2.call hH
      have hE3 := hE2.after hH
      go_wp2
      go_roundw
      case rel => exact ⟨k + 1, tb2, tw2, tq2, ts2, by omega, by go_num, by rw [HZ.out]; exact ht2, jT3, hE3⟩
      case measure => simp [intOf]; omega
    · obtain rfl : k = n := by omega
      clear jT ht KA KD HNn HBd HOk
      replace jL := hE.blk jL (by omega)
      replace jX := hE.blk jX (by omega)
      replace kC := kC.drawn hs7 hE
      have hA := HA.out.trans hE
      clear HA hE
      have q1 := fun W g1 => bearing_kit l (.slice va l.n vcap) x W hl g1 hx.val
      obtain ⟨u0, hu0⟩ : ∃ u, bearL x.b0 x.w0 l.h0 = u := ⟨_, rfl⟩
      obtain ⟨u1, hu1⟩ : ∃ u, bearH x.b1 x.w1 l.h1 = u := ⟨_, rfl⟩
      obtain ⟨so, hso⟩ : ∃ u, soundI x.q0 x.q1 = u := ⟨_, rfl⟩
      rw [hu0, hu1, hso] at q1
      have HU := Lib.hid (And.intro hu0 (And.intro hu1 hso))
      have Q1 := Lib.hid q1
      clear hu0 hu1 hso q1
      obtain ⟨l0, l1, l2, l3, l4, l5, l6, l7⟩ := jL.c8
      obtain ⟨x0, x1, x2, x3, x4, x5, x6, x7⟩ := jX.c8
      have zL := jL.lt
      have zX := jX.lt
      go_wp2_with fail
      clear l0 l1 l2 l3 l4 l5 l6 l7 x0 x1 x2 x3 x4 x5 x6 x7 zL zX
      refine (Q1.out _ kC).mono ?_
      rintro e w9 ⟨rfl, hb⟩
      clear Q1 kC
      replace jL := jL.call hb
      replace jX := jX.call hb
      replace hA := hA.after hb
      clear hb
      have jU := Blk.new w9 #[.int .i64 u0, .int .i64 u1] 24
      replace jL := jL.alloc (.cells #[.int .i64 u0, .int .i64 u1] 24)
      replace jX := jX.alloc (.cells #[.int .i64 u0, .int .i64 u1] 24)
      have zU : bs < w9.heap.size := hA.seed.choose_spec.lt
      replace hA := hA.new (.cells #[.int .i64 u0, .int .i64 u1] 24)
      obtain ⟨bU, hbU⟩ : ∃ b, w9.heap.size = b := ⟨_, rfl⟩
      go_upto_region 15 with fail
      rw [hbU] at jU zU
      (try rw [hbU])
      clear hbU
      generalize w9.alloc (.cells #[.int .i64 u0, .int .i64 u1] 24) = w10 at jL jX jU hA ⊢
      obtain ⟨x0, x1, x2, x3, x4, x5, x6, x7⟩ := jX.c8
      have zX := jX.lt
      go_wp2_with fail
      clear x0 x1 x2 x3 x4 x5 x6 x7 zX
      refine (trueice_in x bs _ hA.seed hx).mono ?_
      rintro e w11 ⟨ub, uw, uq, us, rfl, hu, hd⟩
      replace jL := hd.blk jL (by omega)
      replace jU := hd.blk jU (by omega)
      replace hA := hA.trans hd
      clear hd jX
      obtain ⟨t1, t2, t3, t4, t5, t6, t7, t8⟩ := id hu
      obtain ⟨⟨b1, b2, b3⟩, ⟨b4, b5, b6⟩, ⟨b7, b8, b9⟩, _⟩ := id hx
      have k0 := hl.ok.h0
      have k1 := hl.ok.h1
      have k2 := hl.ok.h2
      obtain ⟨f1, f2, f3, f4, _, _⟩ := share_facts uw l.h0 (by omega) (by omega) k0 (by omega)
      obtain ⟨f5, f6, _, _, f7, f8⟩ := share_facts uw l.h1 (by omega) (by omega) (by omega) k2
      have HDn := Lib.hid (show ∀ W, Calls Try.prog 35 #[.int .i64 uw, .int .i64 l.h0] W fun e w' => e = .returned (.int .i64 (gotL uw l.h0)) ∧ Below W.heap.size W w' from fun W => rdown_b uw l.h0 W f1 (by omega))
      have HUp := Lib.hid (show ∀ W, Calls Try.prog 36 #[.int .i64 uw, .int .i64 l.h1] W fun e w' => e = .returned (.int .i64 (gotH uw l.h1)) ∧ Below W.heap.size W w' from fun W => rup_b uw l.h1 W f5 (by omega))
      have hlo : u0 ≤ ub + gotL uw l.h0 := by
        have g := gotL_mono b4 t3 k0 (Int.le_refl l.h0)
        have q := HU.out.1
        unfold bearL at q
        omega
      have hhi : ub + gotH uw l.h1 ≤ u1 := by
        have g := gotH_mono (by omega) t4 (show 0 ≤ l.h1 by omega) (Int.le_refl l.h1)
        have q := HU.out.2.1
        unfold bearH at q
        omega
      have hsc : (so = 1 ∧ uq = 0) ∨ (so = 2 ∧ 0 < uq) ∨ so = 3 := by
        have q := HU.out.2.2
        unfold soundI at q
        split at q
        · exact .inl ⟨q.symm, by omega⟩
        · split at q
          · exact .inr (.inl ⟨q.symm, by omega⟩)
          · exact .inr (.inr q.symm)
      generalize gotL uw l.h0 = g0 at HDn hlo f3 f4
      generalize gotH uw l.h1 = g1 at HUp hhi f7 f8
      have e1 : IntKind.i64.wrap (ub + g0) = ub + g0 := IntWalk.i64_in _ (by omega)
      have e2 : IntKind.i64.wrap (ub + g1) = ub + g1 := IntWalk.i64_in _ (by omega)
      have HSc := Lib.hid hsc
      clear hsc f1 f2 f3 f4 f5 f6 f7 f8 t1 t2 t3 t4 t5 t6 t7 t8 b1 b2 b3 b4 b5 b6 b7 b8 b9 k0 k1 k2 hu HU
      have jV := Blk.new w11 #[.int .i64 ub, .int .i64 uw, .int .i64 uq, .int .i64 us] 57
      replace jL := jL.alloc (.cells #[.int .i64 ub, .int .i64 uw, .int .i64 uq, .int .i64 us] 57)
      replace jU := jU.alloc (.cells #[.int .i64 ub, .int .i64 uw, .int .i64 uq, .int .i64 us] 57)
      replace hA := hA.new (.cells #[.int .i64 ub, .int .i64 uw, .int .i64 uq, .int .i64 us] 57)
      obtain ⟨bV, hbV⟩ : ∃ b, w11.heap.size = b := ⟨_, rfl⟩
      go_upto_region 16 with fail
      rw [hbV] at jV
      (try rw [hbV])
      clear hbV
      generalize w11.alloc (.cells #[.int .i64 ub, .int .i64 uw, .int .i64 uq, .int .i64 us] 57) = w12 at jL jU jV hA ⊢
      refine wp_region_held_drew (S := (fun w' => Below w12.heap.size w12 w')) (by kernel_rfl) ?_ (fun hH => ?_)
      · (try dsimp only); (exact (Below.refl _ _).drew)
      refine tkY 0 (some 77) ?_ ?_ ?_
      rotate_left
      · intro w hS0; (try dsimp only at hS0); have kv := jV.call hS0; obtain ⟨q0, q1, q2, q3⟩ := kv.c4; have kl := jL.call hS0; obtain ⟨l0, l1, l2, l3, l4, l5, l6, l7⟩ := kl.c8; have zl := kl.lt; have zv := kv.lt;go_simp; (try with_reducible rfl)
      (try simp only [cq])
      refine tkY 1 (some 78) ?_ ?_ ?_
      rotate_left
      · intro w hS0; (try dsimp only at hS0); have kv := jV.call hS0; obtain ⟨q0, q1, q2, q3⟩ := kv.c4; have kl := jL.call hS0; obtain ⟨l0, l1, l2, l3, l4, l5, l6, l7⟩ := kl.c8; have zl := kl.lt; have zv := kv.lt;go_simp; (try with_reducible rfl)
      (try simp only [cq])
      refine tkY 2 (some 79) ?_ ?_ ?_
      rotate_left
      · intro w hS0; (try dsimp only at hS0); have kv := jV.call hS0; obtain ⟨q0, q1, q2, q3⟩ := kv.c4; have kl := jL.call hS0; obtain ⟨l0, l1, l2, l3, l4, l5, l6, l7⟩ := kl.c8; have zl := kl.lt; have zv := kv.lt;go_simp; (try with_reducible rfl)
      (try simp only [cq])
      refine tkY 3 (some 80) ?_ ?_ ?_
      rotate_left
      · intro w hS0; (try dsimp only at hS0); have kv := jV.call hS0; obtain ⟨q0, q1, q2, q3⟩ := kv.c4; have kl := jL.call hS0; obtain ⟨l0, l1, l2, l3, l4, l5, l6, l7⟩ := kl.c8; have zl := kl.lt; have zv := kv.lt;go_simp; (try with_reducible rfl)
      (try simp only [cq])
      refine tkY 4 (some 81) ?_ ?_ ?_
      rotate_left
      · intro w hS0; (try dsimp only at hS0); have kv := jV.call hS0; obtain ⟨q0, q1, q2, q3⟩ := kv.c4; have kl := jL.call hS0; obtain ⟨l0, l1, l2, l3, l4, l5, l6, l7⟩ := kl.c8; have zl := kl.lt; have zv := kv.lt;go_simp; (try with_reducible rfl)
      (try simp only [cq])
      refine tkY 5 (some 82) ?_ ?_ ?_
      rotate_left
      · intro w hS0; (try dsimp only at hS0); have kv := jV.call hS0; obtain ⟨q0, q1, q2, q3⟩ := kv.c4; have kl := jL.call hS0; obtain ⟨l0, l1, l2, l3, l4, l5, l6, l7⟩ := kl.c8; have zl := kl.lt; have zv := kv.lt;go_simp; (try with_reducible rfl)
      (try simp only [cq])
      refine tkY 6 (some 83) ?_ ?_ ?_
      rotate_left
      · intro w hS0; (try dsimp only at hS0); have kv := jV.call hS0; obtain ⟨q0, q1, q2, q3⟩ := kv.c4; have kl := jL.call hS0; obtain ⟨l0, l1, l2, l3, l4, l5, l6, l7⟩ := kl.c8; have zl := kl.lt; have zv := kv.lt;go_simp; (try with_reducible rfl)
      (try simp only [cq])
      refine tkY 9 (some 86) ?_ ?_ ?_
      rotate_left
      · intro w hS0; (try dsimp only at hS0); have kv := jV.call hS0; obtain ⟨q0, q1, q2, q3⟩ := kv.c4; have kl := jL.call hS0; obtain ⟨l0, l1, l2, l3, l4, l5, l6, l7⟩ := kl.c8; have zl := kl.lt; have zv := kv.lt;go_simp; (try with_reducible rfl)
      (try simp only [cq])
      refine tkY 10 (some 87) ?_ ?_ ?_
      rotate_left
      · intro w hS0; (try dsimp only at hS0); have kv := jV.call hS0; obtain ⟨q0, q1, q2, q3⟩ := kv.c4; have kl := jL.call hS0; obtain ⟨l0, l1, l2, l3, l4, l5, l6, l7⟩ := kl.c8; have zl := kl.lt; have zv := kv.lt;go_simp; (try with_reducible rfl)
      (try simp only [cq])
      refine tkY 11 (some 88) ?_ ?_ ?_
      rotate_left
      · intro w hS0; (try dsimp only at hS0); have kv := jV.call hS0; obtain ⟨q0, q1, q2, q3⟩ := kv.c4; have kl := jL.call hS0; obtain ⟨l0, l1, l2, l3, l4, l5, l6, l7⟩ := kl.c8; have zl := kl.lt; have zv := kv.lt;go_simp; (try with_reducible rfl)
      (try simp only [cq])
      refine tkY 12 (some 89) ?_ ?_ ?_
      rotate_left
      · intro w hS0; (try dsimp only at hS0); have kv := jV.call hS0; obtain ⟨q0, q1, q2, q3⟩ := kv.c4; have kl := jL.call hS0; obtain ⟨l0, l1, l2, l3, l4, l5, l6, l7⟩ := kl.c8; have zl := kl.lt; have zv := kv.lt;go_simp; (try with_reducible rfl)
      (try simp only [cq])
      refine tkY 13 (some 90) ?_ ?_ ?_
      rotate_left
      · intro w hS0; (try dsimp only at hS0); have kv := jV.call hS0; obtain ⟨q0, q1, q2, q3⟩ := kv.c4; have kl := jL.call hS0; obtain ⟨l0, l1, l2, l3, l4, l5, l6, l7⟩ := kl.c8; have zl := kl.lt; have zv := kv.lt;go_simp; (try with_reducible rfl)
      (try simp only [cq])
      refine tkY 14 (some 91) ?_ ?_ ?_
      rotate_left
      · intro w hS0; (try dsimp only at hS0); have kv := jV.call hS0; obtain ⟨q0, q1, q2, q3⟩ := kv.c4; have kl := jL.call hS0; obtain ⟨l0, l1, l2, l3, l4, l5, l6, l7⟩ := kl.c8; have zl := kl.lt; have zv := kv.lt;go_simp; (try with_reducible rfl)
      (try simp only [cq])
      refine tkY 15 (some 92) ?_ ?_ ?_
      rotate_left
      · intro w hS0; (try dsimp only at hS0); have kv := jV.call hS0; obtain ⟨q0, q1, q2, q3⟩ := kv.c4; have kl := jL.call hS0; obtain ⟨l0, l1, l2, l3, l4, l5, l6, l7⟩ := kl.c8; have zl := kl.lt; have zv := kv.lt;go_simp; (try with_reducible rfl)
      (try simp only [cq])
      refine wpAnyH_ready (rs := [7]) (by kernel_rfl) (by simp) ?_
      refine arc1 (some 84) fun K hK => ?_
      go_simp
      (refine (HDn.out _).mono ?_; rintro e w' ⟨rfl, hb⟩)
      refine hK.out _ _ ?_ ?_
      · (exact bwS hH (Nat.le_refl _) hb)
      (try clear hH); (try clear hb)
      intro hH
      clear hK K
      (try simp only [cq])
      refine tkY 8 (some 85) ?_ ?_ ?_
      rotate_left
      · intro w _; go_simp; (try with_reducible rfl)
      (try simp only [cq])
      refine wpAnyH_ready (rs := [16]) (by kernel_rfl) (by simp) ?_
      refine arc1 (some 93) fun K hK => ?_
      go_simp
      (refine (HUp.out _).mono ?_; rintro e w' ⟨rfl, hb⟩)
      refine hK.out _ _ ?_ ?_
      · (exact bwS hH (Nat.le_refl _) hb)
      (try clear hH); (try clear hb)
      intro hH
      clear hK K
      (try simp only [cq])
      refine tkY 17 (some 94) ?_ ?_ ?_
      rotate_left
      · intro w _; go_simp; (try with_reducible rfl)
      (try simp only [cq])
      refine tkY 18 (some 15) ?_ ?_ ?_
      rotate_left
      · intro w _; go_simp; (try with_reducible rfl)
      (try simp only [cq])
      refine tkY 19 (some 16) ?_ ?_ ?_
      rotate_left
      · intro w _; go_simp; (try with_reducible rfl)
      (try simp only [cq])
      refine wpAnyH_done (by kernel_rfl) ?_ _
      (try dsimp only [Act.put])
      (try simp only [cq])
      replace jU := jU.call hH
      replace jV := jV.call hH
      replace hA := hA.after hH
      clear hH jL e1 e2
      obtain ⟨u00, u01⟩ := jU.c2
      obtain ⟨q0, q1, q2, q3⟩ := jV.c4
      have zU2 := jU.lt
      have zV2 := jV.lt
      rcases HSc.out with ⟨rfl, rfl⟩ | ⟨rfl, hq⟩ | rfl
      · go_wp2_with fail
        refine (awake_any _).mono ?_
        rintro e w14 ⟨rfl, hb⟩
        replace hA := hA.after hb
        go_wp2
        go_ret
        exact ⟨rfl, Drawn.below HB.out.2 hA HB.out.1⟩
      · go_wp2_with fail
        refine (awake_any _).mono ?_
        rintro e w14 ⟨rfl, hb⟩
        replace hA := hA.after hb
        go_wp2
        go_ret
        exact ⟨rfl, Drawn.below HB.out.2 hA HB.out.1⟩
      · go_wp2_with fail
        refine (awake_any _).mono ?_
        rintro e w14 ⟨rfl, hb⟩
        replace hA := hA.after hb
        go_wp2
        go_ret
        exact ⟨rfl, Drawn.below HB.out.2 hA HB.out.1⟩
end Go.Proofs.Ytkldjaofgdklbaa
