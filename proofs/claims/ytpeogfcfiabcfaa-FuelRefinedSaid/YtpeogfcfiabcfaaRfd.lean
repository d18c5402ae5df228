/-
  FuelRefined: a book that was refined, and refined again.
-/
import Derived.Test.YtpeogfcfiabcfaaTail
import Derived.Test.YtpeogfcfiabcfaaExa
import Derived.Test.YtpeogfcfiabcfaaSam
set_option linter.unusedVariables false
set_option linter.unusedSimpArgs false
namespace Go.Proofs.Ytpeogfcfiabcfaa
open Go.RowKit

theorem BkUp.mv0 {n m : Nat} {A : Nat → Ac} {M : Nat → Mv} {O C X : Nat → Int} (h : BkUp n m A M O C X) : ∀ i, i < m → 0 ≤ (M i).fr ∧ 0 ≤ (M i).tt := fun i hi => by have := h.mv.ok i hi; omega
theorem rfA_full (KA KB : Nat → Int) (A : Nat → Ac) (i : Nat) (h : i < 8) : rfA KA KB A 46 i = ⟨(A i).nm, (A i).ki, KA (2 * i), KB (2 * i), KA (2 * i + 1), KB (2 * i + 1)⟩ := by
  unfold rfA
  simp only [if_pos (show 2 * i < 46 by omega), if_pos (show 2 * i + 1 < 46 by omega)]
theorem rfM_full (KA KB : Nat → Int) (P : Nat) (M : Nat → Mv) (i : Nat) (h : P + i < 46) : rfM KA KB P M 46 i = ⟨(M i).fr, (M i).tt, KA (P + i), KB (P + i)⟩ := by
  unfold rfM
  simp only [if_pos h]
set_option maxRecDepth 100000 in
set_option maxHeartbeats 16000000 in
theorem refined_any (a0 : Option Addr) (n0 c0 : Nat) (w : World) (hN : NumsAt w a0 n0) :
    Calls Try.prog 11 #[.slice a0 n0 c0] w fun e w' => e = .returned (.bool true) ∧ Below w.heap.size w w' := by
  have HAw := Lib.hid (fun (W : World) => awake_any W)
  go_enter Try.func11, Try.ntmps11
  go_wp2_with fail
  refine (newseed_at a0 n0 c0 _ hN).mono ?_
  rintro e w1 ⟨rfl, hS, hb⟩
  obtain ⟨bs, hbs⟩ : ∃ x, w.heap.size = x := ⟨_, rfl⟩
  have zs1 : bs < w1.heap.size := by have := hS.choose_spec.lt; omega
  have HB := Lib.hid (fun (W : World) (h : Drawn bs w1 W) => (show Below w.heap.size w W from Drawn.below hb h (by omega)))
  rw [hbs] at hS ⊢
  clear hb hN
  have k3 := Blk.new w1 #[.int .i64 10, .int .i64 500] 3
  have hD := Drawn.alloc hS (.cells #[.int .i64 10, .int .i64 500] 3)
  go_wp2_with fail
  refine (of_in w1.heap.size 0 2 2 (fun i => [10, 500].getD i 0) bs _ hD.seed (by omega) (by omega) (by omega) (cells2 k3)).mono ?_
  rintro e w2 ⟨i, hi, rfl, hd⟩
  obtain ⟨L, hL9⟩ : ∃ z : Int, [10, 500].getD i 0 = z := ⟨_, rfl⟩
  have hL : 0 ≤ L ∧ L ≤ 1000000 := by
    rw [← hL9]
    obtain rfl | rfl : i = 0 ∨ i = 1 := by omega
    all_goals decide
  rw [hL9]
  replace hD := hD.trans hd
  clear hL9 hi hd k3
  have k3 := Blk.new w2 #[.int .i64 1, .int .i64 5, .int .i64 50] 3
  have zq : bs < w2.heap.size := hD.seed.choose_spec.lt
  replace hD := hD.new (.cells #[.int .i64 1, .int .i64 5, .int .i64 50] 3)
  go_wp2_with fail
  refine (of_in w2.heap.size 0 3 3 (fun i => [1, 5, 50].getD i 0) bs _ hD.seed (by omega) (by omega) (by omega) (cells3 k3)).mono ?_
  rintro e w3 ⟨i, hi, rfl, hd⟩
  obtain ⟨wd, hw9⟩ : ∃ z : Int, [1, 5, 50].getD i 0 = z := ⟨_, rfl⟩
  have hw : 0 ≤ wd ∧ wd ≤ 1000 := by
    rw [← hw9]
    obtain rfl | rfl | rfl : i = 0 ∨ i = 1 ∨ i = 2 := by omega
    all_goals decide
  rw [hw9]
  replace hD := hD.trans hd
  clear hw9 hi hd k3 zq
  go_wp2_with fail
  refine (bookof_in 6 8 L wd bs _ hD.seed (by omega) (by omega) hL hw).mono ?_
  rintro e w4 ⟨n, m, A, M, O, C, X, vA, vM, vO, vC, vX, rfl, -, hU, ⟨rA, rM, rO, rC, rX⟩, hd⟩
  replace hD := hD.trans hd
  clear hd hL hw hS
  have jB := HB.out _ hD
  clear HB hD
  obtain ⟨aA, cA, rfl, -, -, -⟩ := row_at rA (by omega)
  obtain ⟨aM, cM, rfl, -, -, -⟩ := row_at rM (by omega)
  obtain ⟨aO, cO, rfl, -, -, -⟩ := row_at rO (by omega)
  obtain ⟨aC, cC, rfl, -, -, -⟩ := row_at rC (by omega)
  obtain ⟨aX, cX, rfl, -, -, -⟩ := row_at rX (by omega)
  have HF := Lib.hid (fun (W : World) (h : Below w4.heap.size w4 W) => (show AcsAt W (.slice aA n cA) n A ∧ MvsAt W (.slice aM m cM) m M from
    ⟨(lat_of_row rA (by omega) (fun _ _ => rfl)).later h, (lat_of_row rM (by omega) (fun _ _ => rfl)).later h⟩))
  clear rA rM rO rC rX
  have HU := Lib.hid hU
  clear hU
  have k4 := (Blk.new w4 #[.slice aA n cA, .slice aM m cM] 44).alloc (.cells #[.slice aO n cO, .slice aC n cC, .slice aX m cX] 46)
  have hB4 : Below w4.heap.size w4 ((w4.alloc (.cells #[.slice aA n cA, .slice aM m cM] 44)).alloc (.cells #[.slice aO n cO, .slice aC n cC, .slice aX m cX] 46)) := by (repeat (first | exact Below.refl _ _ | assumption | refine Below.drew ?_ | refine Below.drewN ?_ _ | refine blT ?_ | refine blU ?_))
  go_upto_region 3 with fail
  obtain ⟨V, hV⟩ : ∃ V, Blk.wld k4 = V := ⟨_, rfl⟩
  simp only [Blk.wld] at hV
  rw [hV] at k4 hB4 ⊢
  clear hV
  obtain ⟨b4, hb4⟩ : ∃ b, w4.heap.size = b := ⟨_, rfl⟩
  have z4 := hB4.size
  have HV := Lib.hid (fun (W : World) (h : Below V.heap.size V W) => And.intro (k4.call h) (HF.out W (hB4.trans (h.mono z4))))
  have HW := Lib.hid (fun (W : World) (h : Below V.heap.size V W) => (show Below w.heap.size w W from (jB.trans (hB4.mono jB.size)).trans (h.mono (by have := jB.size; omega))))
  rw [hb4] at k4 HV ⊢
  clear k4 hB4 HF jB z4 hb4
  obtain ⟨KA, hKA⟩ : ∃ K, (knA (flE n A m M) (flN n m) (2 ^ (n + 1))).1 = K := ⟨_, rfl⟩
  obtain ⟨KB, hKB⟩ : ∃ K, (knA (flE n A m M) (flN n m) (2 ^ (n + 1))).2 = K := ⟨_, rfl⟩
  obtain ⟨LA, hLA⟩ : ∃ K, (knA (flE n (rfA KA KB A 46) m (rfM KA KB (2 * n) M 46)) (flN n m) (2 ^ (n + 1))).1 = K := ⟨_, rfl⟩
  obtain ⟨LB, hLB⟩ : ∃ K, (knA (flE n (rfA KA KB A 46) m (rfM KA KB (2 * n) M 46)) (flN n m) (2 ^ (n + 1))).2 = K := ⟨_, rfl⟩
  have HR := Lib.hid (HU.out.refined hKA hKB)
  have HI := Lib.hid (HU.out.within hKA hKB)
  have HE := Lib.hid (fun j (hj : j < flN n m) => (show LA j = KA j ∧ LB j = KB j by rw [← hLA, ← hLB]; exact HU.out.again hKA hKB j hj))
  have H1 := Lib.hid (fun (W : World) (h : Below V.heap.size V W) => refine_ok n A m M (.slice aA n cA) (.slice aM m cM) W HU.out.n1 HU.out.n8 HU.out.m30 HU.out.mv0 (HV.out W h).2.1 (HV.out W h).2.2 HU.out.names HU.out.rows HU.out.flok (HU.out.cut _) KA KB hKA hKB)
  have H2 := Lib.hid (fun (W : World) (vA vM : Value) (hA : AcsAt W vA n (rfA KA KB A 46)) (hM : MvsAt W vM m (rfM KA KB (2 * n) M 46)) => refine_ok n (rfA KA KB A 46) m (rfM KA KB (2 * n) M 46) vA vM W HU.out.n1 HU.out.n8 HU.out.m30 HR.out.mv0 hA hM HR.out.names HR.out.rows HR.out.flok (HR.out.cut _) LA LB hLA hLB)
  have H3 := Lib.hid (fun (W : World) (h : Below V.heap.size V W) => losses_ok n A m M (.slice aA n cA) (.slice aM m cM) W HU.out.n8 HU.out.m30 HU.out.mv0 (HV.out W h).2.1 (HV.out W h).2.2 HU.out.names HU.out.rows HU.out.flok (HU.out.cut _) KA KB hKA hKB)
  have H4 := Lib.hid (fun (W : World) (vA vM : Value) (hA : AcsAt W vA n (rfA KA KB A 46)) (hM : MvsAt W vM m (rfM KA KB (2 * n) M 46)) => losses_ok n (rfA KA KB A 46) m (rfM KA KB (2 * n) M 46) vA vM W HU.out.n8 HU.out.m30 HR.out.mv0 hA hM HR.out.names HR.out.rows HR.out.flok (HR.out.cut _) LA LB hLA hLB)
  have hn8 := HU.out.n8
  have hm30 := HU.out.m30
  have hn1 := HU.out.n1
  clear hKA hKB hLA hLB HU HR
  have hB0 := Below.refl V.heap.size V
  obtain ⟨k4, -⟩ := HV.out _ hB0
  obtain ⟨p0, p1⟩ := k4.c2
  go_wp2_with fail
  clear p0 p1 k4
  refine (H1.out _ hB0).mono ?_
  rintro e w5 ⟨vf, uf, rfl, rf, rg, hb⟩
  obtain ⟨af, cf, rfl, -, -, -⟩ := row_at rf (by omega)
  obtain ⟨ag, cg, rfl, -, -, -⟩ := row_at rg (by omega)
  have gf := lat_of_row rf (by omega) (fun _ _ => rfl)
  have gg := lat_of_row rg (by omega) (fun _ _ => rfl)
  replace hB0 := hb
  clear hb rf rg H1
  have k6 := Blk.new w5 #[.slice af n cf, .slice ag m cg] 44
  have hn6 : Below w5.heap.size w5 (w5.alloc (.cells #[.slice af n cf, .slice ag m cg] 44)) := by (repeat (first | exact Below.refl _ _ | assumption | refine Below.drew ?_ | refine Below.drewN ?_ _ | refine blT ?_ | refine blU ?_))
  replace gf := gf.later hn6
  replace gg := gg.later hn6
  replace hB0 := hB0.trans (hn6.mono hB0.size)
  clear hn6
  obtain ⟨p0, p1⟩ := k6.c2
  go_wp2_with fail
  clear p0 p1
  obtain ⟨V1, hV⟩ : ∃ V, Blk.wld k6 = V := ⟨_, rfl⟩
  simp only [Blk.wld] at hV
  rw [hV] at k6 gf gg hB0 ⊢
  clear hV
  obtain ⟨b6, hb9⟩ : ∃ b, w5.heap.size = b := ⟨_, rfl⟩
  rw [hb9] at k6 ⊢
  clear hb9
  refine (H2.out _ _ _ gf gg).mono ?_
  rintro e w6 ⟨vp, uq, rfl, rp, rq, hb⟩
  obtain ⟨ap, cp, rfl, -, -, -⟩ := row_at rp (by omega)
  obtain ⟨aq, ce9, rfl, -, -, -⟩ := row_at rq (by omega)
  have gp := lat_of_row rp (by omega) (fun _ _ => rfl)
  have gq := lat_of_row rq (by omega) (fun _ _ => rfl)
  replace gf := gf.later hb
  replace gg := gg.later hb
  replace k6 := k6.call hb
  replace hB0 := hB0.trans (hb.mono hB0.size)
  clear hb rp rq H2
  have k8 := Blk.new w6 #[.slice ap n cp, .slice aq m ce9] 44
  have hn6 : Below w6.heap.size w6 (w6.alloc (.cells #[.slice ap n cp, .slice aq m ce9] 44)) := by (repeat (first | exact Below.refl _ _ | assumption | refine Below.drew ?_ | refine Below.drewN ?_ _ | refine blT ?_ | refine blU ?_))
  replace gf := gf.later hn6
  replace gg := gg.later hn6
  replace gp := gp.later hn6
  replace gq := gq.later hn6
  replace k6 := k6.call hn6
  replace hB0 := hB0.trans (hn6.mono hB0.size)
  clear hn6
  obtain ⟨k4, -⟩ := HV.out _ hB0
  obtain ⟨p0, p1⟩ := k4.c2
  go_wp2_with fail
  clear p0 p1 k4
  obtain ⟨V2, hV⟩ : ∃ V, Blk.wld k8 = V := ⟨_, rfl⟩
  simp only [Blk.wld] at hV
  rw [hV] at k6 k8 gf gg gp gq hB0 ⊢
  clear hV
  obtain ⟨b8, hb9⟩ : ∃ b, w6.heap.size = b := ⟨_, rfl⟩
  rw [hb9] at k8 ⊢
  clear hb9
  refine (H3.out _ hB0).mono ?_
  rintro e w7 ⟨vl, rfl, rl, hb⟩
  obtain ⟨al, cl, rfl, -, -, -⟩ := row_at rl (by omega)
  have gl := lat_of_row rl (by omega) (fun _ _ => rfl)
  replace gf := gf.later hb
  replace gg := gg.later hb
  replace gp := gp.later hb
  replace gq := gq.later hb
  replace k6 := k6.call hb
  replace k8 := k8.call hb
  replace hB0 := hB0.trans (hb.mono hB0.size)
  clear hb rl H3
  obtain ⟨g0, hg0⟩ : ∃ z, KA (2 * n + m + n) = z := ⟨_, rfl⟩
  obtain ⟨g1, hg1⟩ : ∃ z, KB (2 * n + m + n) = z := ⟨_, rfl⟩
  rw [hg0, hg1]
  have k11 := Blk.new w7 #[.int .i64 g0, .int .i64 g1] 26
  have hn6 : Below w7.heap.size w7 (w7.alloc (.cells #[.int .i64 g0, .int .i64 g1] 26)) := by (repeat (first | exact Below.refl _ _ | assumption | refine Below.drew ?_ | refine Below.drewN ?_ _ | refine blT ?_ | refine blU ?_))
  replace gf := gf.later hn6
  replace gg := gg.later hn6
  replace gp := gp.later hn6
  replace gq := gq.later hn6
  replace gl := gl.later hn6
  replace k6 := k6.call hn6
  replace k8 := k8.call hn6
  replace hB0 := hB0.trans (hn6.mono hB0.size)
  clear hn6
  obtain ⟨p0, p1⟩ := k6.c2
  go_wp2_with fail
  clear p0 p1
  obtain ⟨V3, hV⟩ : ∃ V, Blk.wld k11 = V := ⟨_, rfl⟩
  simp only [Blk.wld] at hV
  rw [hV] at k6 k8 k11 gf gg gp gq gl hB0 ⊢
  clear hV
  obtain ⟨b11, hb9⟩ : ∃ b, w7.heap.size = b := ⟨_, rfl⟩
  rw [hb9] at k11 ⊢
  clear hb9
  refine (H4.out _ _ _ gf gg).mono ?_
  rintro e w8 ⟨vr, rfl, rr, hb⟩
  obtain ⟨ar, cr, rfl, -, -, -⟩ := row_at rr (by omega)
  have gr := lat_of_row rr (by omega) (fun _ _ => rfl)
  replace gf := gf.later hb
  replace gg := gg.later hb
  replace gp := gp.later hb
  replace gq := gq.later hb
  replace gl := gl.later hb
  replace k6 := k6.call hb
  replace k8 := k8.call hb
  replace k11 := k11.call hb
  replace hB0 := hB0.trans (hb.mono hB0.size)
  clear hb rr H4
  obtain ⟨e0, e1⟩ := HE.out (2 * n + m + n) (by unfold flN; omega)
  rw [e0, e1, hg0, hg1]
  clear e0 e1 hg0 hg1
  have k14 := Blk.new w8 #[.int .i64 g0, .int .i64 g1] 26
  have hn6 : Below w8.heap.size w8 (w8.alloc (.cells #[.int .i64 g0, .int .i64 g1] 26)) := by (repeat (first | exact Below.refl _ _ | assumption | refine Below.drew ?_ | refine Below.drewN ?_ _ | refine blT ?_ | refine blU ?_))
  replace gf := gf.later hn6
  replace gg := gg.later hn6
  replace gp := gp.later hn6
  replace gq := gq.later hn6
  replace gl := gl.later hn6
  replace gr := gr.later hn6
  replace k6 := k6.call hn6
  replace k8 := k8.call hn6
  replace k11 := k11.call hn6
  replace hB0 := hB0.trans (hn6.mono hB0.size)
  clear hn6
  have HQ := Lib.hid (fun (W : World) (h : Below (w8.alloc (.cells #[.int .i64 g0, .int .i64 g1] 26)).heap.size (w8.alloc (.cells #[.int .i64 g0, .int .i64 g1] 26)) W) => (show (Blk W b4 #[.slice aA n cA, .slice aM m cM] 44 ∧ Blk W b6 #[.slice af n cf, .slice ag m cg] 44 ∧ Blk W b8 #[.slice ap n cp, .slice aq m ce9] 44 ∧ Blk W b11 #[.int .i64 g0, .int .i64 g1] 26 ∧ Blk W w8.heap.size #[.int .i64 g0, .int .i64 g1] 26) ∧ (AcsAt W (.slice aA n cA) n A ∧ MvsAt W (.slice aM m cM) m M) ∧ (AcsAt W (.slice af n cf) n (rfA KA KB A 46) ∧ MvsAt W (.slice ag m cg) m (rfM KA KB (2 * n) M 46)) ∧ (AcsAt W (.slice ap n cp) n (rfA LA LB (rfA KA KB A 46) 46) ∧ MvsAt W (.slice aq m ce9) m (rfM LA LB (2 * n) (rfM KA KB (2 * n) M 46) 46)) ∧ SpansAt W (.slice al n cl) n (fun i => KA (2 * n + m + i)) (fun i => KB (2 * n + m + i)) ∧ SpansAt W (.slice ar n cr) n (fun i => LA (2 * n + m + i)) (fun i => LB (2 * n + m + i)) from
    have q := HV.out W (hB0.trans (h.mono hB0.size))
    ⟨⟨q.1, k6.call h, k8.call h, k11.call h, k14.call h⟩, q.2, ⟨gf.later h, gg.later h⟩, ⟨gp.later h, gq.later h⟩, gl.later h, gr.later h⟩))
  have HW7 := Lib.hid (fun (W : World) (h : Below (w8.alloc (.cells #[.int .i64 g0, .int .i64 g1] 26)).heap.size (w8.alloc (.cells #[.int .i64 g0, .int .i64 g1] 26)) W) => HW.out W (hB0.trans (h.mono hB0.size)))
  have hB := Below.refl (w8.alloc (.cells #[.int .i64 g0, .int .i64 g1] 26)).heap.size (w8.alloc (.cells #[.int .i64 g0, .int .i64 g1] 26))
  clear gf gg gp gq gl gr HV HW hB0
  go_upto_region 7 with fail
  clear k6 k8 k11
  obtain ⟨V4, hV⟩ : ∃ V, Blk.wld k14 = V := ⟨_, rfl⟩
  simp only [Blk.wld] at hV
  rw [hV] at HQ HW7 hB k14 ⊢
  clear hV
  obtain ⟨b14, hb9⟩ : ∃ b, w8.heap.size = b := ⟨_, rfl⟩
  rw [hb9] at HQ ⊢
  clear hb9 k14
  obtain ⟨⟨k4, k6, -⟩, -⟩ := HQ.out _ hB
  obtain ⟨p0, p1⟩ := k6.c2
  obtain ⟨p2, p3⟩ := k4.c2
  have q0 : ((0 : Int) != 0) = false := by decide
  go_wp2_with fail
  clear p0 p1 p2 p3 q0 k4 k6
  obtain ⟨-, ⟨hA, hM⟩, ⟨hf, hg⟩, -⟩ := HQ.out _ hB
  refine (shaped_yes n m _ _ _ _ _ _ _ _ _ hf hg hA hM).mono ?_
  rintro e w9 ⟨rfl, hb⟩
  replace hB := hB.trans (hb.mono hB.size)
  clear hb hA hM hf hg
  obtain ⟨⟨k4, k6, -⟩, -⟩ := HQ.out _ hB
  obtain ⟨p0, p1⟩ := k4.c2
  go_wp2_with fail
  clear p0 p1 k4 k6
  go_loopw [16] (fun i wr => ∃ k : Nat, k ≤ n ∧ i = .int .i64 k ∧ Below V4.heap.size V4 wr) (fun i _ => n - (intOf i).toNat)
  case atStart => exact ⟨0, by omega, rfl, hB⟩
  case round =>
    clear hB
    obtain ⟨k, hkn, rfl, hB⟩ := hrel
    obtain ⟨⟨k4, k6, -⟩, ⟨hA, -⟩, ⟨hf, -⟩, -⟩ := HQ.out _ hB
    obtain ⟨p0, p1⟩ := k4.c2
    have yB := k4.lt
    by_cases hlt : k < n
    · have hltI : (k : Int) < n := by omega
      have hn0 : 0 < n := by omega
      obtain ⟨z1, -, bA, oA, rfl⟩ := hA.addr hn0
      obtain ⟨z2, -, bf, of, rfl⟩ := hf.addr hn0
      clear k4 k6 hA hf
      go_upto_region 12 with fail
      clear p0 p1 yB
      have hin := HI.out.1 k hlt
      have HC := Lib.hid (fun (W : World) (h : Below V4.heap.size V4 W) => And.intro (HQ.out W h).1.1 (And.intro (HQ.out W h).1.2.1 (And.intro (AtC.c6 (LAt.at (HQ.out W h).2.1.1 hn0) hlt rfl) (AtC.c6 (LAt.at (HQ.out W h).2.2.1.1 hn0) hlt (show acC (rfA KA KB A 46) k = [.string (A k).nm, .int .i64 (A k).ki, .int .i64 (KA (2 * k)), .int .i64 (KB (2 * k)), .int .i64 (KA (2 * k + 1)), .int .i64 (KB (2 * k + 1))] by unfold acC; rw [rfA_full KA KB A k (by omega)])))))
      generalize KA (2 * k) = y2 at hin HC
      generalize KB (2 * k) = y3 at hin HC
      generalize KA (2 * k + 1) = y4 at hin HC
      generalize KB (2 * k + 1) = y5 at hin HC
      obtain ⟨x, hx⟩ : ∃ x, A k = x := ⟨_, rfl⟩
      rw [hx] at HC hin
      clear hx
      obtain ⟨s, x1, x2, x3, x4, x5⟩ := x
      dsimp only at HC hin
      have W1 := Lib.hid (fun (W : World) => in_ok y2 y3 x2 x3 hin.1 hin.2.1 W)
      have W2 := Lib.hid (fun (W : World) => in_ok y4 y5 x4 x5 hin.2.2.1 hin.2.2.2 W)
      clear hin
      refine wp_region_held_drew (S := (fun wx => Below V4.heap.size V4 wx)) (by kernel_rfl) ?_ (fun hH => ?_)
      · (try dsimp only); (exact hB.drew)
      refine tkY 0 (some 80) ?_ ?_ ?_
      rotate_left
      · intro w hS0; (try dsimp only at hS0); obtain ⟨kB, kT, ⟨a0, a1, a2, a3, a4, a5⟩, c0, c1, c2, c3, c4, c5⟩ := HC.out _ hS0; have b0 := kB.cell 0 rfl; have t0 := kT.cell 0 rfl; have y1 := kB.lt; have y2 := kT.lt; have y3 := World.block_lt_of_cell? _ _ a0; have y4 := World.block_lt_of_cell? _ _ c0;go_simp; (try with_reducible rfl)
      (try simp only [cq])
      refine tkY 1 (some 81) ?_ ?_ ?_
      rotate_left
      · intro w hS0; (try dsimp only at hS0); obtain ⟨kB, kT, ⟨a0, a1, a2, a3, a4, a5⟩, c0, c1, c2, c3, c4, c5⟩ := HC.out _ hS0; have b0 := kB.cell 0 rfl; have t0 := kT.cell 0 rfl; have y1 := kB.lt; have y2 := kT.lt; have y3 := World.block_lt_of_cell? _ _ a0; have y4 := World.block_lt_of_cell? _ _ c0;go_simp; (try with_reducible rfl)
      (try simp only [cq])
      refine tkY 2 (some 82) ?_ ?_ ?_
      rotate_left
      · intro w _; go_simp; (try with_reducible rfl)
      (try simp only [cq])
      refine tkY 3 (some 83) ?_ ?_ ?_
      rotate_left
      · intro w hS0; (try dsimp only at hS0); obtain ⟨kB, kT, ⟨a0, a1, a2, a3, a4, a5⟩, c0, c1, c2, c3, c4, c5⟩ := HC.out _ hS0; have b0 := kB.cell 0 rfl; have t0 := kT.cell 0 rfl; have y1 := kB.lt; have y2 := kT.lt; have y3 := World.block_lt_of_cell? _ _ a0; have y4 := World.block_lt_of_cell? _ _ c0;go_simp; (try with_reducible rfl)
      (try simp only [cq])
      refine tkY 4 (some 84) ?_ ?_ ?_
      rotate_left
      · intro w hS0; (try dsimp only at hS0); obtain ⟨kB, kT, ⟨a0, a1, a2, a3, a4, a5⟩, c0, c1, c2, c3, c4, c5⟩ := HC.out _ hS0; have b0 := kB.cell 0 rfl; have t0 := kT.cell 0 rfl; have y1 := kB.lt; have y2 := kT.lt; have y3 := World.block_lt_of_cell? _ _ a0; have y4 := World.block_lt_of_cell? _ _ c0;go_simp; (try with_reducible rfl)
      (try simp only [cq])
      refine tkY 5 (some 85) ?_ ?_ ?_
      rotate_left
      · intro w hS0; (try dsimp only at hS0); obtain ⟨kB, kT, ⟨a0, a1, a2, a3, a4, a5⟩, c0, c1, c2, c3, c4, c5⟩ := HC.out _ hS0; have b0 := kB.cell 0 rfl; have t0 := kT.cell 0 rfl; have y1 := kB.lt; have y2 := kT.lt; have y3 := World.block_lt_of_cell? _ _ a0; have y4 := World.block_lt_of_cell? _ _ c0;go_simp; (try with_reducible rfl)
      (try simp only [cq])
      refine tkY 6 (some 86) ?_ ?_ ?_
      rotate_left
      · intro w hS0; (try dsimp only at hS0); obtain ⟨kB, kT, ⟨a0, a1, a2, a3, a4, a5⟩, c0, c1, c2, c3, c4, c5⟩ := HC.out _ hS0; have b0 := kB.cell 0 rfl; have t0 := kT.cell 0 rfl; have y1 := kB.lt; have y2 := kT.lt; have y3 := World.block_lt_of_cell? _ _ a0; have y4 := World.block_lt_of_cell? _ _ c0;go_simp; (try with_reducible rfl)
      (try simp only [cq])
      refine tkY 7 (some 87) ?_ ?_ ?_
      rotate_left
      · intro w hS0; (try dsimp only at hS0); obtain ⟨kB, kT, ⟨a0, a1, a2, a3, a4, a5⟩, c0, c1, c2, c3, c4, c5⟩ := HC.out _ hS0; have b0 := kB.cell 0 rfl; have t0 := kT.cell 0 rfl; have y1 := kB.lt; have y2 := kT.lt; have y3 := World.block_lt_of_cell? _ _ a0; have y4 := World.block_lt_of_cell? _ _ c0;go_simp; (try with_reducible rfl)
      (try simp only [cq])
      refine tkY 8 (some 88) ?_ ?_ ?_
      rotate_left
      · intro w _; go_simp; (try with_reducible rfl)
      (try simp only [cq])
      refine tkY 9 (some 89) ?_ ?_ ?_
      rotate_left
      · intro w hS0; (try dsimp only at hS0); obtain ⟨kB, kT, ⟨a0, a1, a2, a3, a4, a5⟩, c0, c1, c2, c3, c4, c5⟩ := HC.out _ hS0; have b0 := kB.cell 0 rfl; have t0 := kT.cell 0 rfl; have y1 := kB.lt; have y2 := kT.lt; have y3 := World.block_lt_of_cell? _ _ a0; have y4 := World.block_lt_of_cell? _ _ c0;go_simp; (try with_reducible rfl)
      (try simp only [cq])
      refine tkY 10 (some 90) ?_ ?_ ?_
      rotate_left
      · intro w hS0; (try dsimp only at hS0); obtain ⟨kB, kT, ⟨a0, a1, a2, a3, a4, a5⟩, c0, c1, c2, c3, c4, c5⟩ := HC.out _ hS0; have b0 := kB.cell 0 rfl; have t0 := kT.cell 0 rfl; have y1 := kB.lt; have y2 := kT.lt; have y3 := World.block_lt_of_cell? _ _ a0; have y4 := World.block_lt_of_cell? _ _ c0;go_simp; (try with_reducible rfl)
      (try simp only [cq])
      refine tkY 11 (some 91) ?_ ?_ ?_
      rotate_left
      · intro w hS0; (try dsimp only at hS0); obtain ⟨kB, kT, ⟨a0, a1, a2, a3, a4, a5⟩, c0, c1, c2, c3, c4, c5⟩ := HC.out _ hS0; have b0 := kB.cell 0 rfl; have t0 := kT.cell 0 rfl; have y1 := kB.lt; have y2 := kT.lt; have y3 := World.block_lt_of_cell? _ _ a0; have y4 := World.block_lt_of_cell? _ _ c0;go_simp; (try with_reducible rfl)
      (try simp only [cq])
      refine wpAnyH_ready (rs := [12]) (by kernel_rfl) (by simp) ?_
      refine arc1 (some 92) fun K hK => ?_
      go_simp
      (refine (W1.out _).mono ?_; rintro e w' ⟨rfl, hb⟩)
      refine hK.out _ _ ?_ ?_
      · (exact hH.trans (hb.mono hH.size))
      (try clear hH); (try clear hb)
      intro hH
      clear hK K
      (try simp only [cq])
      refine tkY 13 (some 93) ?_ ?_ ?_
      rotate_left
      · intro w _; go_simp; (try with_reducible rfl)
      (try simp only [cq])
      refine tkY 14 (some 94) ?_ ?_ ?_
      rotate_left
      · intro w _; go_simp; (try with_reducible rfl)
      (try simp only [cq])
      refine tkY 15 (some 95) ?_ ?_ ?_
      rotate_left
      · intro w hS0; (try dsimp only at hS0); obtain ⟨kB, kT, ⟨a0, a1, a2, a3, a4, a5⟩, c0, c1, c2, c3, c4, c5⟩ := HC.out _ hS0; have b0 := kB.cell 0 rfl; have t0 := kT.cell 0 rfl; have y1 := kB.lt; have y2 := kT.lt; have y3 := World.block_lt_of_cell? _ _ a0; have y4 := World.block_lt_of_cell? _ _ c0;go_simp; (try with_reducible rfl)
      (try simp only [cq])
      refine tkY 16 (some 96) ?_ ?_ ?_
      rotate_left
      · intro w hS0; (try dsimp only at hS0); obtain ⟨kB, kT, ⟨a0, a1, a2, a3, a4, a5⟩, c0, c1, c2, c3, c4, c5⟩ := HC.out _ hS0; have b0 := kB.cell 0 rfl; have t0 := kT.cell 0 rfl; have y1 := kB.lt; have y2 := kT.lt; have y3 := World.block_lt_of_cell? _ _ a0; have y4 := World.block_lt_of_cell? _ _ c0;go_simp; (try with_reducible rfl)
      (try simp only [cq])
      refine tkY 17 (some 97) ?_ ?_ ?_
      rotate_left
      · intro w _; go_simp; (try with_reducible rfl)
      (try simp only [cq])
      refine tkY 18 (some 98) ?_ ?_ ?_
      rotate_left
      · intro w hS0; (try dsimp only at hS0); obtain ⟨kB, kT, ⟨a0, a1, a2, a3, a4, a5⟩, c0, c1, c2, c3, c4, c5⟩ := HC.out _ hS0; have b0 := kB.cell 0 rfl; have t0 := kT.cell 0 rfl; have y1 := kB.lt; have y2 := kT.lt; have y3 := World.block_lt_of_cell? _ _ a0; have y4 := World.block_lt_of_cell? _ _ c0;go_simp; (try with_reducible rfl)
      (try simp only [cq])
      refine tkY 19 (some 99) ?_ ?_ ?_
      rotate_left
      · intro w hS0; (try dsimp only at hS0); obtain ⟨kB, kT, ⟨a0, a1, a2, a3, a4, a5⟩, c0, c1, c2, c3, c4, c5⟩ := HC.out _ hS0; have b0 := kB.cell 0 rfl; have t0 := kT.cell 0 rfl; have y1 := kB.lt; have y2 := kT.lt; have y3 := World.block_lt_of_cell? _ _ a0; have y4 := World.block_lt_of_cell? _ _ c0;go_simp; (try with_reducible rfl)
      (try simp only [cq])
      refine tkY 20 (some 100) ?_ ?_ ?_
      rotate_left
      · intro w hS0; (try dsimp only at hS0); obtain ⟨kB, kT, ⟨a0, a1, a2, a3, a4, a5⟩, c0, c1, c2, c3, c4, c5⟩ := HC.out _ hS0; have b0 := kB.cell 0 rfl; have t0 := kT.cell 0 rfl; have y1 := kB.lt; have y2 := kT.lt; have y3 := World.block_lt_of_cell? _ _ a0; have y4 := World.block_lt_of_cell? _ _ c0;go_simp; (try with_reducible rfl)
      (try simp only [cq])
      refine tkY 21 (some 101) ?_ ?_ ?_
      rotate_left
      · intro w hS0; (try dsimp only at hS0); obtain ⟨kB, kT, ⟨a0, a1, a2, a3, a4, a5⟩, c0, c1, c2, c3, c4, c5⟩ := HC.out _ hS0; have b0 := kB.cell 0 rfl; have t0 := kT.cell 0 rfl; have y1 := kB.lt; have y2 := kT.lt; have y3 := World.block_lt_of_cell? _ _ a0; have y4 := World.block_lt_of_cell? _ _ c0;go_simp; (try with_reducible rfl)
      (try simp only [cq])
      refine tkY 22 (some 102) ?_ ?_ ?_
      rotate_left
      · intro w hS0; (try dsimp only at hS0); obtain ⟨kB, kT, ⟨a0, a1, a2, a3, a4, a5⟩, c0, c1, c2, c3, c4, c5⟩ := HC.out _ hS0; have b0 := kB.cell 0 rfl; have t0 := kT.cell 0 rfl; have y1 := kB.lt; have y2 := kT.lt; have y3 := World.block_lt_of_cell? _ _ a0; have y4 := World.block_lt_of_cell? _ _ c0;go_simp; (try with_reducible rfl)
      (try simp only [cq])
      refine tkY 23 (some 103) ?_ ?_ ?_
      rotate_left
      · intro w _; go_simp; (try with_reducible rfl)
      (try simp only [cq])
      refine tkY 24 (some 104) ?_ ?_ ?_
      rotate_left
      · intro w hS0; (try dsimp only at hS0); obtain ⟨kB, kT, ⟨a0, a1, a2, a3, a4, a5⟩, c0, c1, c2, c3, c4, c5⟩ := HC.out _ hS0; have b0 := kB.cell 0 rfl; have t0 := kT.cell 0 rfl; have y1 := kB.lt; have y2 := kT.lt; have y3 := World.block_lt_of_cell? _ _ a0; have y4 := World.block_lt_of_cell? _ _ c0;go_simp; (try with_reducible rfl)
      (try simp only [cq])
      refine tkY 25 (some 105) ?_ ?_ ?_
      rotate_left
      · intro w hS0; (try dsimp only at hS0); obtain ⟨kB, kT, ⟨a0, a1, a2, a3, a4, a5⟩, c0, c1, c2, c3, c4, c5⟩ := HC.out _ hS0; have b0 := kB.cell 0 rfl; have t0 := kT.cell 0 rfl; have y1 := kB.lt; have y2 := kT.lt; have y3 := World.block_lt_of_cell? _ _ a0; have y4 := World.block_lt_of_cell? _ _ c0;go_simp; (try with_reducible rfl)
      (try simp only [cq])
      refine tkY 26 (some 106) ?_ ?_ ?_
      rotate_left
      · intro w hS0; (try dsimp only at hS0); obtain ⟨kB, kT, ⟨a0, a1, a2, a3, a4, a5⟩, c0, c1, c2, c3, c4, c5⟩ := HC.out _ hS0; have b0 := kB.cell 0 rfl; have t0 := kT.cell 0 rfl; have y1 := kB.lt; have y2 := kT.lt; have y3 := World.block_lt_of_cell? _ _ a0; have y4 := World.block_lt_of_cell? _ _ c0;go_simp; (try with_reducible rfl)
      (try simp only [cq])
      refine wpAnyH_ready (rs := [27]) (by kernel_rfl) (by simp) ?_
      refine arc1 (some 107) fun K hK => ?_
      go_simp
      (refine (W2.out _).mono ?_; rintro e w' ⟨rfl, hb⟩)
      refine hK.out _ _ ?_ ?_
      · (exact hH.trans (hb.mono hH.size))
      (try clear hH); (try clear hb)
      intro hH
      clear hK K
      (try simp only [cq])
      refine tkY 28 (some 108) ?_ ?_ ?_
      rotate_left
      · intro w _; go_simp; (try with_reducible rfl)
      (try simp only [cq])
      refine tkY 29 (some 109) ?_ ?_ ?_
      rotate_left
      · intro w _; go_simp; (try with_reducible rfl)
      (try simp only [cq])
      refine tkY 30 (some 110) ?_ ?_ ?_
      rotate_left
      · intro w _; go_simp; (try with_reducible rfl)
      (try simp only [cq])
      refine tkY 31 (some 111) ?_ ?_ ?_
      rotate_left
      · intro w hS0; (try dsimp only at hS0); obtain ⟨kB, kT, ⟨a0, a1, a2, a3, a4, a5⟩, c0, c1, c2, c3, c4, c5⟩ := HC.out _ hS0; have b0 := kB.cell 0 rfl; have t0 := kT.cell 0 rfl; have y1 := kB.lt; have y2 := kT.lt; have y3 := World.block_lt_of_cell? _ _ a0; have y4 := World.block_lt_of_cell? _ _ c0;go_simp; (try with_reducible rfl)
      (try simp only [cq])
      refine tkY 32 (some 112) ?_ ?_ ?_
      rotate_left
      · intro w hS0; (try dsimp only at hS0); obtain ⟨kB, kT, ⟨a0, a1, a2, a3, a4, a5⟩, c0, c1, c2, c3, c4, c5⟩ := HC.out _ hS0; have b0 := kB.cell 0 rfl; have t0 := kT.cell 0 rfl; have y1 := kB.lt; have y2 := kT.lt; have y3 := World.block_lt_of_cell? _ _ a0; have y4 := World.block_lt_of_cell? _ _ c0;go_simp; (try with_reducible rfl)
      (try simp only [cq])
      refine tkY 33 (some 113) ?_ ?_ ?_
      rotate_left
      · intro w _; go_simp; (try with_reducible rfl)
      (try simp only [cq])
      refine tkY 34 (some 114) ?_ ?_ ?_
      rotate_left
      · intro w hS0; (try dsimp only at hS0); obtain ⟨kB, kT, ⟨a0, a1, a2, a3, a4, a5⟩, c0, c1, c2, c3, c4, c5⟩ := HC.out _ hS0; have b0 := kB.cell 0 rfl; have t0 := kT.cell 0 rfl; have y1 := kB.lt; have y2 := kT.lt; have y3 := World.block_lt_of_cell? _ _ a0; have y4 := World.block_lt_of_cell? _ _ c0;go_simp; (try with_reducible rfl)
      (try simp only [cq])
      refine tkY 35 (some 115) ?_ ?_ ?_
      rotate_left
      · intro w hS0; (try dsimp only at hS0); obtain ⟨kB, kT, ⟨a0, a1, a2, a3, a4, a5⟩, c0, c1, c2, c3, c4, c5⟩ := HC.out _ hS0; have b0 := kB.cell 0 rfl; have t0 := kT.cell 0 rfl; have y1 := kB.lt; have y2 := kT.lt; have y3 := World.block_lt_of_cell? _ _ a0; have y4 := World.block_lt_of_cell? _ _ c0;go_simp; (try with_reducible rfl)
      (try simp only [cq])
      refine tkY 36 (some 116) ?_ ?_ ?_
      rotate_left
      · intro w hS0; (try dsimp only at hS0); obtain ⟨kB, kT, ⟨a0, a1, a2, a3, a4, a5⟩, c0, c1, c2, c3, c4, c5⟩ := HC.out _ hS0; have b0 := kB.cell 0 rfl; have t0 := kT.cell 0 rfl; have y1 := kB.lt; have y2 := kT.lt; have y3 := World.block_lt_of_cell? _ _ a0; have y4 := World.block_lt_of_cell? _ _ c0;go_simp; (try with_reducible rfl)
      (try simp only [cq])
      refine tkY 37 (some 117) ?_ ?_ ?_
      rotate_left
      · intro w hS0; (try dsimp only at hS0); obtain ⟨kB, kT, ⟨a0, a1, a2, a3, a4, a5⟩, c0, c1, c2, c3, c4, c5⟩ := HC.out _ hS0; have b0 := kB.cell 0 rfl; have t0 := kT.cell 0 rfl; have y1 := kB.lt; have y2 := kT.lt; have y3 := World.block_lt_of_cell? _ _ a0; have y4 := World.block_lt_of_cell? _ _ c0;go_simp; (try with_reducible rfl)
      (try simp only [cq])
      refine tkY 38 (some 118) ?_ ?_ ?_
      rotate_left
      · intro w hS0; (try dsimp only at hS0); obtain ⟨kB, kT, ⟨a0, a1, a2, a3, a4, a5⟩, c0, c1, c2, c3, c4, c5⟩ := HC.out _ hS0; have b0 := kB.cell 0 rfl; have t0 := kT.cell 0 rfl; have y1 := kB.lt; have y2 := kT.lt; have y3 := World.block_lt_of_cell? _ _ a0; have y4 := World.block_lt_of_cell? _ _ c0;go_simp; (try with_reducible rfl)
      (try simp only [cq])
      refine tkY 39 (some 119) ?_ ?_ ?_
      rotate_left
      · intro w _; go_simp; (try with_reducible rfl)
      (try simp only [cq])
      refine tkY 40 (some 120) ?_ ?_ ?_
      rotate_left
      · intro w hS0; (try dsimp only at hS0); obtain ⟨kB, kT, ⟨a0, a1, a2, a3, a4, a5⟩, c0, c1, c2, c3, c4, c5⟩ := HC.out _ hS0; have b0 := kB.cell 0 rfl; have t0 := kT.cell 0 rfl; have y1 := kB.lt; have y2 := kT.lt; have y3 := World.block_lt_of_cell? _ _ a0; have y4 := World.block_lt_of_cell? _ _ c0;go_simp; (try with_reducible rfl)
      (try simp only [cq])
      refine tkY 41 (some 121) ?_ ?_ ?_
      rotate_left
      · intro w hS0; (try dsimp only at hS0); obtain ⟨kB, kT, ⟨a0, a1, a2, a3, a4, a5⟩, c0, c1, c2, c3, c4, c5⟩ := HC.out _ hS0; have b0 := kB.cell 0 rfl; have t0 := kT.cell 0 rfl; have y1 := kB.lt; have y2 := kT.lt; have y3 := World.block_lt_of_cell? _ _ a0; have y4 := World.block_lt_of_cell? _ _ c0;go_simp; (try with_reducible rfl)
      (try simp only [cq])
      refine tkY 42 (some 122) ?_ ?_ ?_
      rotate_left
      · intro w hS0; (try dsimp only at hS0); obtain ⟨kB, kT, ⟨a0, a1, a2, a3, a4, a5⟩, c0, c1, c2, c3, c4, c5⟩ := HC.out _ hS0; have b0 := kB.cell 0 rfl; have t0 := kT.cell 0 rfl; have y1 := kB.lt; have y2 := kT.lt; have y3 := World.block_lt_of_cell? _ _ a0; have y4 := World.block_lt_of_cell? _ _ c0;go_simp; (try with_reducible rfl)
      (try simp only [cq])
      refine tkY 43 (some 123) ?_ ?_ ?_
      rotate_left
      · intro w _; go_simp; (try with_reducible rfl)
      (try simp only [cq])
      refine tkY 44 (some 124) ?_ ?_ ?_
      rotate_left
      · intro w _; go_simp; (try with_reducible rfl)
      (try simp only [cq])
      refine tkY 45 (some 125) ?_ ?_ ?_
      rotate_left
      · intro w _; go_simp; (try with_reducible rfl)
      (try simp only [cq])
      refine tkY 46 (some 126) ?_ ?_ ?_
      rotate_left
      · intro w hS0; (try dsimp only at hS0); obtain ⟨kB, kT, ⟨a0, a1, a2, a3, a4, a5⟩, c0, c1, c2, c3, c4, c5⟩ := HC.out _ hS0; have b0 := kB.cell 0 rfl; have t0 := kT.cell 0 rfl; have y1 := kB.lt; have y2 := kT.lt; have y3 := World.block_lt_of_cell? _ _ a0; have y4 := World.block_lt_of_cell? _ _ c0;go_simp; (try with_reducible rfl)
      (try simp only [cq])
      refine tkY 47 (some 127) ?_ ?_ ?_
      rotate_left
      · intro w hS0; (try dsimp only at hS0); obtain ⟨kB, kT, ⟨a0, a1, a2, a3, a4, a5⟩, c0, c1, c2, c3, c4, c5⟩ := HC.out _ hS0; have b0 := kB.cell 0 rfl; have t0 := kT.cell 0 rfl; have y1 := kB.lt; have y2 := kT.lt; have y3 := World.block_lt_of_cell? _ _ a0; have y4 := World.block_lt_of_cell? _ _ c0;go_simp; (try with_reducible rfl)
      (try simp only [cq])
      refine tkY 48 (some 128) ?_ ?_ ?_
      rotate_left
      · intro w _; go_simp; (try with_reducible rfl)
      (try simp only [cq])
      refine tkY 49 (some 129) ?_ ?_ ?_
      rotate_left
      · intro w hS0; (try dsimp only at hS0); obtain ⟨kB, kT, ⟨a0, a1, a2, a3, a4, a5⟩, c0, c1, c2, c3, c4, c5⟩ := HC.out _ hS0; have b0 := kB.cell 0 rfl; have t0 := kT.cell 0 rfl; have y1 := kB.lt; have y2 := kT.lt; have y3 := World.block_lt_of_cell? _ _ a0; have y4 := World.block_lt_of_cell? _ _ c0;go_simp; (try with_reducible rfl)
      (try simp only [cq])
      refine tkY 50 (some 130) ?_ ?_ ?_
      rotate_left
      · intro w hS0; (try dsimp only at hS0); obtain ⟨kB, kT, ⟨a0, a1, a2, a3, a4, a5⟩, c0, c1, c2, c3, c4, c5⟩ := HC.out _ hS0; have b0 := kB.cell 0 rfl; have t0 := kT.cell 0 rfl; have y1 := kB.lt; have y2 := kT.lt; have y3 := World.block_lt_of_cell? _ _ a0; have y4 := World.block_lt_of_cell? _ _ c0;go_simp; (try with_reducible rfl)
      (try simp only [cq])
      refine tkY 51 (some 131) ?_ ?_ ?_
      rotate_left
      · intro w hS0; (try dsimp only at hS0); obtain ⟨kB, kT, ⟨a0, a1, a2, a3, a4, a5⟩, c0, c1, c2, c3, c4, c5⟩ := HC.out _ hS0; have b0 := kB.cell 0 rfl; have t0 := kT.cell 0 rfl; have y1 := kB.lt; have y2 := kT.lt; have y3 := World.block_lt_of_cell? _ _ a0; have y4 := World.block_lt_of_cell? _ _ c0;go_simp; (try with_reducible rfl)
      (try simp only [cq])
      refine tkY 52 (some 132) ?_ ?_ ?_
      rotate_left
      · intro w hS0; (try dsimp only at hS0); obtain ⟨kB, kT, ⟨a0, a1, a2, a3, a4, a5⟩, c0, c1, c2, c3, c4, c5⟩ := HC.out _ hS0; have b0 := kB.cell 0 rfl; have t0 := kT.cell 0 rfl; have y1 := kB.lt; have y2 := kT.lt; have y3 := World.block_lt_of_cell? _ _ a0; have y4 := World.block_lt_of_cell? _ _ c0;go_simp; (try with_reducible rfl)
      (try simp only [cq])
      refine tkY 53 (some 133) ?_ ?_ ?_
      rotate_left
      · intro w hS0; (try dsimp only at hS0); obtain ⟨kB, kT, ⟨a0, a1, a2, a3, a4, a5⟩, c0, c1, c2, c3, c4, c5⟩ := HC.out _ hS0; have b0 := kB.cell 0 rfl; have t0 := kT.cell 0 rfl; have y1 := kB.lt; have y2 := kT.lt; have y3 := World.block_lt_of_cell? _ _ a0; have y4 := World.block_lt_of_cell? _ _ c0;go_simp; (try with_reducible rfl)
      (try simp only [cq])
      refine tkY 54 (some 134) ?_ ?_ ?_
      rotate_left
      · intro w _; go_simp; (try with_reducible rfl)
      (try simp only [cq])
      refine tkY 55 (some 135) ?_ ?_ ?_
      rotate_left
      · intro w hS0; (try dsimp only at hS0); obtain ⟨kB, kT, ⟨a0, a1, a2, a3, a4, a5⟩, c0, c1, c2, c3, c4, c5⟩ := HC.out _ hS0; have b0 := kB.cell 0 rfl; have t0 := kT.cell 0 rfl; have y1 := kB.lt; have y2 := kT.lt; have y3 := World.block_lt_of_cell? _ _ a0; have y4 := World.block_lt_of_cell? _ _ c0;go_simp; (try with_reducible rfl)
      (try simp only [cq])
      refine tkY 56 (some 136) ?_ ?_ ?_
      rotate_left
      · intro w hS0; (try dsimp only at hS0); obtain ⟨kB, kT, ⟨a0, a1, a2, a3, a4, a5⟩, c0, c1, c2, c3, c4, c5⟩ := HC.out _ hS0; have b0 := kB.cell 0 rfl; have t0 := kT.cell 0 rfl; have y1 := kB.lt; have y2 := kT.lt; have y3 := World.block_lt_of_cell? _ _ a0; have y4 := World.block_lt_of_cell? _ _ c0;go_simp; (try with_reducible rfl)
      (try simp only [cq])
      refine tkY 57 (some 137) ?_ ?_ ?_
      rotate_left
      · intro w hS0; (try dsimp only at hS0); obtain ⟨kB, kT, ⟨a0, a1, a2, a3, a4, a5⟩, c0, c1, c2, c3, c4, c5⟩ := HC.out _ hS0; have b0 := kB.cell 0 rfl; have t0 := kT.cell 0 rfl; have y1 := kB.lt; have y2 := kT.lt; have y3 := World.block_lt_of_cell? _ _ a0; have y4 := World.block_lt_of_cell? _ _ c0;go_simp; (try with_reducible rfl)
      (try simp only [cq])
      refine tkY 58 (some 138) ?_ ?_ ?_
      rotate_left
      · intro w _; go_simp; (try with_reducible rfl)
      (try simp only [cq])
      refine tkY 59 (some 139) ?_ ?_ ?_
      rotate_left
      · intro w _; go_simp; (try with_reducible rfl)
      (try simp only [cq])
      refine wpAnyH_done (by kernel_rfl) ?_ _
      (try dsimp only [Act.put])
      (try simp only [cq])
      have hB2 := hH
      clear hH hB HC W1 W2
      go_wp2
      go_roundw
      case rel => exact ⟨k + 1, by omega, by go_num, hB2⟩
      case measure => simp [intOf]; omega
    · obtain rfl : k = n := by omega
      clear hA hf k6
      go_wp2_with fail
      clear k4 p0 p1 yB
      go_loopw [17] (fun i wr => ∃ j : Nat, j ≤ m ∧ i = .int .i64 j ∧ Below V4.heap.size V4 wr) (fun i _ => m - (intOf i).toNat)
      case atStart => exact ⟨0, by omega, rfl, hB⟩
      case round =>
        clear hB
        obtain ⟨j, hjm, rfl, hB⟩ := hrel
        obtain ⟨⟨k4, k6, k8, k11, k14⟩, ⟨-, hM⟩, ⟨-, hg⟩, -⟩ := HQ.out _ hB
        obtain ⟨p0, p1⟩ := k4.c2
        have yB := k4.lt
        by_cases hlt : j < m
        · have hltI : (j : Int) < m := by omega
          have hn0 : 0 < m := by omega
          obtain ⟨z1, -, bM, oM, rfl⟩ := hM.addr hn0
          obtain ⟨z2, -, bg, og, rfl⟩ := hg.addr hn0
          clear k4 k6 hM hg
          go_upto_region 17 with fail
          clear p0 p1 yB
          have hin := HI.out.2 j hlt
          have HC := Lib.hid (fun (W : World) (h : Below V4.heap.size V4 W) => And.intro (HQ.out W h).1.1 (And.intro (HQ.out W h).1.2.1 (And.intro (AtC.c4 (LAt.at (HQ.out W h).2.1.2 hn0) hlt rfl) (AtC.c4 (LAt.at (HQ.out W h).2.2.1.2 hn0) hlt (show mvC (rfM KA KB (2 * k) M 46) j = [.int .i64 (M j).fr, .int .i64 (M j).tt, .int .i64 (KA (2 * k + j)), .int .i64 (KB (2 * k + j))] by unfold mvC; rw [rfM_full KA KB (2 * k) M j (by omega)])))))
          generalize KA (2 * k + j) = y2 at hin HC
          generalize KB (2 * k + j) = y3 at hin HC
          obtain ⟨x, hx⟩ : ∃ x, M j = x := ⟨_, rfl⟩
          rw [hx] at HC hin
          clear hx
          obtain ⟨x1, x4, x2, x3⟩ := x
          dsimp only at HC hin
          have W1 := Lib.hid (fun (W : World) => in_ok y2 y3 x2 x3 hin.1 hin.2 W)
          clear hin k8 k11 k14
          refine wp_region_held_drew (S := (fun wx => Below V4.heap.size V4 wx)) (by kernel_rfl) ?_ (fun hH => ?_)
          · (try dsimp only); (exact hB.drew)
          refine tkY 0 (some 147) ?_ ?_ ?_
          rotate_left
          · intro w hS0; (try dsimp only at hS0); obtain ⟨kB, kT, ⟨a0, a1, a2, a3⟩, c0, c1, c2, c3⟩ := HC.out _ hS0; have b0 := kB.cell 1 rfl; have t0 := kT.cell 1 rfl; have y1 := kB.lt; have y2 := kT.lt; have y3 := World.block_lt_of_cell? _ _ a0; have y4 := World.block_lt_of_cell? _ _ c0;go_simp; (try with_reducible rfl)
          (try simp only [cq])
          refine tkY 1 (some 148) ?_ ?_ ?_
          rotate_left
          · intro w hS0; (try dsimp only at hS0); obtain ⟨kB, kT, ⟨a0, a1, a2, a3⟩, c0, c1, c2, c3⟩ := HC.out _ hS0; have b0 := kB.cell 1 rfl; have t0 := kT.cell 1 rfl; have y1 := kB.lt; have y2 := kT.lt; have y3 := World.block_lt_of_cell? _ _ a0; have y4 := World.block_lt_of_cell? _ _ c0;go_simp; (try with_reducible rfl)
          (try simp only [cq])
          refine tkY 2 (some 149) ?_ ?_ ?_
          rotate_left
          · intro w _; go_simp; (try with_reducible rfl)
          (try simp only [cq])
          refine tkY 3 (some 150) ?_ ?_ ?_
          rotate_left
          · intro w hS0; (try dsimp only at hS0); obtain ⟨kB, kT, ⟨a0, a1, a2, a3⟩, c0, c1, c2, c3⟩ := HC.out _ hS0; have b0 := kB.cell 1 rfl; have t0 := kT.cell 1 rfl; have y1 := kB.lt; have y2 := kT.lt; have y3 := World.block_lt_of_cell? _ _ a0; have y4 := World.block_lt_of_cell? _ _ c0;go_simp; (try with_reducible rfl)
          (try simp only [cq])
          refine tkY 4 (some 151) ?_ ?_ ?_
          rotate_left
          · intro w hS0; (try dsimp only at hS0); obtain ⟨kB, kT, ⟨a0, a1, a2, a3⟩, c0, c1, c2, c3⟩ := HC.out _ hS0; have b0 := kB.cell 1 rfl; have t0 := kT.cell 1 rfl; have y1 := kB.lt; have y2 := kT.lt; have y3 := World.block_lt_of_cell? _ _ a0; have y4 := World.block_lt_of_cell? _ _ c0;go_simp; (try with_reducible rfl)
          (try simp only [cq])
          refine tkY 5 (some 152) ?_ ?_ ?_
          rotate_left
          · intro w hS0; (try dsimp only at hS0); obtain ⟨kB, kT, ⟨a0, a1, a2, a3⟩, c0, c1, c2, c3⟩ := HC.out _ hS0; have b0 := kB.cell 1 rfl; have t0 := kT.cell 1 rfl; have y1 := kB.lt; have y2 := kT.lt; have y3 := World.block_lt_of_cell? _ _ a0; have y4 := World.block_lt_of_cell? _ _ c0;go_simp; (try with_reducible rfl)
          (try simp only [cq])
          refine tkY 6 (some 153) ?_ ?_ ?_
          rotate_left
          · intro w hS0; (try dsimp only at hS0); obtain ⟨kB, kT, ⟨a0, a1, a2, a3⟩, c0, c1, c2, c3⟩ := HC.out _ hS0; have b0 := kB.cell 1 rfl; have t0 := kT.cell 1 rfl; have y1 := kB.lt; have y2 := kT.lt; have y3 := World.block_lt_of_cell? _ _ a0; have y4 := World.block_lt_of_cell? _ _ c0;go_simp; (try with_reducible rfl)
          (try simp only [cq])
          refine tkY 7 (some 154) ?_ ?_ ?_
          rotate_left
          · intro w hS0; (try dsimp only at hS0); obtain ⟨kB, kT, ⟨a0, a1, a2, a3⟩, c0, c1, c2, c3⟩ := HC.out _ hS0; have b0 := kB.cell 1 rfl; have t0 := kT.cell 1 rfl; have y1 := kB.lt; have y2 := kT.lt; have y3 := World.block_lt_of_cell? _ _ a0; have y4 := World.block_lt_of_cell? _ _ c0;go_simp; (try with_reducible rfl)
          (try simp only [cq])
          refine tkY 8 (some 155) ?_ ?_ ?_
          rotate_left
          · intro w _; go_simp; (try with_reducible rfl)
          (try simp only [cq])
          refine tkY 9 (some 156) ?_ ?_ ?_
          rotate_left
          · intro w hS0; (try dsimp only at hS0); obtain ⟨kB, kT, ⟨a0, a1, a2, a3⟩, c0, c1, c2, c3⟩ := HC.out _ hS0; have b0 := kB.cell 1 rfl; have t0 := kT.cell 1 rfl; have y1 := kB.lt; have y2 := kT.lt; have y3 := World.block_lt_of_cell? _ _ a0; have y4 := World.block_lt_of_cell? _ _ c0;go_simp; (try with_reducible rfl)
          (try simp only [cq])
          refine tkY 10 (some 157) ?_ ?_ ?_
          rotate_left
          · intro w hS0; (try dsimp only at hS0); obtain ⟨kB, kT, ⟨a0, a1, a2, a3⟩, c0, c1, c2, c3⟩ := HC.out _ hS0; have b0 := kB.cell 1 rfl; have t0 := kT.cell 1 rfl; have y1 := kB.lt; have y2 := kT.lt; have y3 := World.block_lt_of_cell? _ _ a0; have y4 := World.block_lt_of_cell? _ _ c0;go_simp; (try with_reducible rfl)
          (try simp only [cq])
          refine tkY 11 (some 158) ?_ ?_ ?_
          rotate_left
          · intro w hS0; (try dsimp only at hS0); obtain ⟨kB, kT, ⟨a0, a1, a2, a3⟩, c0, c1, c2, c3⟩ := HC.out _ hS0; have b0 := kB.cell 1 rfl; have t0 := kT.cell 1 rfl; have y1 := kB.lt; have y2 := kT.lt; have y3 := World.block_lt_of_cell? _ _ a0; have y4 := World.block_lt_of_cell? _ _ c0;go_simp; (try with_reducible rfl)
          (try simp only [cq])
          refine wpAnyH_ready (rs := [12]) (by kernel_rfl) (by simp) ?_
          refine arc1 (some 159) fun K hK => ?_
          go_simp
          (refine (W1.out _).mono ?_; rintro e w' ⟨rfl, hb⟩)
          refine hK.out _ _ ?_ ?_
          · (exact hH.trans (hb.mono hH.size))
          (try clear hH); (try clear hb)
          intro hH
          clear hK K
          (try simp only [cq])
          refine tkY 13 (some 160) ?_ ?_ ?_
          rotate_left
          · intro w _; go_simp; (try with_reducible rfl)
          (try simp only [cq])
          refine tkY 14 (some 161) ?_ ?_ ?_
          rotate_left
          · intro w _; go_simp; (try with_reducible rfl)
          (try simp only [cq])
          refine tkY 15 (some 162) ?_ ?_ ?_
          rotate_left
          · intro w hS0; (try dsimp only at hS0); obtain ⟨kB, kT, ⟨a0, a1, a2, a3⟩, c0, c1, c2, c3⟩ := HC.out _ hS0; have b0 := kB.cell 1 rfl; have t0 := kT.cell 1 rfl; have y1 := kB.lt; have y2 := kT.lt; have y3 := World.block_lt_of_cell? _ _ a0; have y4 := World.block_lt_of_cell? _ _ c0;go_simp; (try with_reducible rfl)
          (try simp only [cq])
          refine tkY 16 (some 163) ?_ ?_ ?_
          rotate_left
          · intro w hS0; (try dsimp only at hS0); obtain ⟨kB, kT, ⟨a0, a1, a2, a3⟩, c0, c1, c2, c3⟩ := HC.out _ hS0; have b0 := kB.cell 1 rfl; have t0 := kT.cell 1 rfl; have y1 := kB.lt; have y2 := kT.lt; have y3 := World.block_lt_of_cell? _ _ a0; have y4 := World.block_lt_of_cell? _ _ c0;go_simp; (try with_reducible rfl)
          (try simp only [cq])
          refine tkY 17 (some 164) ?_ ?_ ?_
          rotate_left
          · intro w _; go_simp; (try with_reducible rfl)
          (try simp only [cq])
          refine tkY 18 (some 165) ?_ ?_ ?_
          rotate_left
          · intro w hS0; (try dsimp only at hS0); obtain ⟨kB, kT, ⟨a0, a1, a2, a3⟩, c0, c1, c2, c3⟩ := HC.out _ hS0; have b0 := kB.cell 1 rfl; have t0 := kT.cell 1 rfl; have y1 := kB.lt; have y2 := kT.lt; have y3 := World.block_lt_of_cell? _ _ a0; have y4 := World.block_lt_of_cell? _ _ c0;go_simp; (try with_reducible rfl)
          (try simp only [cq])
          refine tkY 19 (some 166) ?_ ?_ ?_
          rotate_left
          · intro w hS0; (try dsimp only at hS0); obtain ⟨kB, kT, ⟨a0, a1, a2, a3⟩, c0, c1, c2, c3⟩ := HC.out _ hS0; have b0 := kB.cell 1 rfl; have t0 := kT.cell 1 rfl; have y1 := kB.lt; have y2 := kT.lt; have y3 := World.block_lt_of_cell? _ _ a0; have y4 := World.block_lt_of_cell? _ _ c0;go_simp; (try with_reducible rfl)
          (try simp only [cq])
          refine tkY 20 (some 167) ?_ ?_ ?_
          rotate_left
          · intro w hS0; (try dsimp only at hS0); obtain ⟨kB, kT, ⟨a0, a1, a2, a3⟩, c0, c1, c2, c3⟩ := HC.out _ hS0; have b0 := kB.cell 1 rfl; have t0 := kT.cell 1 rfl; have y1 := kB.lt; have y2 := kT.lt; have y3 := World.block_lt_of_cell? _ _ a0; have y4 := World.block_lt_of_cell? _ _ c0;go_simp; (try with_reducible rfl)
          (try simp only [cq])
          refine tkY 21 (some 168) ?_ ?_ ?_
          rotate_left
          · intro w hS0; (try dsimp only at hS0); obtain ⟨kB, kT, ⟨a0, a1, a2, a3⟩, c0, c1, c2, c3⟩ := HC.out _ hS0; have b0 := kB.cell 1 rfl; have t0 := kT.cell 1 rfl; have y1 := kB.lt; have y2 := kT.lt; have y3 := World.block_lt_of_cell? _ _ a0; have y4 := World.block_lt_of_cell? _ _ c0;go_simp; (try with_reducible rfl)
          (try simp only [cq])
          refine tkY 22 (some 169) ?_ ?_ ?_
          rotate_left
          · intro w hS0; (try dsimp only at hS0); obtain ⟨kB, kT, ⟨a0, a1, a2, a3⟩, c0, c1, c2, c3⟩ := HC.out _ hS0; have b0 := kB.cell 1 rfl; have t0 := kT.cell 1 rfl; have y1 := kB.lt; have y2 := kT.lt; have y3 := World.block_lt_of_cell? _ _ a0; have y4 := World.block_lt_of_cell? _ _ c0;go_simp; (try with_reducible rfl)
          (try simp only [cq])
          refine tkY 23 (some 170) ?_ ?_ ?_
          rotate_left
          · intro w _; go_simp; (try with_reducible rfl)
          (try simp only [cq])
          refine tkY 24 (some 171) ?_ ?_ ?_
          rotate_left
          · intro w hS0; (try dsimp only at hS0); obtain ⟨kB, kT, ⟨a0, a1, a2, a3⟩, c0, c1, c2, c3⟩ := HC.out _ hS0; have b0 := kB.cell 1 rfl; have t0 := kT.cell 1 rfl; have y1 := kB.lt; have y2 := kT.lt; have y3 := World.block_lt_of_cell? _ _ a0; have y4 := World.block_lt_of_cell? _ _ c0;go_simp; (try with_reducible rfl)
          (try simp only [cq])
          refine tkY 25 (some 172) ?_ ?_ ?_
          rotate_left
          · intro w hS0; (try dsimp only at hS0); obtain ⟨kB, kT, ⟨a0, a1, a2, a3⟩, c0, c1, c2, c3⟩ := HC.out _ hS0; have b0 := kB.cell 1 rfl; have t0 := kT.cell 1 rfl; have y1 := kB.lt; have y2 := kT.lt; have y3 := World.block_lt_of_cell? _ _ a0; have y4 := World.block_lt_of_cell? _ _ c0;go_simp; (try with_reducible rfl)
          (try simp only [cq])
          refine tkY 26 (some 173) ?_ ?_ ?_
          rotate_left
          · intro w hS0; (try dsimp only at hS0); obtain ⟨kB, kT, ⟨a0, a1, a2, a3⟩, c0, c1, c2, c3⟩ := HC.out _ hS0; have b0 := kB.cell 1 rfl; have t0 := kT.cell 1 rfl; have y1 := kB.lt; have y2 := kT.lt; have y3 := World.block_lt_of_cell? _ _ a0; have y4 := World.block_lt_of_cell? _ _ c0;go_simp; (try with_reducible rfl)
          (try simp only [cq])
          refine tkY 27 (some 174) ?_ ?_ ?_
          rotate_left
          · intro w _; go_simp; (try with_reducible rfl)
          (try simp only [cq])
          refine tkY 28 (some 175) ?_ ?_ ?_
          rotate_left
          · intro w _; go_simp; (try with_reducible rfl)
          (try simp only [cq])
          refine tkY 29 (some 176) ?_ ?_ ?_
          rotate_left
          · intro w _; go_simp; (try with_reducible rfl)
          (try simp only [cq])
          refine tkY 30 (some 177) ?_ ?_ ?_
          rotate_left
          · intro w hS0; (try dsimp only at hS0); obtain ⟨kB, kT, ⟨a0, a1, a2, a3⟩, c0, c1, c2, c3⟩ := HC.out _ hS0; have b0 := kB.cell 1 rfl; have t0 := kT.cell 1 rfl; have y1 := kB.lt; have y2 := kT.lt; have y3 := World.block_lt_of_cell? _ _ a0; have y4 := World.block_lt_of_cell? _ _ c0;go_simp; (try with_reducible rfl)
          (try simp only [cq])
          refine tkY 31 (some 178) ?_ ?_ ?_
          rotate_left
          · intro w hS0; (try dsimp only at hS0); obtain ⟨kB, kT, ⟨a0, a1, a2, a3⟩, c0, c1, c2, c3⟩ := HC.out _ hS0; have b0 := kB.cell 1 rfl; have t0 := kT.cell 1 rfl; have y1 := kB.lt; have y2 := kT.lt; have y3 := World.block_lt_of_cell? _ _ a0; have y4 := World.block_lt_of_cell? _ _ c0;go_simp; (try with_reducible rfl)
          (try simp only [cq])
          refine tkY 32 (some 179) ?_ ?_ ?_
          rotate_left
          · intro w _; go_simp; (try with_reducible rfl)
          (try simp only [cq])
          refine tkY 33 (some 180) ?_ ?_ ?_
          rotate_left
          · intro w hS0; (try dsimp only at hS0); obtain ⟨kB, kT, ⟨a0, a1, a2, a3⟩, c0, c1, c2, c3⟩ := HC.out _ hS0; have b0 := kB.cell 1 rfl; have t0 := kT.cell 1 rfl; have y1 := kB.lt; have y2 := kT.lt; have y3 := World.block_lt_of_cell? _ _ a0; have y4 := World.block_lt_of_cell? _ _ c0;go_simp; (try with_reducible rfl)
          (try simp only [cq])
          refine tkY 34 (some 181) ?_ ?_ ?_
          rotate_left
          · intro w hS0; (try dsimp only at hS0); obtain ⟨kB, kT, ⟨a0, a1, a2, a3⟩, c0, c1, c2, c3⟩ := HC.out _ hS0; have b0 := kB.cell 1 rfl; have t0 := kT.cell 1 rfl; have y1 := kB.lt; have y2 := kT.lt; have y3 := World.block_lt_of_cell? _ _ a0; have y4 := World.block_lt_of_cell? _ _ c0;go_simp; (try with_reducible rfl)
          (try simp only [cq])
          refine tkY 35 (some 182) ?_ ?_ ?_
          rotate_left
          · intro w hS0; (try dsimp only at hS0); obtain ⟨kB, kT, ⟨a0, a1, a2, a3⟩, c0, c1, c2, c3⟩ := HC.out _ hS0; have b0 := kB.cell 1 rfl; have t0 := kT.cell 1 rfl; have y1 := kB.lt; have y2 := kT.lt; have y3 := World.block_lt_of_cell? _ _ a0; have y4 := World.block_lt_of_cell? _ _ c0;go_simp; (try with_reducible rfl)
          (try simp only [cq])
          refine tkY 36 (some 183) ?_ ?_ ?_
          rotate_left
          · intro w hS0; (try dsimp only at hS0); obtain ⟨kB, kT, ⟨a0, a1, a2, a3⟩, c0, c1, c2, c3⟩ := HC.out _ hS0; have b0 := kB.cell 1 rfl; have t0 := kT.cell 1 rfl; have y1 := kB.lt; have y2 := kT.lt; have y3 := World.block_lt_of_cell? _ _ a0; have y4 := World.block_lt_of_cell? _ _ c0;go_simp; (try with_reducible rfl)
          (try simp only [cq])
          refine tkY 37 (some 184) ?_ ?_ ?_
          rotate_left
          · intro w hS0; (try dsimp only at hS0); obtain ⟨kB, kT, ⟨a0, a1, a2, a3⟩, c0, c1, c2, c3⟩ := HC.out _ hS0; have b0 := kB.cell 1 rfl; have t0 := kT.cell 1 rfl; have y1 := kB.lt; have y2 := kT.lt; have y3 := World.block_lt_of_cell? _ _ a0; have y4 := World.block_lt_of_cell? _ _ c0;go_simp; (try with_reducible rfl)
          (try simp only [cq])
          refine tkY 38 (some 185) ?_ ?_ ?_
          rotate_left
          · intro w _; go_simp; (try with_reducible rfl)
          (try simp only [cq])
          refine tkY 39 (some 186) ?_ ?_ ?_
          rotate_left
          · intro w hS0; (try dsimp only at hS0); obtain ⟨kB, kT, ⟨a0, a1, a2, a3⟩, c0, c1, c2, c3⟩ := HC.out _ hS0; have b0 := kB.cell 1 rfl; have t0 := kT.cell 1 rfl; have y1 := kB.lt; have y2 := kT.lt; have y3 := World.block_lt_of_cell? _ _ a0; have y4 := World.block_lt_of_cell? _ _ c0;go_simp; (try with_reducible rfl)
          (try simp only [cq])
          refine tkY 40 (some 187) ?_ ?_ ?_
          rotate_left
          · intro w hS0; (try dsimp only at hS0); obtain ⟨kB, kT, ⟨a0, a1, a2, a3⟩, c0, c1, c2, c3⟩ := HC.out _ hS0; have b0 := kB.cell 1 rfl; have t0 := kT.cell 1 rfl; have y1 := kB.lt; have y2 := kT.lt; have y3 := World.block_lt_of_cell? _ _ a0; have y4 := World.block_lt_of_cell? _ _ c0;go_simp; (try with_reducible rfl)
          (try simp only [cq])
          refine tkY 41 (some 188) ?_ ?_ ?_
          rotate_left
          · intro w hS0; (try dsimp only at hS0); obtain ⟨kB, kT, ⟨a0, a1, a2, a3⟩, c0, c1, c2, c3⟩ := HC.out _ hS0; have b0 := kB.cell 1 rfl; have t0 := kT.cell 1 rfl; have y1 := kB.lt; have y2 := kT.lt; have y3 := World.block_lt_of_cell? _ _ a0; have y4 := World.block_lt_of_cell? _ _ c0;go_simp; (try with_reducible rfl)
          (try simp only [cq])
          refine tkY 42 (some 189) ?_ ?_ ?_
          rotate_left
          · intro w _; go_simp; (try with_reducible rfl)
          (try simp only [cq])
          refine tkY 43 (some 190) ?_ ?_ ?_
          rotate_left
          · intro w _; go_simp; (try with_reducible rfl)
          (try simp only [cq])
          refine wpAnyH_done (by kernel_rfl) ?_ _
          (try dsimp only [Act.put])
          (try simp only [cq])
          have hB2 := hH
          clear hH hB HC W1
          go_wp2
          go_roundw
          case rel => exact ⟨j + 1, by omega, by go_num, hB2⟩
          case measure => simp [intOf]; omega
        · obtain rfl : j = m := by omega
          clear hM hg
          obtain ⟨p2, p3⟩ := k6.c2
          obtain ⟨p4, p5⟩ := k8.c2
          go_wp2_with fail
          clear k4 k6 k8 k11 k14 p0 p1 p2 p3 p4 p5 yB
          obtain ⟨-, -, ⟨hf, hg⟩, ⟨hp, hq⟩, -⟩ := HQ.out _ hB
          refine (sameb_ok k j _ _ _ _ _ _ _ _ (by omega) (by omega) (fun i hi => by
            rw [rfA_full LA LB _ i (by omega), rfA_full KA KB A i (by omega), (HE.out (2 * i) (by unfold flN; omega)).1, (HE.out (2 * i) (by unfold flN; omega)).2, (HE.out (2 * i + 1) (by unfold flN; omega)).1, (HE.out (2 * i + 1) (by unfold flN; omega)).2]) (fun i hi => by
            rw [rfM_full LA LB _ _ i (by omega), rfM_full KA KB _ M i (by omega), (HE.out (2 * k + i) (by unfold flN; omega)).1, (HE.out (2 * k + i) (by unfold flN; omega)).2]) _ hf hg hp hq).mono ?_
          rintro e w10 ⟨rfl, hb⟩
          replace hB := hB.trans (hb.mono hB.size)
          clear hb hf hg hp hq
          obtain ⟨⟨k4, k6, k8, k11, k14⟩, -⟩ := HQ.out _ hB
          obtain ⟨p0, p1⟩ := k11.c2
          obtain ⟨p2, p3⟩ := k14.c2
          go_wp2_with fail
          clear k4 k6 k8 k11 k14 p0 p1 p2 p3
          obtain ⟨-, -, -, -, hl, hr⟩ := HQ.out _ hB
          refine (same_ok k _ _ _ _ (fun i hi => ⟨(HE.out (2 * k + j + i) (by unfold flN; omega)).1.symm, (HE.out (2 * k + j + i) (by unfold flN; omega)).2.symm⟩) _ _ _ hl hr).mono ?_
          rintro e w11 ⟨rfl, hb⟩
          replace hB := hB.trans (hb.mono hB.size)
          clear hb hl hr
          go_wp2_with fail
          refine (HAw.out _).mono ?_
          rintro e w12 ⟨rfl, hb⟩
          replace hB := hB.trans (hb.mono hB.size)
          have hB2 := HW7.out _ hB
          clear hb
          go_wp2
          go_ret
          exact ⟨rfl, hB2⟩
end Go.Proofs.Ytpeogfcfiabcfaa
