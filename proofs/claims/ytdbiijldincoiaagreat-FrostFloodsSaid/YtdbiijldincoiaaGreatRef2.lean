/-
  The reference's square roots, parts, and what becomes of true ice.
-/
import Derived.Test.YtdbiijldincoiaaGreatBd
import Derived.Test.YtdbiijldincoiaaGreatTail
import Derived.Test.YtdbiijldincoiaaGreatRef1
set_option linter.unusedVariables false
set_option linter.unusedSimpArgs false
namespace Go.Proofs.YtdbiijldincoiaaGreat
open Go.RowKit

theorem rdown_any (n p : Int) (w : World) (h1 : 0 ≤ n * p) (h2 : n * p ≤ 9000000000000000000) :
    Calls Tryz.prog 72 #[.int .i64 n, .int .i64 p] w fun e w' => e = .returned (.int .i64 (n * p / 1000000)) ∧ w = w' := by
  have e1 : IntKind.i64.wrap (n * p) = n * p := IntWalk.i64_in _ (by omega)
  go_enter Tryz.func72, Tryz.ntmps72
  go_wp2
  go_ret
  exact ⟨by first | rfl | (exact ret_int (by omega)), rfl⟩
theorem rup_any (n p : Int) (w : World) (h1 : 0 ≤ n * p) (h2 : n * p ≤ 9000000000000000000) :
    Calls Tryz.prog 73 #[.int .i64 n, .int .i64 p] w fun e w' => e = .returned (.int .i64 ((n * p + 999999) / 1000000)) ∧ w = w' := by
  have e1 : IntKind.i64.wrap (n * p) = n * p := IntWalk.i64_in _ (by omega)
  go_enter Tryz.func73, Tryz.ntmps73
  go_wp2
  go_ret
  exact ⟨ret_int (by omega), rfl⟩

theorem rdown_b (n p : Int) (w : World) (h1 : 0 ≤ n * p) (h2 : n * p ≤ 9000000000000000000) :
    Calls Tryz.prog 72 #[.int .i64 n, .int .i64 p] w fun e w' => e = .returned (.int .i64 (n * p / 1000000)) ∧ Below w.heap.size w w' :=
  (rdown_any n p w h1 h2).mono fun e w' ⟨h, hw⟩ => ⟨h, hw ▸ Below.refl _ _⟩
theorem rup_b (n p : Int) (w : World) (h1 : 0 ≤ n * p) (h2 : n * p ≤ 9000000000000000000) :
    Calls Tryz.prog 73 #[.int .i64 n, .int .i64 p] w fun e w' => e = .returned (.int .i64 ((n * p + 999999) / 1000000)) ∧ Below w.heap.size w w' :=
  (rup_any n p w h1 h2).mono fun e w' ⟨h, hw⟩ => ⟨h, hw ▸ Below.refl _ _⟩
set_option maxRecDepth 100000 in
set_option maxHeartbeats 2000000 in
theorem rroot_pos (m : Nat) (h1 : 1 ≤ m) (h2 : m ≤ 9223372036854775807) (w : World) :
    Calls Tryz.prog 115 #[.int .i64 m] w fun e w' => e = .returned (.int .i64 (rt m)) ∧ w = w' := by
  have hm1 : decide ((m : Int) < 1) = false := by simp; omega
  go_enter Tryz.func115, Tryz.ntmps115
  go_wp2_with fail
  go_loop [3, 4] (fun s t => ∃ a b : Nat, s = .int .i64 a ∧ t = .int .i64 b ∧ 1 ≤ a ∧ a * a ≤ m ∧ m < b * b ∧ a < b ∧ b ≤ 3037000500) (fun s t => (intOf t - intOf s).toNat)
  case atStart => exact ⟨1, 3037000500, rfl, rfl, by omega, by omega, by omega, by omega, by omega⟩
  case round =>
    obtain ⟨a, b, rfl, rfl, ha1, ha, hb, hab, hb2⟩ := hrel
    by_cases hgt : 1 < b - a
    · have hs : a + b ≤ 6074001000 := by omega
      obtain ⟨c, hc⟩ : ∃ c, (a + b) / 2 = c := ⟨_, rfl⟩
      have hc1 : a < c := by omega
      have hc2 : c < b := by omega
      have hcc : c * c ≤ 3037000499 * 3037000499 := Nat.mul_le_mul (by omega) (by omega)
      have ec : ((a : Int) + (b : Int)) / 2 = (c : Int) := by omega
      have ecc : (c : Int) * (c : Int) = ((c * c : Nat) : Int) := by simp
      have ew : IntKind.i64.wrap ((c : Int) * (c : Int)) = (c : Int) * (c : Int) := IntWalk.i64_in _ (by rw [ecc]; omega)
      have HW2 := Lib.hid ew
      have HC := Lib.hid (And.intro ha (And.intro hb (And.intro hc1 (And.intro hc2 (And.intro hb2 ha1)))))
      clear ha hb hc hb2 hcc
      by_cases hle : c * c ≤ m
      · have hle2 : (c : Int) * (c : Int) ≤ (m : Int) := by rw [ecc]; omega
        have HL := Lib.hid hle
        clear hle
        have HE := Lib.hid ec
        clear ec ecc ew
        go_upto_region 6 with fail
        simp only [HE.out]
        have hw2 : IntKind.i64.wrap ((c : Int) * (c : Int)) = (c : Int) * (c : Int) := HW2.out
        go_wp2
        go_round
        case rel =>
          obtain ⟨ha, hb, hc1, hc2, hb2, ha1⟩ := HC.out
          exact ⟨c, b, by first | rfl | go_num, rfl, by omega, HL.out, hb, hc2, hb2⟩
        case measure => simp [intOf]; omega
      · have hle2 : ¬ (c : Int) * (c : Int) ≤ (m : Int) := by rw [ecc]; omega
        have HL := Lib.hid hle
        clear hle
        have HE := Lib.hid ec
        clear ec ecc ew
        go_upto_region 6 with fail
        simp only [HE.out]
        have hw2 : IntKind.i64.wrap ((c : Int) * (c : Int)) = (c : Int) * (c : Int) := HW2.out
        go_wp2
        go_round
        case rel =>
          obtain ⟨ha, hb, hc1, hc2, hb2, ha1⟩ := HC.out
          have := HL.out
          exact ⟨a, c, rfl, by first | rfl | go_num, ha1, ha, by omega, hc1, by omega⟩
        case measure => simp [intOf]; omega
    · obtain rfl : b = a + 1 := by omega
      have hr := Lib.hid (rt_unique ha hb)
      clear ha hb hgt
      go_wp2
      go_ret
      exact ⟨ret_int (by rw [hr.out]), rfl⟩
theorem rroot_neg (n : Int) (h : n < 1) (w : World) :
    Calls Tryz.prog 115 #[.int .i64 n] w fun e w' => e = .returned (.int .i64 0) ∧ w = w' := by
  go_enter Tryz.func115, Tryz.ntmps115
  go_wp2
  go_ret
  exact ⟨rfl, rfl⟩
theorem rroot_any (n : Int) (w : World) (h : n ≤ 9223372036854775807) :
    Calls Tryz.prog 115 #[.int .i64 n] w fun e w' => e = .returned (.int .i64 (rtI n)) ∧ w = w' := by
  by_cases h1 : n < 1
  · have e : rtI n = 0 := by
      unfold rtI
      rw [show n.toNat = 0 by omega]
      rfl
    rw [e]
    exact rroot_neg n h1 w
  · obtain ⟨m, rfl⟩ : ∃ m : Nat, n = m := ⟨n.toNat, by omega⟩
    have e : rtI (m : Int) = rt m := by simp [rtI]
    rw [e]
    exact rroot_pos m (by omega) (by omega) w
set_option maxHeartbeats 1000000 in
theorem rroof_any (n : Int) (w : World) (h0 : 0 ≤ n) (h : n ≤ 9223372036854775807) :
    Calls Tryz.prog 116 #[.int .i64 n] w fun e w' => e = .returned (.int .i64 (rfI n)) ∧ w = w' := by
  have hb := rtI_bd n h
  have hs := rtI_sq n h0
  have hn : (0 : Int) ≤ rtI n * rtI n := Int.mul_nonneg hb.1 hb.1
  have hR : ∀ W, Calls Tryz.prog 115 #[.int .i64 n] W fun e w' => e = .returned (.int .i64 (rtI n)) ∧ W = w' := fun W => rroot_any n W h
  have HF : Hid (rfI n = if rtI n * rtI n < n then rtI n + 1 else rtI n) := rfl
  generalize rtI n = r at hb hs hn hR HF
  generalize rfI n = f at HF ⊢
  obtain ⟨hb1, hb2⟩ := hb
  have HR := Lib.hid hR
  clear hR
  have e1 : IntKind.i64.wrap (r * r) = r * r := IntWalk.i64_in _ (by omega)
  by_cases hlt : r * r < n
  · have HF2 : Hid (f = r + 1) := HF.out.trans (if_pos hlt)
    go_enter Tryz.func116, Tryz.ntmps116
    go_wp2_with (go_at_call 115; refine (HR.out _).mono ?_; rintro e w' ⟨rfl, rfl⟩)
    go_ret
    exact ⟨by rw [HF2.out]; first | rfl | exact ret_int (IntWalk.i64_in _ (by omega)), rfl⟩
  · have HF2 : Hid (f = r) := HF.out.trans (if_neg hlt)
    go_enter Tryz.func116, Tryz.ntmps116
    go_wp2_with (go_at_call 115; refine (HR.out _).mono ?_; rintro e w' ⟨rfl, rfl⟩)
    go_ret
    exact ⟨by rw [HF2.out]; rfl, rfl⟩

theorem rleast_any (x : Ic) (w : World) :
    Calls Tryz.prog 84 #[.agg #[.int .i64 x.b0, .int .i64 x.b1, .int .i64 x.w0, .int .i64 x.w1, .int .i64 x.q0, .int .i64 x.q1, .int .i64 x.s0, .int .i64 x.s1]] w fun e w' => e = .returned (.agg #[.int .i64 x.b0, .int .i64 x.w0, .int .i64 x.q0, .int .i64 x.s0]) ∧ Below w.heap.size w w' := by
  go_enter Tryz.func84, Tryz.ntmps84
  go_wp2
  refine bodyPost_ret (v := .agg #[.int .i64 x.b0, .int .i64 x.w0, .int .i64 x.q0, .int .i64 x.s0]) (by simp [results, Tryz.results84, go_sem]) rfl ⟨rfl, by (repeat (first | exact Below.refl _ _ | assumption | refine Below.drew ?_ | refine Below.drewN ?_ _ | refine blT ?_ | refine blU ?_))⟩
theorem rgreatest_any (x : Ic) (w : World) :
    Calls Tryz.prog 85 #[.agg #[.int .i64 x.b0, .int .i64 x.b1, .int .i64 x.w0, .int .i64 x.w1, .int .i64 x.q0, .int .i64 x.q1, .int .i64 x.s0, .int .i64 x.s1]] w fun e w' => e = .returned (.agg #[.int .i64 x.b1, .int .i64 x.w1, .int .i64 x.q1, .int .i64 x.s1]) ∧ Below w.heap.size w w' := by
  go_enter Tryz.func85, Tryz.ntmps85
  go_wp2
  refine bodyPost_ret (v := .agg #[.int .i64 x.b1, .int .i64 x.w1, .int .i64 x.q1, .int .i64 x.s1]) (by simp [results, Tryz.results85, go_sem]) rfl ⟨rfl, by (repeat (first | exact Below.refl _ _ | assumption | refine Below.drew ?_ | refine Below.drewN ?_ _ | refine blT ?_ | refine blU ?_))⟩
theorem rhull_any (a b c d : Int) (w : World) :
    Calls Tryz.prog 88 #[.agg #[.int .i64 a, .int .i64 b], .agg #[.int .i64 c, .int .i64 d]] w fun e w' => e = .returned (.agg #[.int .i64 (min a c), .int .i64 (max b d)]) ∧ Below w.heap.size w w' := by
  go_enter Tryz.func88, Tryz.ntmps88
  go_wp2
  refine bodyPost_ret (v := .agg #[.int .i64 (min a c), .int .i64 (max b d)]) (by simp [results, Tryz.results88, go_sem]) rfl ⟨rfl, by (repeat (first | exact Below.refl _ _ | assumption | refine Below.drew ?_ | refine Below.drewN ?_ _ | refine blT ?_ | refine blU ?_))⟩

set_option maxRecDepth 100000 in
set_option maxHeartbeats 2000000 in
theorem rmelted_any (b w0 q s t : Int) (w : World) (h1 : 0 ≤ b) (h2 : b ≤ 1000000000) (h3 : 0 ≤ w0) (h4 : w0 ≤ 1000000000) (h5 : 0 ≤ s) (h6 : s ≤ 1000000000) (h7 : 0 ≤ t) (h8 : t ≤ 1000000000) :
    Calls Tryz.prog 107 #[.agg #[.int .i64 b, .int .i64 w0, .int .i64 q, .int .i64 s], .int .i64 t] w fun e w' => e = .returned (.agg #[.int .i64 (mD b (mD (mD t s) w0)), .int .i64 (mD w0 (mD t s)), .int .i64 q, .int .i64 (mD s t)]) ∧ Below w.heap.size w w' := by
  have e1 : IntKind.i64.wrap (s - min s t) = s - min s t := IntWalk.i64_in _ (by omega)
  have e2 : IntKind.i64.wrap (t - min s t) = t - min s t := IntWalk.i64_in _ (by omega)
  have d1 : s - min s t = mD s t := by unfold mD; omega
  have d2 : t - min s t = mD t s := by unfold mD; omega
  have z1 : 0 ≤ mD t s ∧ mD t s ≤ 1000000000 := by unfold mD; omega
  rw [d1] at e1
  rw [d2] at e2
  generalize hS : mD s t = S at d1 e1 ⊢
  generalize hU : mD t s = U at d2 e2 z1 ⊢
  have e3 : IntKind.i64.wrap (w0 - min w0 U) = w0 - min w0 U := IntWalk.i64_in _ (by omega)
  have e4 : IntKind.i64.wrap (U - min w0 U) = U - min w0 U := IntWalk.i64_in _ (by omega)
  have d3 : w0 - min w0 U = mD w0 U := by unfold mD; omega
  have d4 : U - min w0 U = mD U w0 := by unfold mD; omega
  have z2 : 0 ≤ mD U w0 ∧ mD U w0 ≤ 1000000000 := by unfold mD; omega
  rw [d3] at e3
  rw [d4] at e4
  generalize hW : mD w0 U = W0 at d3 e3 ⊢
  generalize hV : mD U w0 = V at d4 e4 z2 ⊢
  have e5 : IntKind.i64.wrap (b - min b V) = b - min b V := IntWalk.i64_in _ (by omega)
  have d5 : b - min b V = mD b V := by unfold mD; omega
  rw [d5] at e5
  generalize hB : mD b V = B at d5 e5 ⊢
  clear hS hU hW hV hB z1 z2 h1 h2 h3 h4 h5 h6 h7 h8
  go_enter Tryz.func107, Tryz.ntmps107
  go_wp2
  refine bodyPost_ret (v := .agg #[.int .i64 B, .int .i64 W0, .int .i64 q, .int .i64 S]) (by simp [results, Tryz.results107, go_sem, d1, d2, d3, d4, d5, e1, e2, e3, e4, e5]) rfl ⟨rfl, by (repeat (first | exact Below.refl _ _ | assumption | refine Below.drew ?_ | refine Below.drewN ?_ _ | refine blT ?_ | refine blU ?_))⟩

set_option maxRecDepth 100000 in
set_option maxHeartbeats 2000000 in
theorem rthawed_any (l : Lw) (va : Option Addr) (vcap : Nat) (t : Int) (w : World) (h1 : 0 ≤ t * l.m0) (h2 : t * l.m0 ≤ 9000000000000000000) (h3 : 0 ≤ t * l.m1) (h4 : t * l.m1 ≤ 9000000000000000000) :
    Calls Tryz.prog 108 #[.agg #[.int .i64 l.gr, .int .i64 l.la, (.slice va l.n vcap), .int .i64 l.m0, .int .i64 l.m1, .int .i64 l.so, .int .i64 l.h0, .int .i64 l.h1], .int .i64 t] w fun e w' => e = .returned (.agg #[.int .i64 (gotL t l.m0), .int .i64 (gotH t l.m1)]) ∧ Below w.heap.size w w' := by
  have HD : Hid (∀ W, Calls Tryz.prog 72 #[.int .i64 t, .int .i64 l.m0] W fun e w' => e = .returned (.int .i64 (gotL t l.m0)) ∧ Below W.heap.size W w') := fun W => rdown_b t l.m0 W h1 h2
  have HU : Hid (∀ W, Calls Tryz.prog 73 #[.int .i64 t, .int .i64 l.m1] W fun e w' => e = .returned (.int .i64 (gotH t l.m1)) ∧ Below W.heap.size W w') := fun W => rup_b t l.m1 W h3 h4
  generalize gotL t l.m0 = g0 at HD ⊢
  generalize gotH t l.m1 = g1 at HU ⊢
  clear h1 h2 h3 h4
  have jL := (Blk.new w #[.int .i64 l.gr, .int .i64 l.la, .slice va l.n vcap, .int .i64 l.m0, .int .i64 l.m1, .int .i64 l.so, .int .i64 l.h0, .int .i64 l.h1] 26).alloc (.cells #[.int .i64 0, .int .i64 0] 24)
  have jR : Two _ _ _ := ⟨_, _, Blk.new1 w (.cells #[.int .i64 l.gr, .int .i64 l.la, .slice va l.n vcap, .int .i64 l.m0, .int .i64 l.m1, .int .i64 l.so, .int .i64 l.h0, .int .i64 l.h1] 26) #[.int .i64 0, .int .i64 0] 24⟩
  have jB : Below w.heap.size w ((w.alloc (.cells #[.int .i64 l.gr, .int .i64 l.la, .slice va l.n vcap, .int .i64 l.m0, .int .i64 l.m1, .int .i64 l.so, .int .i64 l.h0, .int .i64 l.h1] 26)).alloc (.cells #[.int .i64 0, .int .i64 0] 24)) := by (repeat (first | exact Below.refl _ _ | assumption | refine Below.drew ?_ | refine Below.drewN ?_ _ | refine blT ?_ | refine blU ?_))
  go_enter Tryz.func108, Tryz.ntmps108
  go_upto_region 1 with fail
  generalize (w.alloc (.cells #[.int .i64 l.gr, .int .i64 l.la, .slice va l.n vcap, .int .i64 l.m0, .int .i64 l.m1, .int .i64 l.so, .int .i64 l.h0, .int .i64 l.h1] 26)).alloc (.cells #[.int .i64 0, .int .i64 0] 24) = V at jL jR jB ⊢
  (
 refine wp_region_held_drew (S := (fun w' => Blk w' w.heap.size #[.int .i64 l.gr, .int .i64 l.la, .slice va l.n vcap, .int .i64 l.m0, .int .i64 l.m1, .int .i64 l.so, .int .i64 l.h0, .int .i64 l.h1] 26 ∧ Two w' (w.heap.size + 1) 24 ∧ Below w.heap.size w w')) (by kernel_rfl) ?_ (fun hH => ?_)
 · (try dsimp only); (exact ⟨jL.drew, jR, jB.drew⟩)
 refine tkY 0 (some 5) ?_ ?_ ?_
 rotate_left
 · intro w _; go_simp; (try with_reducible rfl)
 (try simp only [cq])
 refine tkY 1 (some 6) ?_ ?_ ?_
 rotate_left
 · intro w hS0; (try dsimp only at hS0); obtain ⟨kl, _, _⟩ := hS0; obtain ⟨l0, l1, l2, l3, l4, l5, l6, l7⟩ := kl.c8;go_simp; (try with_reducible rfl)
 (try simp only [cq])
 refine tkY 2 (some 7) ?_ ?_ ?_
 rotate_left
 · intro w hS0; (try dsimp only at hS0); obtain ⟨kl, _, _⟩ := hS0; obtain ⟨l0, l1, l2, l3, l4, l5, l6, l7⟩ := kl.c8;go_simp; (try with_reducible rfl)
 (try simp only [cq])
 refine tkY 3 (some 8) ?_ ?_ ?_
 rotate_left
 · intro w hS0; (try dsimp only at hS0); obtain ⟨kl, _, _⟩ := hS0; obtain ⟨l0, l1, l2, l3, l4, l5, l6, l7⟩ := kl.c8;go_simp; (try with_reducible rfl)
 (try simp only [cq])
 refine tkY 5 (some 10) ?_ ?_ ?_
 rotate_left
 · intro w _; go_simp; (try with_reducible rfl)
 (try simp only [cq])
 refine tkY 6 (some 11) ?_ ?_ ?_
 rotate_left
 · intro w hS0; (try dsimp only at hS0); obtain ⟨kl, _, _⟩ := hS0; obtain ⟨l0, l1, l2, l3, l4, l5, l6, l7⟩ := kl.c8;go_simp; (try with_reducible rfl)
 (try simp only [cq])
 refine tkY 7 (some 12) ?_ ?_ ?_
 rotate_left
 · intro w hS0; (try dsimp only at hS0); obtain ⟨kl, _, _⟩ := hS0; obtain ⟨l0, l1, l2, l3, l4, l5, l6, l7⟩ := kl.c8;go_simp; (try with_reducible rfl)
 (try simp only [cq])
 refine tkY 8 (some 13) ?_ ?_ ?_
 rotate_left
 · intro w hS0; (try dsimp only at hS0); obtain ⟨kl, _, _⟩ := hS0; obtain ⟨l0, l1, l2, l3, l4, l5, l6, l7⟩ := kl.c8;go_simp; (try with_reducible rfl)
 (try simp only [cq])
 refine wpAnyH_ready (rs := [4]) (by kernel_rfl) (by simp) ?_
 refine arc1 (some 9) fun K hK => ?_
 go_simp
 (refine (HD.out _).mono ?_; rintro e w' ⟨rfl, hb⟩)
 refine hK.out _ _ ?_ ?_
 · (exact ⟨hH.1.call hb, hH.2.1.call hb, bwS hH.2.2 (Nat.le_refl _) hb⟩)
 (try clear hH); (try clear hb)
 intro hH
 clear hK K
 (try simp only [cq])
 refine wpAnyH_ready (rs := [9]) (by kernel_rfl) (by simp) ?_
 refine arc1 (some 14) fun K hK => ?_
 go_simp
 (refine (HU.out _).mono ?_; rintro e w' ⟨rfl, hb⟩)
 refine hK.out _ _ ?_ ?_
 · (exact ⟨hH.1.call hb, hH.2.1.call hb, bwS hH.2.2 (Nat.le_refl _) hb⟩)
 (try clear hH); (try clear hb)
 intro hH
 clear hK K
 (try simp only [cq])
 refine tkY 10 (some 15) ?_ ?_ ?_
 rotate_left
 · intro w _; go_simp; (try with_reducible rfl)
 (try simp only [cq])
 refine wpAnyH_ready (rs := [11]) (by kernel_rfl) (by simp) ?_
 refine arc1 none fun K hK => ?_
 obtain ⟨h1, ⟨u0, u1, hR⟩, h3⟩ := hH
 obtain ⟨r0, r1⟩ := hR.c2
 have fr0 := hR.free 0
 have fr1 := hR.free 1
 have zR := hR.lt
 have HS := Lib.hid (show Blk _ _ #[.int .i64 g0, .int .i64 g1] _ from (hR.set 0 (.int .i64 g0)).set 1 (.int .i64 g1))
 have HB := Lib.hid (below_set2 (c := w.heap.size + 1) (j := 0) (k := 1) h3 (by omega) (.int .i64 g0) (.int .i64 g1))
 go_simp
 refine hK.out _ _ ?_ ?_
 · exact ⟨(h1.other _ _ (by simp)).other _ _ (by simp), ⟨_, _, HS.out⟩, HB.out⟩
 (try clear hH); (try clear hb)
 intro hH
 clear hK K
 (try simp only [cq])
 refine wpAnyH_done (by kernel_rfl) ?_ _
 (try dsimp only [Act.put])
 (try simp only [cq])
 clear hH r0 r1 fr0 fr1 zR h1 h3 hR jL jR jB
 obtain ⟨z0, z1⟩ := HS.out.c2
 go_wp2
 exact bodyPost_ret (v := .agg #[.int .i64 g0, .int .i64 g1]) (by simp [results, Tryz.results108, go_sem, z0, z1]) rfl ⟨rfl, HB.out⟩ )
end Go.Proofs.YtdbiijldincoiaaGreat
