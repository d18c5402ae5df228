/-
  sum (the law of layer 6), of a list of numbers.
  FuelTruth: a truth lies in what is known of a book.
  In, SameBooks (sastrugikit), where it is so.
  What is known of a book is just what its truths have (mathematics): each end is met by a circulation; refined books.
-/
import Derived.Test.YtpeogfcfiabcfaaTail
import Derived.Test.YtpeogfcfiabcfaaSmi
import Derived.Test.YtpeogfcfiabcfaaHoff
import Derived.Test.YtpeogfcfiabcfaaBkf
import Derived.Test.YtpeogfcfiabcfaaMis
import Derived.Test.YtpeogfcfiabcfaaLot
import Derived.Test.YtpeogfcfiabcfaaAwk
import Derived.Test.YtpeogfcfiabcfaaNew
import Derived.Test.YtpeogfcfiabcfaaIns
set_option linter.unusedVariables false
set_option linter.unusedSimpArgs false
namespace Go.Proofs.Ytpeogfcfiabcfaa
open Go.RowKit

theorem sumB {X : Nat → Int} {n : Nat} {b : Int} (hX : ∀ i, i < n → -b ≤ X i ∧ X i ≤ b) : ∀ k, k ≤ n → -(b * k) ≤ sumT X k ∧ sumT X k ≤ b * k
  | 0, _ => by show -(b * 0) ≤ 0 ∧ (0 : Int) ≤ b * 0; rw [Int.mul_zero]; omega
  | k + 1, hk => by
    have a := sumB hX k (by omega)
    have c := hX k (by omega)
    have e : b * ((k + 1 : Nat) : Int) = b * k + b := by rw [Int.natCast_add, Int.mul_add]; simp
    rw [e]
    show -(b * k + b) ≤ sumT X k + X k ∧ sumT X k + X k ≤ b * k + b
    omega
set_option maxRecDepth 100000 in
set_option maxHeartbeats 1000000 in
theorem lsum_any (n : Nat) (X : Nat → Int) (v : Value) (hn : n ≤ 1000) (hX : ∀ i, i < n → -1000000000000 ≤ X i ∧ X i ≤ 1000000000000) (w : World) (h : IntsAt w v n X) :
    Calls Try.prog 52 #[v] w fun e w' => e = .returned (.int .i64 (sumT X n)) ∧ w' = w := by
  obtain ⟨a, c, rfl, -, -, g⟩ := h
  have HG := Lib.hid g
  clear g
  go_enter Try.func52, Try.ntmps52
  go_wp2_with fail
  go_loopw [3, 4] (fun s i wr => ∃ k : Nat, i = .int .i64 k ∧ k ≤ n ∧ s = .int .i64 (sumT X k) ∧ wr = w) (fun _ i _ => n - (intOf i).toNat)
  case atStart => exact ⟨0, rfl, Nat.zero_le _, rfl, rfl⟩
  case round =>
    obtain ⟨k, rfl, hk, rfl, rfl⟩ := hrel
    by_cases hlt : k < n
    · have hltI : (k : Int) < n := by omega
      obtain ⟨b, o, ha, hc⟩ := HG.out (by omega)
      subst ha
      have q := AtC.c1 (show AtC wr b o n 1 (inC X) from hc) hlt rfl
      have sb := sumB hX k (by omega)
      have xb := hX k hlt
      have hs : sumT X (k + 1) = sumT X k + X k := rfl
      have HS := Lib.hid hs
      clear hs hc
      generalize sumT X k = s at HS sb ⊢
      generalize X k = x at HS xb q
      have e1 : IntKind.i64.wrap (s + x) = s + x := IntWalk.i64_in _ (by omega)
      go_wp2
      go_roundw
      case rel => exact ⟨k + 1, by go_num, by omega, by rw [HS.out], by first | rfl | trivial⟩
      case measure => simp [intOf]; omega
    · obtain rfl : k = n := by omega
      go_wp2
      go_ret
      exact ⟨rfl, rfl⟩
end Go.Proofs.Ytpeogfcfiabcfaa

namespace Go.Proofs.Ytpeogfcfiabcfaa
open Go.RowKit

theorem nrA_yes (E : Nat → Fl) (c : Fl → Bool) (x y : Int) (A : Nat → Int) {j N : Nat} (hj : j < N) (h : c (E j) = true) : nrA E c x y A N j = max (A j) (x - (y - (E j).h)) := if_pos ⟨hj, h⟩
theorem nrA_not (E : Nat → Fl) (c : Fl → Bool) (x y : Int) (A : Nat → Int) {j N : Nat} (h : ¬ c (E j) = true) : nrA E c x y A N j = A j := if_neg (fun e => h e.2)
theorem nrB_yes (E : Nat → Fl) (c : Fl → Bool) (x y : Int) (A : Nat → Int) {j N : Nat} (hj : j < N) (h : c (E j) = true) : nrB E c x y A N j = min (A j) (x - (y - (E j).l)) := if_pos ⟨hj, h⟩
theorem nrB_not (E : Nat → Fl) (c : Fl → Bool) (x y : Int) (A : Nat → Int) {j N : Nat} (h : ¬ c (E j) = true) : nrB E c x y A N j = A j := if_neg (fun e => h e.2)
theorem kn_in {E : Nat → Fl} {N : Nat} {x : Nat → Int} (h : Circ E N x) : ∀ s j, j < N → (knA E N s).1 j ≤ x j ∧ x j ≤ (knA E N s).2 j
  | 0, j, hj => h.1 j hj
  | s + 1, j, hj => by
    obtain ⟨⟨-, a⟩, -, b⟩ := h.keeps hj
    have i := kn_in h s j hj
    have a1 := a (bS s)
    have b1 := b (bS s)
    have a2 := a (neg (bS s))
    have b2 := b (neg (bS s))
    have e1 : oLo E N (neg (bS s)) = iLo E N (bS s) := by unfold oLo iLo; simp only [cOut_neg]
    have e2 : iHi E N (neg (bS s)) = oHi E N (bS s) := by unfold oHi iHi; simp only [cIn_neg]
    have e3 : oHi E N (neg (bS s)) = iHi E N (bS s) := by unfold oHi iHi; simp only [cOut_neg]
    have e4 : iLo E N (neg (bS s)) = oLo E N (bS s) := by unfold oLo iLo; simp only [cIn_neg]
    rw [cIn_neg, e1, e2] at a2
    rw [cIn_neg, e3, e4] at b2
    show nrA E (cOut (bS s)) _ _ (nrA E (cIn (bS s)) _ _ (knA E N s).1 N) N j ≤ x j ∧ x j ≤ nrB E (cOut (bS s)) _ _ (nrB E (cIn (bS s)) _ _ (knA E N s).2 N) N j
    by_cases p : cIn (bS s) (E j) = true
    · have p1 := a1 p
      have p2 := b1 p
      by_cases q : cOut (bS s) (E j) = true
      · have q1 := a2 q
        have q2 := b2 q
        rw [nrA_yes E _ _ _ _ hj q, nrA_yes E _ _ _ _ hj p, nrB_yes E _ _ _ _ hj q, nrB_yes E _ _ _ _ hj p]
        omega
      · rw [nrA_not E _ _ _ _ q, nrA_yes E _ _ _ _ hj p, nrB_not E _ _ _ _ q, nrB_yes E _ _ _ _ hj p]
        omega
    · by_cases q : cOut (bS s) (E j) = true
      · have q1 := a2 q
        have q2 := b2 q
        rw [nrA_yes E _ _ _ _ hj q, nrA_not E _ _ _ _ p, nrB_yes E _ _ _ _ hj q, nrB_not E _ _ _ _ p]
        omega
      · rw [nrA_not E _ _ _ _ q, nrA_not E _ _ _ _ p, nrB_not E _ _ _ _ q, nrB_not E _ _ _ _ p]
        exact i
theorem BkUp.lb {n m : Nat} {A : Nat → Ac} {M : Nat → Mv} {O C X : Nat → Int} (h : BkUp n m A M O C X) (i : Nat) (hi : i < n) : -1000000000000 ≤ lsn O C M X m i ∧ lsn O C M X m i ≤ 1000000000000 := by
  have := h.ls i hi
  have b : losH (A i).ki ≤ 46000000000 := by
    unfold losH
    by_cases e : (A i).ki = 2
    · rw [if_pos e]; omega
    · rw [if_neg e]; omega
  omega
theorem sumT_nn {f : Nat → Int} {L : Int} (h : ∀ i, 0 ≤ f i ∧ f i ≤ L) : ∀ n : Nat, n ≤ 8 → 0 ≤ L → 0 ≤ sumT f n ∧ sumT f n ≤ 8 * L := fun n hn hL => by
  have a := have_bd (n := n) h
  have c : (n : Int) * L ≤ 8 * L := Int.mul_le_mul_of_nonneg_right (by omega) hL
  omega
set_option maxRecDepth 100000 in
set_option maxHeartbeats 16000000 in
theorem truth_any (a0 : Option Addr) (n0 c0 : Nat) (w : World) (hN : NumsAt w a0 n0) :
    Calls Try.prog 8 #[.slice a0 n0 c0] w fun e w' => e = .returned (.bool true) ∧ Below w.heap.size w w' := by
  have HAw := Lib.hid (fun (W : World) => awake_any W)
  go_enter Try.func8, Try.ntmps8
  go_wp2_with fail
  refine (newseed_at a0 n0 c0 _ hN).mono ?_
  rintro e w1 ⟨rfl, hS, hb⟩
  obtain ⟨bs, hbs⟩ : ∃ x, w.heap.size = x := ⟨_, rfl⟩
  have zs1 : bs < w1.heap.size := by have := hS.choose_spec.lt; omega
  have HB := Lib.hid (fun (W : World) (h : Drawn bs w1 W) => (show Below w.heap.size w W from Drawn.below hb h (by omega)))
  rw [hbs] at hS ⊢
  clear hb hN
  have k3 := Blk.new w1 #[.int .i64 20, .int .i64 1000, .int .i64 1000000] 3
  have hD := Drawn.alloc hS (.cells #[.int .i64 20, .int .i64 1000, .int .i64 1000000] 3)
  go_wp2_with fail
  refine (of_in w1.heap.size 0 3 3 (fun i => [20, 1000, 1000000].getD i 0) bs _ hD.seed (by omega) (by omega) (by omega) (cells3 k3)).mono ?_
  rintro e w2 ⟨i, hi, rfl, hd⟩
  obtain ⟨L, hL9⟩ : ∃ z : Int, [20, 1000, 1000000].getD i 0 = z := ⟨_, rfl⟩
  have hL : 0 ≤ L ∧ L ≤ 1000000 := by
    rw [← hL9]
    obtain rfl | rfl | rfl : i = 0 ∨ i = 1 ∨ i = 2 := by omega
    all_goals decide
  rw [hL9]
  replace hD := hD.trans hd
  clear hL9 hi hd k3
  have k3 := Blk.new w2 #[.int .i64 0, .int .i64 3, .int .i64 50] 3
  have zq : bs < w2.heap.size := hD.seed.choose_spec.lt
  replace hD := hD.new (.cells #[.int .i64 0, .int .i64 3, .int .i64 50] 3)
  go_wp2_with fail
  refine (of_in w2.heap.size 0 3 3 (fun i => [0, 3, 50].getD i 0) bs _ hD.seed (by omega) (by omega) (by omega) (cells3 k3)).mono ?_
  rintro e w3 ⟨i, hi, rfl, hd⟩
  obtain ⟨wd, hw9⟩ : ∃ z : Int, [0, 3, 50].getD i 0 = z := ⟨_, rfl⟩
  have hw : 0 ≤ wd ∧ wd ≤ 1000 := by
    rw [← hw9]
    obtain rfl | rfl | rfl : i = 0 ∨ i = 1 ∨ i = 2 := by omega
    all_goals decide
  rw [hw9]
  replace hD := hD.trans hd
  clear hw9 hi hd k3 zq
  go_wp2_with fail
  refine (bookof_in 8 10 L wd bs _ hD.seed (by omega) (by omega) hL hw).mono ?_
  rintro e w4 ⟨n, m, A, M, O, C, X, vA, vM, vO, vC, vX, rfl, -, hU, ⟨rA, rM, rO, rC, rX⟩, hd⟩
  replace hD := hD.trans hd
  clear hd hL hw hS
  have jB := HB.out _ hD
  clear HB hD
  obtain ⟨aA, cA, rfl, -, -, -⟩ := row_at rA (by omega)
  obtain ⟨aM, cM, rfl, -, -, -⟩ := row_at rM (by omega)
  obtain ⟨aO, cO, rfl, -, -, -⟩ := row_at rO (by omega)
  obtain ⟨aC, cC, rfl, -, -, -⟩ := row_at rC (by omega)
  obtain ⟨aX, cX, rfl, -, -, -⟩ := row_at rX (by omega)
  have HF := Lib.hid (fun (W : World) (h : Below w4.heap.size w4 W) => (show AcsAt W (.slice aA n cA) n A ∧ MvsAt W (.slice aM m cM) m M ∧ IntsAt W (.slice aO n cO) n O ∧ IntsAt W (.slice aC n cC) n C ∧ IntsAt W (.slice aX m cX) m X from
    ⟨(lat_of_row rA (by omega) (fun _ _ => rfl)).later h, (lat_of_row rM (by omega) (fun _ _ => rfl)).later h, (lat_of_row rO (by omega) (fun _ _ => rfl)).later h, (lat_of_row rC (by omega) (fun _ _ => rfl)).later h, (lat_of_row rX (by omega) (fun _ _ => rfl)).later h⟩))
  clear rA rM rO rC rX
  have HU := Lib.hid hU
  clear hU
  have k4 := (Blk.new w4 #[.slice aA n cA, .slice aM m cM] 44).alloc (.cells #[.slice aO n cO, .slice aC n cC, .slice aX m cX] 46)
  have k5 := Blk.new1 w4 (.cells #[.slice aA n cA, .slice aM m cM] 44) #[.slice aO n cO, .slice aC n cC, .slice aX m cX] 46
  have hB4 : Below w4.heap.size w4 ((w4.alloc (.cells #[.slice aA n cA, .slice aM m cM] 44)).alloc (.cells #[.slice aO n cO, .slice aC n cC, .slice aX m cX] 46)) := by (repeat (first | exact Below.refl _ _ | assumption | refine Below.drew ?_ | refine Below.drewN ?_ _ | refine blT ?_ | refine blU ?_))
  go_upto_region 3 with fail
  obtain ⟨V, hV⟩ : ∃ V, Blk.wld k4 = V := ⟨_, rfl⟩
  simp only [Blk.wld] at hV
  rw [hV] at k4 k5 hB4 ⊢
  clear hV
  obtain ⟨b4, hb4⟩ : ∃ b, w4.heap.size = b := ⟨_, rfl⟩
  have z4 := hB4.size
  have HV := Lib.hid (fun (W : World) (h : Below V.heap.size V W) => And.intro (k4.call h) (And.intro (k5.call h) (HF.out W (hB4.trans (h.mono z4)))))
  have HW := Lib.hid (fun (W : World) (h : Below V.heap.size V W) => (show Below w.heap.size w W from (jB.trans (hB4.mono jB.size)).trans (h.mono (by have := jB.size; omega))))
  rw [hb4] at k4 k5 HV ⊢
  clear k4 k5 hB4 HF jB z4 hb4
  obtain ⟨KA, hKA⟩ : ∃ K, (knA (flE n A m M) (flN n m) (2 ^ (n + 1))).1 = K := ⟨_, rfl⟩
  obtain ⟨KB, hKB⟩ : ∃ K, (knA (flE n A m M) (flN n m) (2 ^ (n + 1))).2 = K := ⟨_, rfl⟩
  have HK := Lib.hid (fun j (hj : j < flN n m) => (show KA j ≤ flX n m O C X (lsn O C M X m) j ∧ flX n m O C X (lsn O C M X m) j ≤ KB j by rw [← hKA, ← hKB]; exact kn_in HU.out.circ _ j hj))
  have H1 := Lib.hid (fun (W : World) (h : Below V.heap.size V W) => losses_ok n A m M (.slice aA n cA) (.slice aM m cM) W HU.out.n8 HU.out.m30 (fun i hi => by have := HU.out.mv.ok i hi; omega) (HV.out W h).2.2.1 (HV.out W h).2.2.2.1 HU.out.names HU.out.rows HU.out.flok (HU.out.cut _) KA KB hKA hKB)
  have H2 := Lib.hid (fun (W : World) (h : Below V.heap.size V W) => refine_ok n A m M (.slice aA n cA) (.slice aM m cM) W HU.out.n1 HU.out.n8 HU.out.m30 (fun i hi => by have := HU.out.mv.ok i hi; omega) (HV.out W h).2.2.1 (HV.out W h).2.2.2.1 HU.out.names HU.out.rows HU.out.flok (HU.out.cut _) KA KB hKA hKB)
  have HOC : Hid (∀ i, -10000000000 ≤ O i - C i ∧ O i - C i ≤ 10000000000) := fun i => by have := HU.out.ob i; have := HU.out.cb i; omega
  have HOb : Hid (∀ i, -10000000000 ≤ O i ∧ O i ≤ 10000000000 ∧ -10000000000 ≤ C i ∧ C i ≤ 10000000000) := fun i => by have := HU.out.ob i; have := HU.out.cb i; omega
  have HXb : Hid (∀ i, i < m → 0 ≤ X i ∧ X i ≤ 10000000000) := fun i hi => by have := HU.out.mv.ok i hi; omega
  have HMb : Hid (∀ i, i < m → 0 ≤ (M i).fr ∧ (M i).fr < n ∧ 0 ≤ (M i).tt ∧ (M i).tt < n) := fun i hi => by have := HU.out.mv.ok i hi; omega
  have HA1 : Hid (∀ i, i < n → (A i).o0 ≤ O i ∧ O i ≤ (A i).o1 ∧ (A i).c0 ≤ C i ∧ C i ≤ (A i).c1) := fun i hi => by have := HU.out.a i hi; omega
  have HM1 : Hid (∀ i, i < m → (M i).lo ≤ X i ∧ X i ≤ (M i).hi) := fun i hi => by have := HU.out.mv.ok i hi; omega
  have H3 := Lib.hid (fun (W : World) (h : Below V.heap.size V W) => balance_ok n A m M O C X (.slice aA n cA) (.slice aM m cM) (.slice aO n cO) (.slice aC n cC) (.slice aX m cX) W HU.out.n1 HU.out.n8 HU.out.m30 (HV.out W h).2.2.1 (HV.out W h).2.2.2.1 (HV.out W h).2.2.2.2.1 (HV.out W h).2.2.2.2.2.1 (HV.out W h).2.2.2.2.2.2 HU.out.names HU.out.rows HU.out.flok (HU.out.cut _) HA1.out HM1.out HOC.out HOb.out HXb.out HMb.out HU.out.ls)
  have H4 := Lib.hid (fun (W : World) (h : Below V.heap.size V W) => losing_any n m A M O C X (.slice aA n cA) (.slice aM m cM) (.slice aO n cO) (.slice aC n cC) (.slice aX m cX) HU.out.n1 (by have := HU.out.n8; omega) (by have := HU.out.m30; omega) HOC.out HOb.out HXb.out HMb.out W (HV.out W h).2.2.1 (HV.out W h).2.2.2.1 (HV.out W h).2.2.2.2.1 (HV.out W h).2.2.2.2.2.1 (HV.out W h).2.2.2.2.2.2)
  have HLs := Lib.hid (lsn_sum O C M X n m HU.out.mv.nat)
  have HLb := Lib.hid HU.out.lb
  have hn8 := HU.out.n8
  have hm30 := HU.out.m30
  have hn1 := HU.out.n1
  clear hKA hKB HOC HOb HXb HMb HA1 HM1
  generalize hls : lsn O C M X m = ls at *
  clear hls
  have hB0 := Below.refl V.heap.size V
  obtain ⟨k4, -⟩ := HV.out _ hB0
  obtain ⟨p0, p1⟩ := k4.c2
  go_wp2_with fail
  clear p0 p1 k4
  refine (H1.out _ hB0).mono ?_
  rintro e w5 ⟨vl, rfl, rl, hb⟩
  obtain ⟨al, cl, rfl, -, -, -⟩ := row_at rl (by omega)
  have gl := lat_of_row rl (by omega) (fun _ _ => rfl)
  replace hB0 := hb
  clear hb rl H1
  obtain ⟨g0, hg0⟩ : ∃ z, KA (2 * n + m + n) = z := ⟨_, rfl⟩
  obtain ⟨g1, hg1⟩ : ∃ z, KB (2 * n + m + n) = z := ⟨_, rfl⟩
  rw [hg0, hg1]
  have HG := Lib.hid (And.intro hg0 hg1)
  clear hg0 hg1
  have k7 := Blk.new w5 #[.int .i64 g0, .int .i64 g1] 26
  replace gl := gl.later (show Below w5.heap.size w5 (w5.alloc (.cells #[.int .i64 g0, .int .i64 g1] 26)) by (repeat (first | exact Below.refl _ _ | assumption | refine Below.drew ?_ | refine Below.drewN ?_ _ | refine blT ?_ | refine blU ?_)))
  replace hB0 := bwA hB0 (Nat.le_refl _) (.cells #[.int .i64 g0, .int .i64 g1] 26)
  obtain ⟨k4, -⟩ := HV.out _ hB0
  obtain ⟨p0, p1⟩ := k4.c2
  go_wp2_with fail
  clear p0 p1 k4
  obtain ⟨V1, hV⟩ : ∃ V, Blk.wld k7 = V := ⟨_, rfl⟩
  simp only [Blk.wld] at hV
  rw [hV] at k7 gl hB0 ⊢
  clear hV
  obtain ⟨b7, hb7⟩ : ∃ b, w5.heap.size = b := ⟨_, rfl⟩
  rw [hb7] at k7 ⊢
  clear hb7
  refine (H2.out _ hB0).mono ?_
  rintro e w6 ⟨vf, uf, rfl, rf, rg, hb⟩
  obtain ⟨af, cf, rfl, -, -, -⟩ := row_at rf (by omega)
  obtain ⟨ag, cg, rfl, -, -, -⟩ := row_at rg (by omega)
  have gf := lat_of_row rf (by omega) (fun _ _ => rfl)
  have gg := lat_of_row rg (by omega) (fun _ _ => rfl)
  replace gl := gl.later hb
  replace k7 := k7.call hb
  replace hB0 := hB0.trans (hb.mono hB0.size)
  clear hb rf rg H2
  have k9 := Blk.new w6 #[.slice af n cf, .slice ag m cg] 44
  have hn6 : Below w6.heap.size w6 (w6.alloc (.cells #[.slice af n cf, .slice ag m cg] 44)) := by (repeat (first | exact Below.refl _ _ | assumption | refine Below.drew ?_ | refine Below.drewN ?_ _ | refine blT ?_ | refine blU ?_))
  replace gl := gl.later hn6
  replace gf := gf.later hn6
  replace gg := gg.later hn6
  replace k7 := k7.call hn6
  replace hB0 := hB0.trans (hn6.mono hB0.size)
  clear hn6
  obtain ⟨k4, k5, -⟩ := HV.out _ hB0
  obtain ⟨p0, p1⟩ := k4.c2
  have p2 := k5.cell 0 rfl
  have p3 := k5.cell 1 rfl
  have p4 := k5.cell 2 rfl
  go_wp2_with fail
  clear p0 p1 p2 p3 p4 k4 k5
  obtain ⟨V2, hV⟩ : ∃ V, Blk.wld k9 = V := ⟨_, rfl⟩
  simp only [Blk.wld] at hV
  rw [hV] at k7 k9 gl gf gg hB0 ⊢
  clear hV
  obtain ⟨b9, hb9⟩ : ∃ b, w6.heap.size = b := ⟨_, rfl⟩
  rw [hb9] at k9 ⊢
  clear hb9
  refine (H3.out _ hB0).mono ?_
  rintro e w7 ⟨vb, rfl, rb, hb⟩
  obtain ⟨ab, cb, rfl, -, -, -⟩ := row_at rb (by omega)
  have gb := lat_of_row rb (by omega) (fun _ _ => rfl)
  replace gl := gl.later hb
  replace gf := gf.later hb
  replace gg := gg.later hb
  replace k7 := k7.call hb
  replace k9 := k9.call hb
  replace hB0 := hB0.trans (hb.mono hB0.size)
  clear hb rb H3
  have HV7 := Lib.hid (fun (W : World) (h : Below w7.heap.size w7 W) => (show (Blk W b4 #[.slice aA n cA, .slice aM m cM] 44 ∧ Blk W (b4 + 1) #[.slice aO n cO, .slice aC n cC, .slice aX m cX] 46 ∧ Blk W b7 #[.int .i64 g0, .int .i64 g1] 26 ∧ Blk W b9 #[.slice af n cf, .slice ag m cg] 44) ∧ (SpansAt W (.slice al n cl) n (fun i => KA (2 * n + m + i)) (fun i => KB (2 * n + m + i)) ∧ IntsAt W (.slice ab n cb) n ls) ∧ (AcsAt W (.slice aA n cA) n A ∧ MvsAt W (.slice aM m cM) m M ∧ IntsAt W (.slice aO n cO) n O ∧ IntsAt W (.slice aC n cC) n C ∧ IntsAt W (.slice aX m cX) m X) ∧ (AcsAt W (.slice af n cf) n (rfA KA KB A 46) ∧ MvsAt W (.slice ag m cg) m (rfM KA KB (2 * n) M 46)) from
    have q := HV.out W (hB0.trans (h.mono hB0.size))
    ⟨⟨q.1, q.2.1, k7.call h, k9.call h⟩, ⟨gl.later h, gb.later h⟩, q.2.2, gf.later h, gg.later h⟩))
  have HW7 := Lib.hid (fun (W : World) (h : Below w7.heap.size w7 W) => HW.out W (hB0.trans (h.mono hB0.size)))
  have H5 := Lib.hid (fun (W : World) (h : Below w7.heap.size w7 W) => H4.out W (hB0.trans (h.mono hB0.size)))
  clear k7 k9 gl gf gg gb HV HW H4 hB0
  have hB := Below.refl w7.heap.size w7
  obtain ⟨⟨k4, k5, k7, k9⟩, -⟩ := HV7.out _ hB
  obtain ⟨p0, p1⟩ := k4.c2
  have p2 := k5.cell 0 rfl
  have p3 := k5.cell 1 rfl
  have p4 := k5.cell 2 rfl
  obtain ⟨p5, p6⟩ := k9.c2
  have e0 : ((0 : Int) != 0) = false := by decide
  have e1 : ((n : Int) != n) = false := by simp
  go_wp2_with fail
  clear p0 p1 p2 p3 p4 p5 p6 k4 k5 k7 k9
  obtain ⟨-, -, ⟨hA, hM, -⟩, hf, hg⟩ := HV7.out _ hB
  refine (shaped_yes n m _ _ _ _ _ _ _ _ _ hf hg hA hM).mono ?_
  rintro e w8 ⟨rfl, hb⟩
  replace hB := hB.trans (hb.mono hB.size)
  clear hb hA hM hf hg
  obtain ⟨⟨k4, k5, k7, k9⟩, -⟩ := HV7.out _ hB
  obtain ⟨p0, p1⟩ := k4.c2
  have p2 := k5.cell 0 rfl
  have p3 := k5.cell 1 rfl
  have p4 := k5.cell 2 rfl
  go_wp2_with fail
  clear p0 p1 p2 p3 p4 k4 k5 k7 k9
  refine (H5.out _ hB).mono ?_
  rintro e w9 ⟨vz, rfl, rz, hb⟩
  obtain ⟨az, cz, rfl, -, -, -⟩ := row_at rz (by omega)
  have gz := lat_of_row rz (by omega) (fun _ _ => rfl)
  replace hB := hB.trans (hb.mono hB.size)
  clear hb rz H5
  go_wp2_with fail
  obtain ⟨-, ⟨-, gb⟩, -⟩ := HV7.out _ hB
  refine (samei_ok n ls ls (fun _ _ => rfl) _ _ _ gb gz).mono ?_
  rintro e w10 ⟨rfl, hb⟩
  replace hB := hB.trans (hb.mono hB.size)
  clear hb gb gz e0 e1
  go_wp2_with fail
  go_loopw [13] (fun i wr => ∃ k : Nat, k ≤ n ∧ i = .int .i64 k ∧ Below w7.heap.size w7 wr) (fun i _ => n - (intOf i).toNat)
  case atStart => exact ⟨0, by omega, rfl, hB⟩
  case round =>
    clear hB
    obtain ⟨k, hkn, rfl, hB⟩ := hrel
    by_cases hlt : k < n
    · have hltI : (k : Int) < n := by omega
      have hk := HK.out (2 * n + m + k) (by unfold flN; omega)
      have ek : flX n m O C X ls (2 * n + m + k) = ls k := by unfold flX; rw [if_neg (by omega), if_neg (by omega), if_pos (by omega), show 2 * n + m + k - (2 * n + m) = k by omega]
      rw [ek] at hk
      clear ek
      have HC := Lib.hid (fun (W : World) (h : Below w7.heap.size w7 W) => (show ∃ bl ol bb ob, al = some ⟨bl, ol, none⟩ ∧ ab = some ⟨bb, ob, none⟩ ∧ n ≤ cl ∧ n ≤ cb ∧ (W.cell? ⟨bl, ol + k * 2, none⟩ = some (.int .i64 (KA (2 * n + m + k))) ∧ W.cell? ⟨bl, ol + k * 2 + 1, none⟩ = some (.int .i64 (KB (2 * n + m + k)))) ∧ W.cell? ⟨bb, ob + k, none⟩ = some (.int .i64 (ls k)) by
        obtain ⟨-, ⟨⟨_, _, ea, x1, -, gA⟩, _, _, eb, x2, -, gB⟩, -⟩ := HV7.out W h
        simp only [Value.slice.injEq] at ea eb
        obtain ⟨rfl, -, rfl⟩ := ea
        obtain ⟨rfl, -, rfl⟩ := eb
        obtain ⟨bl, ol, rfl, kl⟩ := gA (by omega)
        obtain ⟨bb, ob, rfl, kb⟩ := gB (by omega)
        exact ⟨bl, ol, bb, ob, rfl, rfl, x1, x2, AtC.c2 (show AtC W bl ol n 2 (spC (fun i => KA (2 * n + m + i)) (fun i => KB (2 * n + m + i))) from kl) hlt rfl, AtC.c1 (show AtC W bb ob n 1 (inC ls) from kb) hlt rfl⟩))
      obtain ⟨bl, ol, bb, ob, el, eb, -⟩ := HC.out _ hB
      have HC2 := Lib.hid (fun (W : World) (h : Below w7.heap.size w7 W) => (show (W.cell? ⟨bl, ol + k * 2, none⟩ = some (.int .i64 (KA (2 * n + m + k))) ∧ W.cell? ⟨bl, ol + k * 2 + 1, none⟩ = some (.int .i64 (KB (2 * n + m + k)))) ∧ W.cell? ⟨bb, ob + k, none⟩ = some (.int .i64 (ls k)) by
        obtain ⟨bl', ol', bb', ob', el', eb', -, -, q1, q2⟩ := HC.out _ h
        rw [el] at el'
        rw [eb] at eb'
        simp only [Option.some.injEq, Addr.mk.injEq, and_true] at el' eb'
        obtain ⟨rfl, rfl⟩ := el'
        obtain ⟨rfl, rfl⟩ := eb'
        exact ⟨q1, q2⟩))
      obtain ⟨-, -, -, -, -, -, zl, zb, -⟩ := HC.out _ hB
      subst el eb
      clear HC
      obtain ⟨a, ha⟩ : ∃ z, KA (2 * n + m + k) = z := ⟨_, rfl⟩
      obtain ⟨b, hb9⟩ : ∃ z, KB (2 * n + m + k) = z := ⟨_, rfl⟩
      obtain ⟨x, hx⟩ : ∃ z, ls k = z := ⟨_, rfl⟩
      rw [ha, hb9, hx] at hk HC2
      clear ha hb9 hx
      have HH := Lib.hid (fun (W : World) => has_ok a b x hk.1 hk.2 W)
      clear hk
      go_upto_region 11 with fail
      refine wp_region_held_drew (S := (fun W => Below w7.heap.size w7 W)) (by kernel_rfl) ?_ (fun hH => ?_)
      · (try dsimp only); (exact hB.drew)
      refine tkY 0 (some 82) ?_ ?_ ?_
      rotate_left
      · intro w _; go_simp; (try with_reducible rfl)
      (try simp only [cq])
      refine tkY 1 (some 83) ?_ ?_ ?_
      rotate_left
      · intro w _; go_simp; (try with_reducible rfl)
      (try simp only [cq])
      refine tkY 2 (some 84) ?_ ?_ ?_
      rotate_left
      · intro w hS0; (try dsimp only at hS0); obtain ⟨⟨q0, q1⟩, q2⟩ := HC2.out _ hS0; have y1 := World.block_lt_of_cell? _ _ q0; have y2 := World.block_lt_of_cell? _ _ q2;go_simp; (try with_reducible rfl)
      (try simp only [cq])
      refine tkY 3 (some 85) ?_ ?_ ?_
      rotate_left
      · intro w hS0; (try dsimp only at hS0); obtain ⟨⟨q0, q1⟩, q2⟩ := HC2.out _ hS0; have y1 := World.block_lt_of_cell? _ _ q0; have y2 := World.block_lt_of_cell? _ _ q2;go_simp; (try with_reducible rfl)
      (try simp only [cq])
      refine tkY 4 (some 86) ?_ ?_ ?_
      rotate_left
      · intro w _; go_simp; (try with_reducible rfl)
      (try simp only [cq])
      refine tkY 5 (some 87) ?_ ?_ ?_
      rotate_left
      · intro w _; go_simp; (try with_reducible rfl)
      (try simp only [cq])
      refine tkY 6 (some 88) ?_ ?_ ?_
      rotate_left
      · intro w hS0; (try dsimp only at hS0); obtain ⟨⟨q0, q1⟩, q2⟩ := HC2.out _ hS0; have y1 := World.block_lt_of_cell? _ _ q0; have y2 := World.block_lt_of_cell? _ _ q2;go_simp; (try with_reducible rfl)
      (try simp only [cq])
      refine tkY 7 (some 89) ?_ ?_ ?_
      rotate_left
      · intro w hS0; (try dsimp only at hS0); obtain ⟨⟨q0, q1⟩, q2⟩ := HC2.out _ hS0; have y1 := World.block_lt_of_cell? _ _ q0; have y2 := World.block_lt_of_cell? _ _ q2;go_simp; (try with_reducible rfl)
      (try simp only [cq])
      refine wpAnyH_ready (rs := [8]) (by kernel_rfl) (by simp) ?_
      refine arc1 (some 90) fun K hK => ?_
      go_simp
      (refine (HH.out _).mono ?_; rintro e w' ⟨rfl, hb⟩)
      refine hK.out _ _ ?_ ?_
      · (exact hH.trans (hb.mono hH.size))
      (try clear hH); (try clear hb)
      intro hH
      clear hK K
      (try simp only [cq])
      refine tkY 9 (some 91) ?_ ?_ ?_
      rotate_left
      · intro w _; go_simp; (try with_reducible rfl)
      (try simp only [cq])
      refine wpAnyH_done (by kernel_rfl) ?_ _
      (try dsimp only [Act.put])
      (try simp only [cq])
      have hB2 := hH
      clear hH hB HH HC2
      go_wp2_with fail
      go_roundw
      case rel => exact ⟨k + 1, by omega, by go_num, hB2⟩
      case measure => simp [intOf]; omega
    · obtain rfl : k = n := by omega
      clear hlt hkn
      have hsl := HK.out (2 * k + m + k) (by unfold flN; omega)
      have ek : flX k m O C X ls (2 * k + m + k) = sumT ls k := by unfold flX; rw [if_neg (by omega), if_neg (by omega), if_neg (by omega)]
      rw [ek, HG.out.1, HG.out.2] at hsl
      clear ek HG
      have hls := HLs.out
      rw [sumT_sub] at hls
      have b1 := sumT_nn HU.out.cb k hn8 (by omega)
      have b2 := sumB (fun i hi => HLb.out i hi) k (Nat.le_refl _)
      have HSL := Lib.hid (fun (W : World) (h : Below w7.heap.size w7 W) => lsum_any k ls _ (by omega) HLb.out W (HV7.out W h).2.1.2)
      have HSC := Lib.hid (fun (W : World) (h : Below w7.heap.size w7 W) => lsum_any k C _ (by omega) (fun i hi => by have := HU.out.cb i; omega) W (HV7.out W h).2.2.1.2.2.2.1)
      have HSO := Lib.hid (fun (W : World) (h : Below w7.heap.size w7 W) => lsum_any k O _ (by omega) (fun i hi => by have := HU.out.ob i; omega) W (HV7.out W h).2.2.1.2.2.1)
      have HIn := Lib.hid (fun (W : World) (h : Below w7.heap.size w7 W) => inside_ok k m (rfA KA KB A 46) (rfM KA KB (2 * k) M 46) O C X _ _ _ _ _ (by omega) (by omega) (fun i hi => by
        have o := HK.out (2 * i) (by unfold flN; omega)
        have c := HK.out (2 * i + 1) (by unfold flN; omega)
        have eo : flX k m O C X ls (2 * i) = O i := by unfold flX; rw [if_pos (by omega), if_pos (by omega), show 2 * i / 2 = i by omega]
        have ec : flX k m O C X ls (2 * i + 1) = C i := by unfold flX; rw [if_pos (by omega), if_neg (by omega), show (2 * i + 1) / 2 = i by omega]
        rw [eo] at o
        rw [ec] at c
        unfold rfA
        simp only [if_pos (show 2 * i < 46 by omega), if_pos (show 2 * i + 1 < 46 by omega)]
        exact ⟨o.1, o.2, c.1, c.2⟩) (fun i hi => by
        have o := HK.out (2 * k + i) (by unfold flN; omega)
        have eo : flX k m O C X ls (2 * k + i) = X i := by unfold flX; rw [if_neg (by omega), if_pos (by omega), show 2 * k + i - 2 * k = i by omega]
        rw [eo] at o
        unfold rfM
        simp only [if_pos (show 2 * k + i < 46 by omega)]
        exact o) W (HV7.out W h).2.2.2.1 (HV7.out W h).2.2.2.2 (HV7.out W h).2.2.1.2.2.1 (HV7.out W h).2.2.1.2.2.2.1 (HV7.out W h).2.2.1.2.2.2.2)
      have hso : sumT O k = sumT C k + sumT ls k := by omega
      rw [hso] at HSO
      clear HK HLs HLb HU hls hso
      generalize sumT ls k = sl at *
      generalize sumT C k = sc at *
      have HHs := Lib.hid (fun (W : World) => has_ok g0 g1 sl hsl.1 hsl.2 W)
      have ew : IntKind.i64.wrap (sc + sl) = sc + sl := IntWalk.i64_in _ (by omega)
      have ee : ((sc + sl : Int) == sc + sl) = true := by simp
      clear hsl b1 b2
      go_upto_region 13 with fail
      refine wp_region_held_drew (S := (fun W => Below w7.heap.size w7 W)) (by kernel_rfl) ?_ (fun hH => ?_)
      · (try dsimp only); (exact hB.drew)
      refine tkY 0 (some 92) ?_ ?_ ?_
      rotate_left
      · intro w hS0; (try dsimp only at hS0); obtain ⟨⟨k4, k5, k7, k9⟩, -⟩ := HV7.out _ hS0; obtain ⟨p0, p1⟩ := k7.c2; obtain ⟨p2, p3⟩ := k9.c2; have p4 := k5.cell 0 rfl; have p5 := k5.cell 1 rfl; have p6 := k5.cell 2 rfl; have y5 := k5.lt; have y7 := k7.lt; have y9 := k9.lt;go_simp; (try with_reducible rfl)
      (try simp only [cq])
      refine tkY 1 (some 93) ?_ ?_ ?_
      rotate_left
      · intro w _; go_simp; (try with_reducible rfl)
      (try simp only [cq])
      refine wpAnyH_ready (rs := [2]) (by kernel_rfl) (by simp) ?_
      refine arc1 (some 94) fun K hK => ?_
      go_simp
      (refine (HSL.out _ hH).mono ?_; rintro e w' ⟨rfl, rfl⟩)
      refine hK.out _ _ ?_ ?_
      · exact hH
      (try clear hH); (try clear hb)
      intro hH
      clear hK K
      (try simp only [cq])
      refine wpAnyH_ready (rs := [3]) (by kernel_rfl) (by simp) ?_
      refine arc1 (some 95) fun K hK => ?_
      go_simp
      (refine (HHs.out _).mono ?_; rintro e w' ⟨rfl, hb⟩)
      refine hK.out _ _ ?_ ?_
      · (exact hH.trans (hb.mono hH.size))
      (try clear hH); (try clear hb)
      intro hH
      clear hK K
      (try simp only [cq])
      refine tkY 4 (some 96) ?_ ?_ ?_
      rotate_left
      · intro w _; go_simp; (try with_reducible rfl)
      (try simp only [cq])
      refine tkY 5 (some 97) ?_ ?_ ?_
      rotate_left
      · intro w hS0; (try dsimp only at hS0); obtain ⟨⟨k4, k5, k7, k9⟩, -⟩ := HV7.out _ hS0; obtain ⟨p0, p1⟩ := k7.c2; obtain ⟨p2, p3⟩ := k9.c2; have p4 := k5.cell 0 rfl; have p5 := k5.cell 1 rfl; have p6 := k5.cell 2 rfl; have y5 := k5.lt; have y7 := k7.lt; have y9 := k9.lt;go_simp; (try with_reducible rfl)
      (try simp only [cq])
      refine tkY 6 (some 98) ?_ ?_ ?_
      rotate_left
      · intro w hS0; (try dsimp only at hS0); obtain ⟨⟨k4, k5, k7, k9⟩, -⟩ := HV7.out _ hS0; obtain ⟨p0, p1⟩ := k7.c2; obtain ⟨p2, p3⟩ := k9.c2; have p4 := k5.cell 0 rfl; have p5 := k5.cell 1 rfl; have p6 := k5.cell 2 rfl; have y5 := k5.lt; have y7 := k7.lt; have y9 := k9.lt;go_simp; (try with_reducible rfl)
      (try simp only [cq])
      refine wpAnyH_ready (rs := [7]) (by kernel_rfl) (by simp) ?_
      refine arc1 (some 99) fun K hK => ?_
      go_simp
      (refine (HIn.out _ hH).mono ?_; rintro e w' ⟨rfl, hb⟩)
      refine hK.out _ _ ?_ ?_
      · (exact hH.trans (hb.mono hH.size))
      (try clear hH); (try clear hb)
      intro hH
      clear hK K
      (try simp only [cq])
      refine tkY 8 (some 100) ?_ ?_ ?_
      rotate_left
      · intro w _; go_simp; (try with_reducible rfl)
      (try simp only [cq])
      refine tkY 9 (some 101) ?_ ?_ ?_
      rotate_left
      · intro w _; go_simp; (try with_reducible rfl)
      (try simp only [cq])
      refine tkY 10 (some 102) ?_ ?_ ?_
      rotate_left
      · intro w hS0; (try dsimp only at hS0); obtain ⟨⟨k4, k5, k7, k9⟩, -⟩ := HV7.out _ hS0; obtain ⟨p0, p1⟩ := k7.c2; obtain ⟨p2, p3⟩ := k9.c2; have p4 := k5.cell 0 rfl; have p5 := k5.cell 1 rfl; have p6 := k5.cell 2 rfl; have y5 := k5.lt; have y7 := k7.lt; have y9 := k9.lt;go_simp; (try with_reducible rfl)
      (try simp only [cq])
      refine tkY 11 (some 103) ?_ ?_ ?_
      rotate_left
      · intro w hS0; (try dsimp only at hS0); obtain ⟨⟨k4, k5, k7, k9⟩, -⟩ := HV7.out _ hS0; obtain ⟨p0, p1⟩ := k7.c2; obtain ⟨p2, p3⟩ := k9.c2; have p4 := k5.cell 0 rfl; have p5 := k5.cell 1 rfl; have p6 := k5.cell 2 rfl; have y5 := k5.lt; have y7 := k7.lt; have y9 := k9.lt;go_simp; (try with_reducible rfl)
      (try simp only [cq])
      refine tkY 13 (some 105) ?_ ?_ ?_
      rotate_left
      · intro w hS0; (try dsimp only at hS0); obtain ⟨⟨k4, k5, k7, k9⟩, -⟩ := HV7.out _ hS0; obtain ⟨p0, p1⟩ := k7.c2; obtain ⟨p2, p3⟩ := k9.c2; have p4 := k5.cell 0 rfl; have p5 := k5.cell 1 rfl; have p6 := k5.cell 2 rfl; have y5 := k5.lt; have y7 := k7.lt; have y9 := k9.lt;go_simp; (try with_reducible rfl)
      (try simp only [cq])
      refine tkY 14 (some 106) ?_ ?_ ?_
      rotate_left
      · intro w hS0; (try dsimp only at hS0); obtain ⟨⟨k4, k5, k7, k9⟩, -⟩ := HV7.out _ hS0; obtain ⟨p0, p1⟩ := k7.c2; obtain ⟨p2, p3⟩ := k9.c2; have p4 := k5.cell 0 rfl; have p5 := k5.cell 1 rfl; have p6 := k5.cell 2 rfl; have y5 := k5.lt; have y7 := k7.lt; have y9 := k9.lt;go_simp; (try with_reducible rfl)
      (try simp only [cq])
      refine tkY 16 (some 108) ?_ ?_ ?_
      rotate_left
      · intro w _; go_simp; (try with_reducible rfl)
      (try simp only [cq])
      refine wpAnyH_ready (rs := [12]) (by kernel_rfl) (by simp) ?_
      refine arc1 (some 104) fun K hK => ?_
      go_simp
      (refine (HSO.out _ hH).mono ?_; rintro e w' ⟨rfl, rfl⟩)
      refine hK.out _ _ ?_ ?_
      · exact hH
      (try clear hH); (try clear hb)
      intro hH
      clear hK K
      (try simp only [cq])
      refine wpAnyH_ready (rs := [15]) (by kernel_rfl) (by simp) ?_
      refine arc1 (some 107) fun K hK => ?_
      go_simp
      (refine (HSC.out _ hH).mono ?_; rintro e w' ⟨rfl, rfl⟩)
      refine hK.out _ _ ?_ ?_
      · exact hH
      (try clear hH); (try clear hb)
      intro hH
      clear hK K
      (try simp only [cq])
      refine wpAnyH_ready (rs := [17]) (by kernel_rfl) (by simp) ?_
      refine arc1 (some 109) fun K hK => ?_
      go_simp
      (refine (HSL.out _ hH).mono ?_; rintro e w' ⟨rfl, rfl⟩)
      refine hK.out _ _ ?_ ?_
      · exact hH
      (try clear hH); (try clear hb)
      intro hH
      clear hK K
      (try simp only [cq])
      refine tkY 18 (some 110) ?_ ?_ ?_
      rotate_left
      · intro w _; go_simp; (try with_reducible rfl)
      (try simp only [cq])
      refine tkY 19 (some 111) ?_ ?_ ?_
      rotate_left
      · intro w _; go_simp; (try with_reducible rfl)
      (try simp only [cq])
      refine tkY 20 (some 112) ?_ ?_ ?_
      rotate_left
      · intro w _; go_simp; (try with_reducible rfl)
      (try simp only [cq])
      refine tkY 21 (some 113) ?_ ?_ ?_
      rotate_left
      · intro w _; go_simp; (try with_reducible rfl)
      (try simp only [cq])
      refine wpAnyH_ready (rs := [22]) (by kernel_rfl) (by simp) ?_
      refine arc1 (some 114) fun K hK => ?_
      go_simp
      (refine (HAw.out _).mono ?_; rintro e w' ⟨rfl, hb⟩)
      refine hK.out _ _ ?_ ?_
      · (exact hH.trans (hb.mono hH.size))
      (try clear hH); (try clear hb)
      intro hH
      clear hK K
      (try simp only [cq])
      refine tkY 23 (some 115) ?_ ?_ ?_
      rotate_left
      · intro w _; go_simp; (try with_reducible rfl)
      (try simp only [cq])
      refine tkY 24 (some 2) ?_ ?_ ?_
      rotate_left
      · intro w _; go_simp; (try with_reducible rfl)
      (try simp only [cq])
      refine wpAnyH_done (by kernel_rfl) ?_ _
      (try dsimp only [Act.put])
      (try simp only [cq])
      have hB2 := HW7.out _ hH
      clear hH hB
      go_wp2
      go_ret
      exact ⟨rfl, hB2⟩
end Go.Proofs.Ytpeogfcfiabcfaa

namespace Go.Proofs.Ytpeogfcfiabcfaa
open Go.RowKit

theorem LAt.addr {w : World} {a : Option Addr} {n c s : Nat} {C : Nat → List Value} (h : LAt w (.slice a n c) n s C) (h0 : 0 < n) : n ≤ c ∧ c ≤ 9223372036854775807 ∧ ∃ b o, a = some ⟨b, o, none⟩ := by
  obtain ⟨a', c', e, h1, h2, h3⟩ := h
  simp only [Value.slice.injEq] at e
  obtain ⟨rfl, -, rfl⟩ := e
  obtain ⟨b, o, e, -⟩ := h3 h0
  exact ⟨h1, h2, b, o, e⟩
theorem LAt.at {w : World} {b o n c s : Nat} {C : Nat → List Value} (h : LAt w (.slice (some ⟨b, o, none⟩) n c) n s C) (h0 : 0 < n) : AtC w b o n s C := by
  obtain ⟨a', c', e, h1, h2, h3⟩ := h
  simp only [Value.slice.injEq] at e
  obtain ⟨rfl, -, rfl⟩ := e
  obtain ⟨b', o', e, k⟩ := h3 h0
  simp only [Option.some.injEq, Addr.mk.injEq, and_true] at e
  obtain ⟨rfl, rfl⟩ := e
  exact k
set_option maxRecDepth 100000 in
theorem in_ok (a0 a1 b0 b1 : Int) (h0 : b0 ≤ a0) (h1 : a1 ≤ b1) (w : World) : Calls Try.prog 60 #[.agg #[.int .i64 a0, .int .i64 a1], .agg #[.int .i64 b0, .int .i64 b1]] w fun e w' => e = .returned (.bool true) ∧ Below w.heap.size w w' := by
  have jA := (Blk.new w #[.int .i64 a0, .int .i64 a1] 26).alloc (.cells #[.int .i64 b0, .int .i64 b1] 26)
  have jB := Blk.new1 w (.cells #[.int .i64 a0, .int .i64 a1] 26) #[.int .i64 b0, .int .i64 b1] 26
  have kB : Below w.heap.size w ((w.alloc (.cells #[.int .i64 a0, .int .i64 a1] 26)).alloc (.cells #[.int .i64 b0, .int .i64 b1] 26)) := by (repeat (first | exact Below.refl _ _ | assumption | refine Below.drew ?_ | refine Below.drewN ?_ _ | refine blT ?_ | refine blU ?_))
  obtain ⟨c0, c1⟩ := jA.c2
  obtain ⟨d0, d1⟩ := jB.c2
  have e0 : decide (b0 ≤ a0) = true := decide_eq_true h0
  have e1 : decide (a1 ≤ b1) = true := decide_eq_true h1
  clear h0 h1
  go_enter Try.func60, Try.ntmps60
  go_wp2
  go_ret
  exact ⟨by simp [e0, e1], kB⟩
set_option maxRecDepth 100000 in
set_option maxHeartbeats 8000000 in
theorem sameb_ok (n m : Nat) (A A2 : Nat → Ac) (M M2 : Nat → Mv) (vA vM vA2 vM2 : Value) (hn : n ≤ 1000) (hm : m ≤ 1000) (eA : ∀ i, i < n → A2 i = A i) (eM : ∀ i, i < m → M2 i = M i) (w : World) (hA : AcsAt w vA n A) (hM : MvsAt w vM m M) (hA2 : AcsAt w vA2 n A2) (hM2 : MvsAt w vM2 m M2) :
    Calls Try.prog 35 #[.agg #[vA, vM], .agg #[vA2, vM2]] w fun e w' => e = .returned (.bool true) ∧ Below w.heap.size w w' := by
  have hA2 : AcsAt w vA2 n A := LAt.congr hA2 (fun i hi => by unfold acC; rw [eA i hi])
  have hM2 : MvsAt w vM2 m M := LAt.congr hM2 (fun i hi => by unfold mvC; rw [eM i hi])
  have LA := Lib.hid (fun (W : World) (h : Below w.heap.size w W) => And.intro (hA.later h) (And.intro (hM.later h) (And.intro (hA2.later h) (hM2.later h))))
  obtain ⟨aA, cA, rfl, -, -, -⟩ := hA
  obtain ⟨aM, cM, rfl, -, -, -⟩ := hM
  obtain ⟨aA2, cA2, rfl, -, -, -⟩ := hA2
  obtain ⟨aM2, cM2, rfl, -, -, -⟩ := hM2
  have jB := (Blk.new w #[.slice aA n cA, .slice aM m cM] 44).alloc (.cells #[.slice aA2 n cA2, .slice aM2 m cM2] 44)
  have jT := Blk.new1 w (.cells #[.slice aA n cA, .slice aM m cM] 44) #[.slice aA2 n cA2, .slice aM2 m cM2] 44
  have jW : Below w.heap.size w ((w.alloc (.cells #[.slice aA n cA, .slice aM m cM] 44)).alloc (.cells #[.slice aA2 n cA2, .slice aM2 m cM2] 44)) := by (repeat (first | exact Below.refl _ _ | assumption | refine Below.drew ?_ | refine Below.drewN ?_ _ | refine blT ?_ | refine blU ?_))
  have e0 : ((n : Int) != n) = false := by simp
  have e1 : ((m : Int) != m) = false := by simp
  obtain ⟨q0, q1⟩ := jB.c2
  obtain ⟨q2, q3⟩ := jT.c2
  go_enter Try.func35, Try.ntmps35
  go_wp2_with fail
  clear q0 q1 q2 q3
  obtain ⟨V, hV⟩ : ∃ V, Blk.wld jB = V := ⟨_, rfl⟩
  simp only [Blk.wld] at hV
  rw [hV] at jB jT jW ⊢
  clear hV
  have HT := Lib.hid (fun (W : World) (h : Below V.heap.size V W) => And.intro (jB.call h) (And.intro (jT.call h) (LA.out W (jW.trans (h.mono jW.size)))))
  have HJ := Lib.hid jW
  have zV := jW.size
  clear jB jT jW LA
  go_loopw [5] (fun i wr => ∃ k : Nat, i = .int .i64 k ∧ k ≤ n ∧ Below V.heap.size V wr) (fun i _ => n - (intOf i).toNat)
  case atStart => exact ⟨0, rfl, Nat.zero_le _, Below.refl _ _⟩
  case round =>
    obtain ⟨k, rfl, hk, hB⟩ := hrel
    obtain ⟨kB, kT, hA, hM, hA2, hM2⟩ := HT.out _ hB
    obtain ⟨b0, b1⟩ := kB.c2
    have yB := kB.lt
    by_cases hlt : k < n
    · have hltI : (k : Int) < n := by omega
      have hn0 : 0 < n := by omega
      obtain ⟨z1, -, bA, oA, rfl⟩ := hA.addr hn0
      obtain ⟨z2, -, bA2, oA2, rfl⟩ := hA2.addr hn0
      clear kB kT hA hM hA2 hM2
      go_upto_region 6 with fail
      clear b0 b1 yB
      have HC := Lib.hid (fun (W : World) (h : Below V.heap.size V W) => And.intro (HT.out W h).1 (And.intro (HT.out W h).2.1 (And.intro (AtC.c6 (LAt.at (HT.out W h).2.2.1 hn0) hlt rfl) (AtC.c6 (LAt.at (HT.out W h).2.2.2.2.1 hn0) hlt rfl))))
      obtain ⟨x, hx⟩ : ∃ x, A k = x := ⟨_, rfl⟩
      rw [hx] at HC
      clear hx
      obtain ⟨s, x1, x2, x3, x4, x5⟩ := x
      dsimp only at HC
      refine wp_region_held_drew (S := (fun wx => Below V.heap.size V wx)) (by kernel_rfl) ?_ (fun hH => ?_)
      · (try dsimp only); (exact hB.drew)
      refine tkY 0 (some 30) ?_ ?_ ?_
      rotate_left
      · intro w hS0; (try dsimp only at hS0); obtain ⟨kB, kT, ⟨a0, a1, a2, a3, a4, a5⟩, c0, c1, c2, c3, c4, c5⟩ := HC.out _ hS0; have b0 := kB.cell 0 rfl; have t0 := kT.cell 0 rfl; have y1 := kB.lt; have y2 := kT.lt; have y3 := World.block_lt_of_cell? _ _ a0; have y4 := World.block_lt_of_cell? _ _ c0;go_simp; (try with_reducible rfl)
      (try simp only [cq])
      refine tkY 1 (some 31) ?_ ?_ ?_
      rotate_left
      · intro w hS0; (try dsimp only at hS0); obtain ⟨kB, kT, ⟨a0, a1, a2, a3, a4, a5⟩, c0, c1, c2, c3, c4, c5⟩ := HC.out _ hS0; have b0 := kB.cell 0 rfl; have t0 := kT.cell 0 rfl; have y1 := kB.lt; have y2 := kT.lt; have y3 := World.block_lt_of_cell? _ _ a0; have y4 := World.block_lt_of_cell? _ _ c0;go_simp; (try with_reducible rfl)
      (try simp only [cq])
      refine tkY 2 (some 32) ?_ ?_ ?_
      rotate_left
      · intro w _; go_simp; (try with_reducible rfl)
      (try simp only [cq])
      refine tkY 3 (some 33) ?_ ?_ ?_
      rotate_left
      · intro w hS0; (try dsimp only at hS0); obtain ⟨kB, kT, ⟨a0, a1, a2, a3, a4, a5⟩, c0, c1, c2, c3, c4, c5⟩ := HC.out _ hS0; have b0 := kB.cell 0 rfl; have t0 := kT.cell 0 rfl; have y1 := kB.lt; have y2 := kT.lt; have y3 := World.block_lt_of_cell? _ _ a0; have y4 := World.block_lt_of_cell? _ _ c0;go_simp; (try with_reducible rfl)
      (try simp only [cq])
      refine tkY 4 (some 34) ?_ ?_ ?_
      rotate_left
      · intro w hS0; (try dsimp only at hS0); obtain ⟨kB, kT, ⟨a0, a1, a2, a3, a4, a5⟩, c0, c1, c2, c3, c4, c5⟩ := HC.out _ hS0; have b0 := kB.cell 0 rfl; have t0 := kT.cell 0 rfl; have y1 := kB.lt; have y2 := kT.lt; have y3 := World.block_lt_of_cell? _ _ a0; have y4 := World.block_lt_of_cell? _ _ c0;go_simp; (try with_reducible rfl)
      (try simp only [cq])
      refine tkY 5 (some 35) ?_ ?_ ?_
      rotate_left
      · intro w hS0; (try dsimp only at hS0); obtain ⟨kB, kT, ⟨a0, a1, a2, a3, a4, a5⟩, c0, c1, c2, c3, c4, c5⟩ := HC.out _ hS0; have b0 := kB.cell 0 rfl; have t0 := kT.cell 0 rfl; have y1 := kB.lt; have y2 := kT.lt; have y3 := World.block_lt_of_cell? _ _ a0; have y4 := World.block_lt_of_cell? _ _ c0;go_simp; (try with_reducible rfl)
      (try simp only [cq])
      refine tkY 6 (some 36) ?_ ?_ ?_
      rotate_left
      · intro w hS0; (try dsimp only at hS0); obtain ⟨kB, kT, ⟨a0, a1, a2, a3, a4, a5⟩, c0, c1, c2, c3, c4, c5⟩ := HC.out _ hS0; have b0 := kB.cell 0 rfl; have t0 := kT.cell 0 rfl; have y1 := kB.lt; have y2 := kT.lt; have y3 := World.block_lt_of_cell? _ _ a0; have y4 := World.block_lt_of_cell? _ _ c0;go_simp; (try with_reducible rfl)
      (try simp only [cq])
      refine tkY 7 (some 37) ?_ ?_ ?_
      rotate_left
      · intro w _; go_simp; (try with_reducible rfl)
      (try simp only [cq])
      refine tkY 8 (some 38) ?_ ?_ ?_
      rotate_left
      · intro w hS0; (try dsimp only at hS0); obtain ⟨kB, kT, ⟨a0, a1, a2, a3, a4, a5⟩, c0, c1, c2, c3, c4, c5⟩ := HC.out _ hS0; have b0 := kB.cell 0 rfl; have t0 := kT.cell 0 rfl; have y1 := kB.lt; have y2 := kT.lt; have y3 := World.block_lt_of_cell? _ _ a0; have y4 := World.block_lt_of_cell? _ _ c0;go_simp; (try with_reducible rfl)
      (try simp only [cq])
      refine tkY 9 (some 39) ?_ ?_ ?_
      rotate_left
      · intro w hS0; (try dsimp only at hS0); obtain ⟨kB, kT, ⟨a0, a1, a2, a3, a4, a5⟩, c0, c1, c2, c3, c4, c5⟩ := HC.out _ hS0; have b0 := kB.cell 0 rfl; have t0 := kT.cell 0 rfl; have y1 := kB.lt; have y2 := kT.lt; have y3 := World.block_lt_of_cell? _ _ a0; have y4 := World.block_lt_of_cell? _ _ c0;go_simp; (try with_reducible rfl)
      (try simp only [cq])
      refine tkY 10 (some 40) ?_ ?_ ?_
      rotate_left
      · intro w _; go_simp; (try with_reducible rfl)
      (try simp only [cq])
      refine wpAnyH_done (by kernel_rfl) ?_ _
      (try dsimp only [Act.put])
      (try simp only [cq])
      have hB2 := hH
      clear hH hB HC
      go_wp2
      go_roundw
      case rel => exact ⟨k + 1, by go_num, by omega, hB2⟩
      case measure => simp [intOf]; omega
    · obtain rfl : k = n := by omega
      clear hA hM hA2 hM2
      go_wp2_with fail
      clear kB kT b0 b1 yB
      go_loopw [6] (fun i wr => ∃ k : Nat, i = .int .i64 k ∧ k ≤ m ∧ Below V.heap.size V wr) (fun i _ => m - (intOf i).toNat)
      case atStart => exact ⟨0, rfl, Nat.zero_le _, hB⟩
      case round =>
        clear hB
        obtain ⟨j, rfl, hj, hB⟩ := hrel
        obtain ⟨kB, kT, hA, hM, hA2, hM2⟩ := HT.out _ hB
        obtain ⟨b0, b1⟩ := kB.c2
        have yB := kB.lt
        by_cases hlt : j < m
        · have hltI : (j : Int) < m := by omega
          have hn0 : 0 < m := by omega
          obtain ⟨z1, -, bM, oM, rfl⟩ := hM.addr hn0
          obtain ⟨z2, -, bM2, oM2, rfl⟩ := hM2.addr hn0
          clear kB kT hA hM hA2 hM2
          go_upto_region 11 with fail
          clear b0 b1 yB
          have HC := Lib.hid (fun (W : World) (h : Below V.heap.size V W) => And.intro (HT.out W h).1 (And.intro (HT.out W h).2.1 (And.intro (AtC.c4 (LAt.at (HT.out W h).2.2.2.1 hn0) hlt rfl) (AtC.c4 (LAt.at (HT.out W h).2.2.2.2.2 hn0) hlt rfl))))
          obtain ⟨x, hx⟩ : ∃ x, M j = x := ⟨_, rfl⟩
          rw [hx] at HC
          clear hx
          obtain ⟨x1, x2, x3, x4⟩ := x
          dsimp only at HC
          refine wp_region_held_drew (S := (fun wx => Below V.heap.size V wx)) (by kernel_rfl) ?_ (fun hH => ?_)
          · (try dsimp only); (exact hB.drew)
          refine tkY 0 (some 48) ?_ ?_ ?_
          rotate_left
          · intro w hS0; (try dsimp only at hS0); obtain ⟨kB, kT, ⟨a0, a1, a2, a3⟩, c0, c1, c2, c3⟩ := HC.out _ hS0; have b0 := kB.cell 1 rfl; have t0 := kT.cell 1 rfl; have y1 := kB.lt; have y2 := kT.lt; have y3 := World.block_lt_of_cell? _ _ a0; have y4 := World.block_lt_of_cell? _ _ c0;go_simp; (try with_reducible rfl)
          (try simp only [cq])
          refine tkY 1 (some 49) ?_ ?_ ?_
          rotate_left
          · intro w hS0; (try dsimp only at hS0); obtain ⟨kB, kT, ⟨a0, a1, a2, a3⟩, c0, c1, c2, c3⟩ := HC.out _ hS0; have b0 := kB.cell 1 rfl; have t0 := kT.cell 1 rfl; have y1 := kB.lt; have y2 := kT.lt; have y3 := World.block_lt_of_cell? _ _ a0; have y4 := World.block_lt_of_cell? _ _ c0;go_simp; (try with_reducible rfl)
          (try simp only [cq])
          refine tkY 2 (some 50) ?_ ?_ ?_
          rotate_left
          · intro w _; go_simp; (try with_reducible rfl)
          (try simp only [cq])
          refine tkY 3 (some 51) ?_ ?_ ?_
          rotate_left
          · intro w hS0; (try dsimp only at hS0); obtain ⟨kB, kT, ⟨a0, a1, a2, a3⟩, c0, c1, c2, c3⟩ := HC.out _ hS0; have b0 := kB.cell 1 rfl; have t0 := kT.cell 1 rfl; have y1 := kB.lt; have y2 := kT.lt; have y3 := World.block_lt_of_cell? _ _ a0; have y4 := World.block_lt_of_cell? _ _ c0;go_simp; (try with_reducible rfl)
          (try simp only [cq])
          refine tkY 4 (some 52) ?_ ?_ ?_
          rotate_left
          · intro w hS0; (try dsimp only at hS0); obtain ⟨kB, kT, ⟨a0, a1, a2, a3⟩, c0, c1, c2, c3⟩ := HC.out _ hS0; have b0 := kB.cell 1 rfl; have t0 := kT.cell 1 rfl; have y1 := kB.lt; have y2 := kT.lt; have y3 := World.block_lt_of_cell? _ _ a0; have y4 := World.block_lt_of_cell? _ _ c0;go_simp; (try with_reducible rfl)
          (try simp only [cq])
          refine tkY 5 (some 53) ?_ ?_ ?_
          rotate_left
          · intro w hS0; (try dsimp only at hS0); obtain ⟨kB, kT, ⟨a0, a1, a2, a3⟩, c0, c1, c2, c3⟩ := HC.out _ hS0; have b0 := kB.cell 1 rfl; have t0 := kT.cell 1 rfl; have y1 := kB.lt; have y2 := kT.lt; have y3 := World.block_lt_of_cell? _ _ a0; have y4 := World.block_lt_of_cell? _ _ c0;go_simp; (try with_reducible rfl)
          (try simp only [cq])
          refine tkY 6 (some 54) ?_ ?_ ?_
          rotate_left
          · intro w hS0; (try dsimp only at hS0); obtain ⟨kB, kT, ⟨a0, a1, a2, a3⟩, c0, c1, c2, c3⟩ := HC.out _ hS0; have b0 := kB.cell 1 rfl; have t0 := kT.cell 1 rfl; have y1 := kB.lt; have y2 := kT.lt; have y3 := World.block_lt_of_cell? _ _ a0; have y4 := World.block_lt_of_cell? _ _ c0;go_simp; (try with_reducible rfl)
          (try simp only [cq])
          refine tkY 7 (some 55) ?_ ?_ ?_
          rotate_left
          · intro w _; go_simp; (try with_reducible rfl)
          (try simp only [cq])
          refine tkY 8 (some 56) ?_ ?_ ?_
          rotate_left
          · intro w hS0; (try dsimp only at hS0); obtain ⟨kB, kT, ⟨a0, a1, a2, a3⟩, c0, c1, c2, c3⟩ := HC.out _ hS0; have b0 := kB.cell 1 rfl; have t0 := kT.cell 1 rfl; have y1 := kB.lt; have y2 := kT.lt; have y3 := World.block_lt_of_cell? _ _ a0; have y4 := World.block_lt_of_cell? _ _ c0;go_simp; (try with_reducible rfl)
          (try simp only [cq])
          refine tkY 9 (some 57) ?_ ?_ ?_
          rotate_left
          · intro w hS0; (try dsimp only at hS0); obtain ⟨kB, kT, ⟨a0, a1, a2, a3⟩, c0, c1, c2, c3⟩ := HC.out _ hS0; have b0 := kB.cell 1 rfl; have t0 := kT.cell 1 rfl; have y1 := kB.lt; have y2 := kT.lt; have y3 := World.block_lt_of_cell? _ _ a0; have y4 := World.block_lt_of_cell? _ _ c0;go_simp; (try with_reducible rfl)
          (try simp only [cq])
          refine tkY 10 (some 58) ?_ ?_ ?_
          rotate_left
          · intro w _; go_simp; (try with_reducible rfl)
          (try simp only [cq])
          refine wpAnyH_done (by kernel_rfl) ?_ _
          (try dsimp only [Act.put])
          (try simp only [cq])
          have hB2 := hH
          clear hH hB HC
          go_wp2
          go_roundw
          case rel => exact ⟨j + 1, by go_num, by omega, hB2⟩
          case measure => simp [intOf]; omega
        · obtain rfl : j = m := by omega
          have hW := HJ.out.trans (hB.mono zV)
          clear kT hA hM hA2 hM2
          go_wp2
          go_ret
          exact ⟨rfl, hW⟩
end Go.Proofs.Ytpeogfcfiabcfaa

namespace Go.Proofs.Ytpeogfcfiabcfaa
open Go.RowKit

def sOf (S : Nat → Bool) : Nat → Nat
  | 0 => 0
  | k + 1 => sOf S k ||| (if S k then 2 ^ k else 0)
theorem sOf_lt (S : Nat → Bool) : ∀ k, sOf S k < 2 ^ k
  | 0 => by show 0 < 1; omega
  | k + 1 => by
    have h := sOf_lt S k
    have e : 2 ^ (k + 1) = 2 ^ k * 2 := Nat.pow_succ 2 k
    refine Nat.or_lt_two_pow ?_ ?_
    · omega
    · by_cases q : S k = true
      · rw [if_pos q]; have : 0 < 2 ^ k := Nat.two_pow_pos k; omega
      · rw [if_neg q]; have : 0 < 2 ^ k := Nat.two_pow_pos k; omega
theorem sOf_bit (S : Nat → Bool) : ∀ k i, (sOf S k).testBit i = (decide (i < k) && S i)
  | 0, i => by simp [sOf]
  | k + 1, i => by
    rw [sOf, Nat.testBit_or, sOf_bit S k i]
    by_cases q : S k = true
    · rw [if_pos q, Nat.testBit_two_pow]
      by_cases e : k = i
      · subst e; simp [q]
      · by_cases h : i < k
        · simp [h, e, show i < k + 1 by omega]
        · simp [h, e, show ¬ i < k + 1 by omega]
    · rw [if_neg q]
      by_cases e : k = i
      · subst e; simp [q]
      · by_cases h : i < k
        · simp [h, show i < k + 1 by omega]
        · simp [h, show ¬ i < k + 1 by omega]
def Ends (E : Nat → Fl) (N K : Nat) : Prop := ∀ i, i < N → (E i).a ≤ K ∧ (E i).b ≤ K
theorem c_congr {S T : Nat → Bool} {e : Fl} {K : Nat} (h : ∀ i, i ≤ K → S i = T i) (ha : e.a ≤ K) (hb : e.b ≤ K) : cIn S e = cIn T e ∧ cOut S e = cOut T e := by
  unfold cIn cOut
  rw [h _ ha, h _ hb]
  exact ⟨rfl, rfl⟩
theorem four_congr {E : Nat → Fl} {N K : Nat} {S T : Nat → Bool} (hE : Ends E N K) (h : ∀ i, i ≤ K → S i = T i) : iLo E N S = iLo E N T ∧ iHi E N S = iHi E N T ∧ oLo E N S = oLo E N T ∧ oHi E N S = oHi E N T := by
  unfold iLo iHi oLo oHi
  refine ⟨sumT_congr N (fun i hi => ?_), sumT_congr N (fun i hi => ?_), sumT_congr N (fun i hi => ?_), sumT_congr N (fun i hi => ?_)⟩
  · rw [(c_congr h (hE i hi).1 (hE i hi).2).1]
  · rw [(c_congr h (hE i hi).1 (hE i hi).2).1]
  · rw [(c_congr h (hE i hi).1 (hE i hi).2).2]
  · rw [(c_congr h (hE i hi).1 (hE i hi).2).2]
theorem bS_of {S : Nat → Bool} {K : Nat} (h : S K = false) : ∀ i, i ≤ K → bS (sOf S K) i = S i := fun i hi => by
  unfold bS
  rw [sOf_bit]
  by_cases e : i = K
  · subst e; rw [h]; simp
  · simp [show i < K by omega]
theorem kn_le (E : Nat → Fl) (N j : Nat) (hj : j < N) (v : Int) : ∀ s, (knA E N s).1 j ≤ v ↔ (E j).l ≤ v ∧ ∀ t, t < s → (cIn (bS t) (E j) = true → oLo E N (bS t) - (iHi E N (bS t) - (E j).h) ≤ v) ∧ (cOut (bS t) (E j) = true → iLo E N (bS t) - (oHi E N (bS t) - (E j).h) ≤ v)
  | 0 => by
    constructor
    · intro h; exact ⟨h, fun t ht => by omega⟩
    · intro h; exact h.1
  | s + 1 => by
    have ih := kn_le E N j hj v s
    have key : (knA E N (s + 1)).1 j ≤ v ↔ (knA E N s).1 j ≤ v ∧ (cIn (bS s) (E j) = true → oLo E N (bS s) - (iHi E N (bS s) - (E j).h) ≤ v) ∧ (cOut (bS s) (E j) = true → iLo E N (bS s) - (oHi E N (bS s) - (E j).h) ≤ v) := by
      show nrA E (cOut (bS s)) _ _ (nrA E (cIn (bS s)) _ _ (knA E N s).1 N) N j ≤ v ↔ _
      by_cases p : cIn (bS s) (E j) = true
      · by_cases q : cOut (bS s) (E j) = true
        · rw [nrA_yes E _ _ _ _ hj q, nrA_yes E _ _ _ _ hj p]
          simp only [p, q, true_implies]
          omega
        · rw [nrA_not E _ _ _ _ q, nrA_yes E _ _ _ _ hj p]
          simp only [p, true_implies]
          constructor
          · intro h; exact ⟨by omega, by omega, fun h => absurd h q⟩
          · intro h; omega
      · by_cases q : cOut (bS s) (E j) = true
        · rw [nrA_yes E _ _ _ _ hj q, nrA_not E _ _ _ _ p]
          simp only [q, true_implies]
          constructor
          · intro h; exact ⟨by omega, fun h => absurd h p, by omega⟩
          · intro h; omega
        · rw [nrA_not E _ _ _ _ q, nrA_not E _ _ _ _ p]
          exact ⟨fun h => ⟨h, fun h => absurd h p, fun h => absurd h q⟩, fun h => h.1⟩
    rw [key, ih]
    constructor
    · rintro ⟨⟨h1, h2⟩, h3⟩
      refine ⟨h1, fun t ht => ?_⟩
      by_cases e : t = s
      · subst e; exact h3
      · exact h2 t (by omega)
    · rintro ⟨h1, h2⟩
      exact ⟨⟨h1, fun t ht => h2 t (by omega)⟩, h2 s (by omega)⟩
theorem kn_ge (E : Nat → Fl) (N j : Nat) (hj : j < N) (v : Int) : ∀ s, v ≤ (knA E N s).2 j ↔ v ≤ (E j).h ∧ ∀ t, t < s → (cIn (bS t) (E j) = true → v ≤ oHi E N (bS t) - (iLo E N (bS t) - (E j).l)) ∧ (cOut (bS t) (E j) = true → v ≤ iHi E N (bS t) - (oLo E N (bS t) - (E j).l))
  | 0 => by
    constructor
    · intro h; exact ⟨h, fun t ht => by omega⟩
    · intro h; exact h.1
  | s + 1 => by
    have ih := kn_ge E N j hj v s
    have key : v ≤ (knA E N (s + 1)).2 j ↔ v ≤ (knA E N s).2 j ∧ (cIn (bS s) (E j) = true → v ≤ oHi E N (bS s) - (iLo E N (bS s) - (E j).l)) ∧ (cOut (bS s) (E j) = true → v ≤ iHi E N (bS s) - (oLo E N (bS s) - (E j).l)) := by
      show v ≤ nrB E (cOut (bS s)) _ _ (nrB E (cIn (bS s)) _ _ (knA E N s).2 N) N j ↔ _
      by_cases p : cIn (bS s) (E j) = true
      · by_cases q : cOut (bS s) (E j) = true
        · rw [nrB_yes E _ _ _ _ hj q, nrB_yes E _ _ _ _ hj p]
          simp only [p, q, true_implies]
          omega
        · rw [nrB_not E _ _ _ _ q, nrB_yes E _ _ _ _ hj p]
          simp only [p, true_implies]
          constructor
          · intro h; exact ⟨by omega, by omega, fun h => absurd h q⟩
          · intro h; omega
      · by_cases q : cOut (bS s) (E j) = true
        · rw [nrB_yes E _ _ _ _ hj q, nrB_not E _ _ _ _ p]
          simp only [q, true_implies]
          constructor
          · intro h; exact ⟨by omega, fun h => absurd h p, by omega⟩
          · intro h; omega
        · rw [nrB_not E _ _ _ _ q, nrB_not E _ _ _ _ p]
          exact ⟨fun h => ⟨h, fun h => absurd h p, fun h => absurd h q⟩, fun h => h.1⟩
    rw [key, ih]
    constructor
    · rintro ⟨⟨h1, h2⟩, h3⟩
      refine ⟨h1, fun t ht => ?_⟩
      by_cases e : t = s
      · subst e; exact h3
      · exact h2 t (by omega)
    · rintro ⟨h1, h2⟩
      exact ⟨⟨h1, fun t ht => h2 t (by omega)⟩, h2 s (by omega)⟩
theorem neg_neg_b (S : Nat → Bool) : neg (neg S) = S := by funext i; simp [neg]
theorem least_of {E : Nat → Fl} {N K j : Nat} (hE : Ends E N K) (hj : j < N) {v : Int} (h : (knA E N (2 ^ K)).1 j ≤ v) : AtLeast E N j v := by
  obtain ⟨h1, h2⟩ := (kn_le E N j hj v _).1 h
  refine ⟨h1, fun S hS => ?_⟩
  by_cases e : S K = false
  · obtain ⟨c1, c2⟩ := c_congr (bS_of e) (hE j hj).1 (hE j hj).2
    obtain ⟨f1, f2, f3, f4⟩ := four_congr hE (bS_of e)
    have a := (h2 _ (sOf_lt S K)).1 (by rw [c1]; exact hS)
    rwa [f2, f3] at a
  · have e2 : neg S K = false := by unfold neg; cases q : S K with | true => rfl | false => exact absurd q e
    obtain ⟨c1, c2⟩ := c_congr (bS_of e2) (hE j hj).1 (hE j hj).2
    obtain ⟨f1, f2, f3, f4⟩ := four_congr hE (bS_of e2)
    have a := (h2 _ (sOf_lt (neg S) K)).2 (by rw [c2, cOut_neg]; exact hS)
    rwa [f1, f4, iLo_neg, oHi_neg] at a
theorem most_of {E : Nat → Fl} {N K j : Nat} (hE : Ends E N K) (hj : j < N) {v : Int} (h : v ≤ (knA E N (2 ^ K)).2 j) : AtMost E N j v := by
  obtain ⟨h1, h2⟩ := (kn_ge E N j hj v _).1 h
  refine ⟨h1, fun S hS => ?_⟩
  by_cases e : S K = false
  · obtain ⟨c1, c2⟩ := c_congr (bS_of e) (hE j hj).1 (hE j hj).2
    obtain ⟨f1, f2, f3, f4⟩ := four_congr hE (bS_of e)
    have a := (h2 _ (sOf_lt S K)).1 (by rw [c1]; exact hS)
    rwa [f1, f4] at a
  · have e2 : neg S K = false := by unfold neg; cases q : S K with | true => rfl | false => exact absurd q e
    obtain ⟨c1, c2⟩ := c_congr (bS_of e2) (hE j hj).1 (hE j hj).2
    obtain ⟨f1, f2, f3, f4⟩ := four_congr hE (bS_of e2)
    have a := (h2 _ (sOf_lt (neg S) K)).2 (by rw [c2, cOut_neg]; exact hS)
    rwa [f2, f3, iHi_neg, oLo_neg] at a
theorem kn_met {E : Nat → Fl} {N K : Nat} (hE : Ends E N K) {x : Nat → Int} (hx : Circ E N x) {j : Nat} (hj : j < N) : (∃ y, Circ E N y ∧ y j = (knA E N (2 ^ K)).1 j) ∧ ∃ y, Circ E N y ∧ y j = (knA E N (2 ^ K)).2 j := by
  have i := kn_in hx (2 ^ K) j hj
  exact ⟨hx.cut.exact hj (least_of hE hj (Int.le_refl _)) (most_of hE hj (by omega)), hx.cut.exact hj (least_of hE hj (by omega)) (most_of hE hj (Int.le_refl _))⟩
theorem kn_narrow {E F : Nat → Fl} {N N2 K K2 : Nat} (hF : Ends F N2 K2) {x : Nat → Int} (hx : Circ F N2 x) {i j : Nat} (hi : i < N2) (hj : j < N) (h : ∀ y, Circ F N2 y → ∃ z, Circ E N z ∧ z j = y i) : (knA E N (2 ^ K)).1 j ≤ (knA F N2 (2 ^ K2)).1 i ∧ (knA F N2 (2 ^ K2)).2 i ≤ (knA E N (2 ^ K)).2 j := by
  obtain ⟨⟨y1, a1, b1⟩, y2, a2, b2⟩ := kn_met hF hx hi
  obtain ⟨z1, c1, d1⟩ := h y1 a1
  obtain ⟨z2, c2, d2⟩ := h y2 a2
  have q1 := kn_in c1 (2 ^ K) j hj
  have q2 := kn_in c2 (2 ^ K) j hj
  omega
theorem ends_fl {n m : Nat} {A : Nat → Ac} {M : Nat → Mv} (hM : ∀ i, i < m → (M i).fr.toNat < n ∧ (M i).tt.toNat < n) : Ends (flE n A m M) (flN n m) (n + 1) := by
  intro i hi
  unfold flN at hi
  unfold flE
  by_cases h1 : i < 2 * n
  · rw [if_pos h1]
    by_cases h2 : i % 2 = 0
    · rw [if_pos h2]; show n + 1 ≤ n + 1 ∧ i / 2 ≤ n + 1; omega
    · rw [if_neg h2]; show i / 2 ≤ n + 1 ∧ n + 1 ≤ n + 1; omega
  · rw [if_neg h1]
    by_cases h2 : i < 2 * n + m
    · rw [if_pos h2]
      have := hM (i - 2 * n) (by omega)
      show (M (i - 2 * n)).fr.toNat ≤ n + 1 ∧ (M (i - 2 * n)).tt.toNat ≤ n + 1
      omega
    · rw [if_neg h2]
      by_cases h3 : i < 2 * n + m + n
      · rw [if_pos h3]; show i - (2 * n + m) ≤ n + 1 ∧ n ≤ n + 1; omega
      · rw [if_neg h3]; show n ≤ n + 1 ∧ n + 1 ≤ n + 1; omega
theorem circ_of {E F : Nat → Fl} {N : Nat} (he : ∀ i, i < N → (F i).a = (E i).a ∧ (F i).b = (E i).b) {x : Nat → Int} (h : Circ F N x) (hl : ∀ i, i < N → (E i).l ≤ x i ∧ x i ≤ (E i).h) : Circ E N x := by
  refine ⟨hl, fun S => ?_⟩
  have e : ∀ i, i < N → cIn S (F i) = cIn S (E i) ∧ cOut S (F i) = cOut S (E i) := fun i hi => by
    unfold cIn cOut
    rw [(he i hi).1, (he i hi).2]
    exact ⟨rfl, rfl⟩
  have q := h.2 S
  have q1 : sumT (fun i => pk (cIn S (F i)) (x i)) N = sumT (fun i => pk (cIn S (E i)) (x i)) N := sumT_congr N (fun i hi => by rw [(e i hi).1])
  have q2 : sumT (fun i => pk (cOut S (F i)) (x i)) N = sumT (fun i => pk (cOut S (E i)) (x i)) N := sumT_congr N (fun i hi => by rw [(e i hi).2])
  rw [q1, q2] at q
  exact q
theorem kn_l (E : Nat → Fl) (N j : Nat) (hj : j < N) (s : Nat) : (E j).l ≤ (knA E N s).1 j ∧ (knA E N s).2 j ≤ (E j).h :=
  ⟨((kn_le E N j hj _ s).1 (Int.le_refl _)).1, ((kn_ge E N j hj _ s).1 (Int.le_refl _)).1⟩
theorem flE_rf (n : Nat) (A : Nat → Ac) (m : Nat) (M : Nat → Mv) (KA KB : Nat → Int) (hn : n ≤ 8) (hm : m ≤ 30) (i : Nat) : flE n (rfA KA KB A 46) m (rfM KA KB (2 * n) M 46) i = if i < 2 * n + m then ⟨(flE n A m M i).a, (flE n A m M i).b, KA i, KB i⟩ else flE n A m M i := by
  unfold flE rfA rfM
  by_cases h1 : i < 2 * n
  · rw [if_pos h1, if_pos h1, if_pos (show i < 2 * n + m by omega)]
    by_cases h2 : i % 2 = 0
    · rw [if_pos h2, if_pos h2]
      simp only [if_pos (show 2 * (i / 2) < 46 by omega)]
      rw [show 2 * (i / 2) = i by omega]
    · rw [if_neg h2, if_neg h2]
      simp only [if_pos (show 2 * (i / 2) + 1 < 46 by omega)]
      rw [show 2 * (i / 2) + 1 = i by omega]
  · rw [if_neg h1, if_neg h1]
    by_cases h2 : i < 2 * n + m
    · rw [if_pos h2, if_pos h2, if_pos h2]
      simp only [if_pos (show 2 * n + (i - 2 * n) < 46 by omega)]
      rw [show 2 * n + (i - 2 * n) = i by omega]
    · rw [if_neg h2, if_neg h2, if_neg h2]
theorem lsn_mv {O C : Nat → Int} {M M2 : Nat → Mv} {X : Nat → Int} : ∀ q, (∀ i, i < q → (M2 i).fr = (M i).fr ∧ (M2 i).tt = (M i).tt) → lsn O C M2 X q = lsn O C M X q
  | 0, _ => rfl
  | q + 1, h => by
    have a := lsn_mv (O := O) (C := C) (X := X) q (fun i hi => h i (by omega))
    have b := h q (by omega)
    rw [lsn, lsn, a, b.1, b.2]
section
variable {n m : Nat} {A : Nat → Ac} {M : Nat → Mv} {O C X KA KB : Nat → Int}
theorem BkUp.ends (h : BkUp n m A M O C X) : Ends (flE n A m M) (flN n m) (n + 1) := ends_fl h.mv.nat
theorem BkUp.flx (h : BkUp n m A M O C X) (hA : (knA (flE n A m M) (flN n m) (2 ^ (n + 1))).1 = KA) (hB : (knA (flE n A m M) (flN n m) (2 ^ (n + 1))).2 = KB) :
    (∀ i, i < n → KA (2 * i) ≤ O i ∧ O i ≤ KB (2 * i) ∧ KA (2 * i + 1) ≤ C i ∧ C i ≤ KB (2 * i + 1)) ∧ ∀ i, i < m → KA (2 * n + i) ≤ X i ∧ X i ≤ KB (2 * n + i) := by
  subst hA hB
  refine ⟨fun i hi => ?_, fun i hi => ?_⟩
  · have o := kn_in h.circ (2 ^ (n + 1)) (2 * i) (by unfold flN; omega)
    have c := kn_in h.circ (2 ^ (n + 1)) (2 * i + 1) (by unfold flN; omega)
    have eo : flX n m O C X (lsn O C M X m) (2 * i) = O i := by unfold flX; rw [if_pos (by omega), if_pos (by omega), show 2 * i / 2 = i by omega]
    have ec : flX n m O C X (lsn O C M X m) (2 * i + 1) = C i := by unfold flX; rw [if_pos (by omega), if_neg (by omega), show (2 * i + 1) / 2 = i by omega]
    rw [eo] at o
    rw [ec] at c
    exact ⟨o.1, o.2, c.1, c.2⟩
  · have o := kn_in h.circ (2 ^ (n + 1)) (2 * n + i) (by unfold flN; omega)
    have eo : flX n m O C X (lsn O C M X m) (2 * n + i) = X i := by unfold flX; rw [if_neg (by omega), if_pos (by omega), show 2 * n + i - 2 * n = i by omega]
    rw [eo] at o
    exact o
theorem BkUp.within (h : BkUp n m A M O C X) (hA : (knA (flE n A m M) (flN n m) (2 ^ (n + 1))).1 = KA) (hB : (knA (flE n A m M) (flN n m) (2 ^ (n + 1))).2 = KB) :
    (∀ i, i < n → (A i).o0 ≤ KA (2 * i) ∧ KB (2 * i) ≤ (A i).o1 ∧ (A i).c0 ≤ KA (2 * i + 1) ∧ KB (2 * i + 1) ≤ (A i).c1) ∧ ∀ i, i < m → (M i).lo ≤ KA (2 * n + i) ∧ KB (2 * n + i) ≤ (M i).hi := by
  subst hA hB
  refine ⟨fun i hi => ?_, fun i hi => ?_⟩
  · have o := kn_l (flE n A m M) (flN n m) (2 * i) (by unfold flN; omega) (2 ^ (n + 1))
    have c := kn_l (flE n A m M) (flN n m) (2 * i + 1) (by unfold flN; omega) (2 ^ (n + 1))
    rw [flE_o n A m M i hi] at o
    rw [flE_c n A m M i hi] at c
    exact ⟨o.1, o.2, c.1, c.2⟩
  · have o := kn_l (flE n A m M) (flN n m) (2 * n + i) (by unfold flN; omega) (2 ^ (n + 1))
    rw [flE_m n A m M i hi] at o
    exact o
theorem BkUp.refined (h : BkUp n m A M O C X) (hA : (knA (flE n A m M) (flN n m) (2 ^ (n + 1))).1 = KA) (hB : (knA (flE n A m M) (flN n m) (2 ^ (n + 1))).2 = KB) : BkUp n m (rfA KA KB A 46) (rfM KA KB (2 * n) M 46) O C X := by
  have n8 := h.n8
  have m30 := h.m30
  obtain ⟨f1, f2⟩ := h.flx hA hB
  obtain ⟨g1, g2⟩ := h.within hA hB
  refine ⟨h.n1, h.n8, h.m30, h.nm, h.ki, h.ob, h.cb, fun i hi => ?_, ⟨fun i hi => ?_⟩, fun i hi => ?_⟩
  · have a := h.a i hi
    have b := f1 i hi
    have c := g1 i hi
    unfold rfA
    simp only [if_pos (show 2 * i < 46 by omega), if_pos (show 2 * i + 1 < 46 by omega)]
    omega
  · have a := h.mv.ok i hi
    have b := f2 i hi
    have c := g2 i hi
    unfold rfM
    simp only [if_pos (show 2 * n + i < 46 by omega)]
    omega
  · have e : lsn O C (rfM KA KB (2 * n) M 46) X m = lsn O C M X m := lsn_mv m (fun i _ => ⟨rfl, rfl⟩)
    rw [e]
    exact h.ls i hi
theorem BkUp.again (h : BkUp n m A M O C X) (hA : (knA (flE n A m M) (flN n m) (2 ^ (n + 1))).1 = KA) (hB : (knA (flE n A m M) (flN n m) (2 ^ (n + 1))).2 = KB) (j : Nat) (hj : j < flN n m) :
    (knA (flE n (rfA KA KB A 46) m (rfM KA KB (2 * n) M 46)) (flN n m) (2 ^ (n + 1))).1 j = KA j ∧ (knA (flE n (rfA KA KB A 46) m (rfM KA KB (2 * n) M 46)) (flN n m) (2 ^ (n + 1))).2 j = KB j := by
  have hR := h.refined hA hB
  have he : ∀ i, i < flN n m → (flE n (rfA KA KB A 46) m (rfM KA KB (2 * n) M 46) i).a = (flE n A m M i).a ∧ (flE n (rfA KA KB A 46) m (rfM KA KB (2 * n) M 46) i).b = (flE n A m M i).b := fun i hi => by
    rw [flE_rf n A m M KA KB h.n8 h.m30 i]
    by_cases q : i < 2 * n + m
    · rw [if_pos q]; exact ⟨rfl, rfl⟩
    · rw [if_neg q]; exact ⟨rfl, rfl⟩
  have c1 : ∀ y, Circ (flE n (rfA KA KB A 46) m (rfM KA KB (2 * n) M 46)) (flN n m) y → Circ (flE n A m M) (flN n m) y := fun y hy => circ_of he hy (fun i hi => by
    have a := hy.1 i hi
    have b := kn_l (flE n A m M) (flN n m) i hi (2 ^ (n + 1))
    rw [hA, hB] at b
    rw [flE_rf n A m M KA KB h.n8 h.m30 i] at a
    by_cases q : i < 2 * n + m
    · rw [if_pos q] at a
      have a : KA i ≤ y i ∧ y i ≤ KB i := a
      omega
    · rw [if_neg q] at a; exact a)
  have c2 : ∀ y, Circ (flE n A m M) (flN n m) y → Circ (flE n (rfA KA KB A 46) m (rfM KA KB (2 * n) M 46)) (flN n m) y := fun y hy => circ_of (fun i hi => ⟨(he i hi).1.symm, (he i hi).2.symm⟩) hy (fun i hi => by
    have b := kn_in hy (2 ^ (n + 1)) i hi
    rw [hA, hB] at b
    rw [flE_rf n A m M KA KB h.n8 h.m30 i]
    by_cases q : i < 2 * n + m
    · rw [if_pos q]; exact b
    · rw [if_neg q]; exact hy.1 i hi)
  have k1 := kn_narrow (E := flE n A m M) (K := n + 1) hR.ends hR.circ hj hj (fun y hy => ⟨y, c1 y hy, rfl⟩)
  have k2 := kn_narrow (E := flE n (rfA KA KB A 46) m (rfM KA KB (2 * n) M 46)) (K := n + 1) h.ends h.circ hj hj (fun y hy => ⟨y, c2 y hy, rfl⟩)
  rw [hA, hB] at k1 k2
  omega
end
end Go.Proofs.Ytpeogfcfiabcfaa
