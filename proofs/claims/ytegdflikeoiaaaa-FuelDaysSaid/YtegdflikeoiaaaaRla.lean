/-
  Lasts (package sastrugiref06): the same answer.
-/
import Derived.Test.YtegdflikeoiaaaaTail
import Derived.Test.YtegdflikeoiaaaaRbd
set_option linter.unusedVariables false
set_option linter.unusedSimpArgs false
namespace Go.Proofs.Ytegdflikeoiaaaa
open Go.RowKit

def lastN (f : Nat → Int) (l : Int) : Nat → Nat
  | 0 => 0
  | k + 1 => if sumT f (k + 1) ≤ l then k + 1 else lastN f l k
theorem lastN_spec (f : Nat → Int) (l : Int) : ∀ n, lastN f l n ≤ n ∧ (lastN f l n = 0 ∨ sumT f (lastN f l n) ≤ l) ∧ ∀ j, lastN f l n < j → j ≤ n → l < sumT f j
  | 0 => ⟨Nat.le_refl _, Or.inl rfl, fun j h1 h2 => by omega⟩
  | k + 1 => by
    obtain ⟨a, b, c⟩ := lastN_spec f l k
    unfold lastN
    by_cases e : sumT f (k + 1) ≤ l
    · rw [if_pos e]; exact ⟨Nat.le_refl _, Or.inr e, fun j h1 h2 => by omega⟩
    · rw [if_neg e]
      refine ⟨by omega, b, fun j h1 h2 => ?_⟩
      by_cases g : j = k + 1
      · rw [g]; omega
      · exact c j h1 (by omega)
theorem lastN_day (f : Nat → Int) (l : Int) (n : Nat) (hf : ∀ i, i < n → 0 ≤ f i) : DayN n l f (lastN f l n) := by
  obtain ⟨a, b, c⟩ := lastN_spec f l n
  refine ⟨a, fun j hj => ?_, fun h => c _ (by omega) h⟩
  rcases b with b | b
  · omega
  · exact Int.le_trans (sumT_mono f n hf _ a (j + 1) hj) b
theorem sumT_bd2 (f : Nat → Int) (n : Nat) (h : ∀ i, i < n → 0 ≤ f i ∧ f i ≤ 1000000000) : ∀ k, k ≤ n → 0 ≤ sumT f k ∧ sumT f k ≤ 1000000000 * k
  | 0, _ => ⟨Int.le_refl _, Int.le_refl _⟩
  | k + 1, hk => by
    have i := sumT_bd2 f n h k (by omega)
    have q := h k (by omega)
    show 0 ≤ sumT f k + f k ∧ sumT f k + f k ≤ _
    omega
theorem LasOut.uniq {l0 l1 : Int} {n : Nat} {U : Nat → Bu} {m : Nat} {C D : Nat → Int} {v v2 : Value} (h : LasOut l0 l1 n U m C D v) (h2 : LasOut l0 l1 n U m C D v2) : v = v2 := by
  rcases h with ⟨a, rfl⟩ | ⟨a, d0, d1, p0, p1, rfl⟩
  · rcases h2 with ⟨b, rfl⟩ | ⟨b, _⟩
    · rfl
    · exact absurd b a
  · rcases h2 with ⟨b, _⟩ | ⟨b, e0, e1, q0, q1, rfl⟩
    · exact absurd a b
    · obtain ⟨g1, g2⟩ := orE_zero a
      obtain ⟨g3, g4⟩ := orE_zero g2
      obtain ⟨u1, u2, u3, u4, u5⟩ := eBur_zero g3
      rw [p0.uniq (fun i _ => (bnB_bd u3 _ _ n (Nat.le_refl _)).1) q0, p1.uniq (fun i _ => (bnA_bd u3 _ _ n (Nat.le_refl _)).1) q1]

set_option maxRecDepth 100000 in
set_option maxHeartbeats 4000000 in
theorem rlasts_any (l0 l1 : Int) (n : Nat) (U : Nat → Bu) (vU : Value) (m : Nat) (C D : Nat → Int) (vC : Value) (w : World) (hU : BusAt w vU n U) (hC : SpansAt w vC m C D) :
    Calls Try.prog 48 #[.agg #[.int .i64 l0, .int .i64 l1], vU, vC] w fun e w' => ∃ v, e = .returned v ∧ LasOut l0 l1 n U m C D v ∧ Below w.heap.size w w' := by
  have HB := Lib.hid (fun (W : World) (h : Below w.heap.size w W) => rbur_any n U vU W (hU.later h))
  obtain ⟨a, c, rfl, p1, p2, p3⟩ := hU
  obtain ⟨a2, c2, rfl, q1, q2, q3⟩ := hC
  have HU := Lib.hid p3
  have HC := Lib.hid q3
  clear p3 q3
  have jT := (Blk.new w #[.int .i64 l0, .int .i64 l1] 26).alloc (.cells #[.int .i64 0, .int .i64 0] 26)
  have jR := Blk.new1 w (.cells #[.int .i64 l0, .int .i64 l1] 26) #[.int .i64 0, .int .i64 0] 26
  have jB : Below w.heap.size w ((w.alloc (.cells #[.int .i64 l0, .int .i64 l1] 26)).alloc (.cells #[.int .i64 0, .int .i64 0] 26)) := by (repeat (first | exact Below.refl _ _ | assumption | refine Below.drew ?_ | refine Below.drewN ?_ _ | refine blT ?_ | refine blU ?_))
  have HL : eLas l0 l1 n U m C D = orE (eS l0 l1 0 1000000000) (orE (eBur n U) (eCol m C D)) := rfl
  go_enter Try.func48, Try.ntmps48
  go_wp2_with fail
  refine (rsp_any l0 l1 0 1000000000 _).mono ?_
  rintro e w1 ⟨rfl, hb⟩
  replace jT := jT.call hb
  replace jR := jR.call hb
  replace jB := bwS jB (Nat.le_refl _) hb
  clear hb
  have HT := Lib.hid (show eS l0 l1 0 1000000000 = 0 → 0 ≤ l0 ∧ l0 ≤ 1000000000 ∧ 0 ≤ l1 ∧ l1 ≤ 1000000000 from fun h => by have := eS_zero h; omega)
  generalize eS l0 l1 0 1000000000 = E1 at HL HT ⊢
  by_cases h1 : E1 = 0
  case neg =>
    have hn : (E1 != 0) = true := by simpa using h1
    have HE := Lib.hid (show eLas l0 l1 n U m C D = E1 by rw [HL]; exact if_neg h1)
    have HN := Lib.hid h1
    clear HL h1
    obtain ⟨r0, r1⟩ := jR.c2
    have f0 := jR.free 0
    have f1 := jR.free 1
    have zR := jR.lt
    have KR := Lib.hid ((jR.set 0 (.int .i64 0)).set 1 (.int .i64 0))
    have KB := Lib.hid (below_set2 (c := w.heap.size + 1) (j := 0) (k := 1) jB (by omega) (.int .i64 0) (.int .i64 0))
    clear jT jR jB
    go_wp2_with fail
    obtain ⟨z0, z1⟩ := KR.out.c2
    exact bodyPost_ret (v := .tuple #[.agg #[.int .i64 0, .int .i64 0], .int .i64 E1]) (by simp [results, Try.results48, go_sem, z0, z1]) rfl ⟨_, rfl, Or.inl ⟨by rw [HE.out]; exact HN.out, by rw [HE.out]⟩, KB.out⟩
  subst h1
  have ht := HT.out rfl
  have HT2 := Lib.hid ht
  clear ht HT
  rw [show orE 0 (orE (eBur n U) (eCol m C D)) = orE (eBur n U) (eCol m C D) from rfl] at HL
  go_wp2_with fail
  refine (HB.out _ jB).mono ?_
  rintro e w2 ⟨rfl, hb⟩
  replace jT := jT.call hb
  replace jR := jR.call hb
  replace jB := bwS jB (Nat.le_refl _) hb
  clear hb HB
  have HZ := Lib.hid (show eBur n U = 0 → _ from fun h => eBur_zero h)
  generalize eBur n U = E2 at HL HZ ⊢
  by_cases h2 : E2 = 0
  case neg =>
    have hn : (E2 != 0) = true := by simpa using h2
    have HE := Lib.hid (show eLas l0 l1 n U m C D = E2 by rw [HL]; exact if_neg h2)
    have HN := Lib.hid h2
    clear HL h2 HZ
    obtain ⟨r0, r1⟩ := jR.c2
    have f0 := jR.free 0
    have f1 := jR.free 1
    have zR := jR.lt
    have KR := Lib.hid ((jR.set 0 (.int .i64 0)).set 1 (.int .i64 0))
    have KB := Lib.hid (below_set2 (c := w.heap.size + 1) (j := 0) (k := 1) jB (by omega) (.int .i64 0) (.int .i64 0))
    clear jT jR jB
    go_wp2_with fail
    obtain ⟨z0, z1⟩ := KR.out.c2
    exact bodyPost_ret (v := .tuple #[.agg #[.int .i64 0, .int .i64 0], .int .i64 E2]) (by simp [results, Try.results48, go_sem, z0, z1]) rfl ⟨_, rfl, Or.inl ⟨by rw [HE.out]; exact HN.out, by rw [HE.out]⟩, KB.out⟩
  subst h2
  have HZ2 := Lib.hid (HZ.out rfl)
  clear HZ
  rw [show orE 0 (eCol m C D) = eCol m C D from rfl] at HL
  by_cases h3 : 400 < m
  case pos =>
    have hn : (400 : Int) < m := by omega
    have HE := Lib.hid (show eLas l0 l1 n U m C D = 8 by rw [HL]; exact if_pos (by omega))
    have HN := Lib.hid (show ¬ (8 : Int) = 0 by decide)
    clear HL
    obtain ⟨r0, r1⟩ := jR.c2
    have f0 := jR.free 0
    have f1 := jR.free 1
    have zR := jR.lt
    have KR := Lib.hid ((jR.set 0 (.int .i64 0)).set 1 (.int .i64 0))
    have KB := Lib.hid (below_set2 (c := w.heap.size + 1) (j := 0) (k := 1) jB (by omega) (.int .i64 0) (.int .i64 0))
    clear jT jR jB
    go_wp2_with fail
    obtain ⟨z0, z1⟩ := KR.out.c2
    exact bodyPost_ret (v := .tuple #[.agg #[.int .i64 0, .int .i64 0], .int .i64 8]) (by simp [results, Try.results48, go_sem, z0, z1]) rfl ⟨_, rfl, Or.inl ⟨by rw [HE.out]; exact HN.out, by rw [HE.out]⟩, KB.out⟩
  have hn3 : ¬ (400 : Int) < m := by omega
  have hL2 : eLas l0 l1 n U m C D = firstNZ (fun i => eTen (C i) (D i)) 0 m := HL.trans (if_neg (by omega))
  have HL2 := Lib.hid hL2
  clear HL hL2
  go_wp2_with fail
  go_loopw [10] (fun i wr => ∃ k : Nat, k ≤ m ∧ i = .int .i64 k ∧ firstNZ (fun i => eTen (C i) (D i)) 0 m = firstNZ (fun i => eTen (C i) (D i)) k (m - k) ∧ (∀ j, j < k → eTen (C j) (D j) = 0) ∧ Blk wr w.heap.size #[.int .i64 l0, .int .i64 l1] 26 ∧ Blk wr (w.heap.size + 1) #[.int .i64 0, .int .i64 0] 26 ∧ Below w.heap.size w wr) (fun i _ => m - (intOf i).toNat)
  case atStart => exact ⟨0, Nat.zero_le _, rfl, rfl, fun j h => by omega, jT, jR, jB⟩
  case round =>
    clear jT jR jB
    obtain ⟨k, hk, rfl, hd, hz, jT, jR, jB⟩ := hrel
    have HD := Lib.hid hd
    have HZ := Lib.hid hz
    clear hd hz
    by_cases hlt : k < m
    · obtain ⟨b, o, ha, hc⟩ := HC.out (by omega)
      subst ha
      have hcC : AtC w b o m 2 (spC C D) := hc
      clear hc
      obtain ⟨x0, x1⟩ := hcC.c2 hlt rfl
      have zb := World.block_lt_of_cell? _ _ x0
      have H0 := Lib.hid (fun (h : eTen (C k) (D k) = 0) => firstNZ_step0 (fun i => eTen (C i) (D i)) m k (by omega) h)
      have HN := Lib.hid (fun (h : ¬ eTen (C k) (D k) = 0) => firstNZ_stepN (fun i => eTen (C i) (D i)) m k (by omega) h)
      have hltI : (k : Int) < m := by omega
      replace x0 := cell_later jB x0
      replace x1 := cell_later jB x1
      clear hcC
      have KS := Lib.hid (fun (W : World) => (show Calls Try.prog 73 #[.agg #[.int .i64 (C k), .int .i64 (D k)], .int .i64 (-1000), .int .i64 1000] W fun e w' => e = .returned (.int .i64 (eTen (C k) (D k))) ∧ Below W.heap.size W w' from rsp_any (C k) (D k) (-1000) 1000 W))
      obtain ⟨E, hE⟩ : ∃ z, eTen (C k) (D k) = z := ⟨_, rfl⟩
      rw [hE] at KS
      have HEE := Lib.hid hE
      clear hE
      obtain ⟨x, hx⟩ : ∃ z, C k = z := ⟨_, rfl⟩
      obtain ⟨y, hy⟩ : ∃ z, D k = z := ⟨_, rfl⟩
      rw [hx] at x0 KS
      rw [hy] at x1 KS
      clear hx hy
      go_wp2_with fail
      refine (KS.out _).mono ?_
      rintro e w3 ⟨rfl, hb⟩
      replace jT := jT.call hb
      replace jR := jR.call hb
      replace jB := bwS jB (Nat.le_refl _) hb
      clear hb KS x0 x1
      by_cases hz0 : E = 0
      · have HF := Lib.hid (HD.out.trans (H0.out (HEE.out.trans hz0)))
        subst hz0
        have HZ3 : Hid (∀ j, j < k + 1 → eTen (C j) (D j) = 0) := Lib.hid (fun j hj => by
          by_cases e : j = k
          · rw [e]; exact HEE.out
          · exact HZ.out j (by omega))
        clear HN H0 HD HZ
        go_wp2
        go_roundw
        case rel => exact ⟨k + 1, by omega, by go_num, HF.out, HZ3.out, jT, jR, jB⟩
        case measure => simp [intOf]; omega
      · have hn : (E != 0) = true := by simpa using hz0
        have HE := Lib.hid (HL2.out.trans (HD.out.trans ((HN.out (by rw [HEE.out]; exact hz0)).trans HEE.out)))
        have HN := Lib.hid hz0
        clear H0 HD HZ HEE
        obtain ⟨r0, r1⟩ := jR.c2
        have f0 := jR.free 0
        have f1 := jR.free 1
        have zR := jR.lt
        have KR := Lib.hid ((jR.set 0 (.int .i64 0)).set 1 (.int .i64 0))
        have KB := Lib.hid (below_set2 (c := w.heap.size + 1) (j := 0) (k := 1) jB (by omega) (.int .i64 0) (.int .i64 0))
        clear jT jR jB
        go_wp2_with fail
        obtain ⟨z0, z1⟩ := KR.out.c2
        exact bodyPost_ret (v := .tuple #[.agg #[.int .i64 0, .int .i64 0], .int .i64 E]) (by simp [results, Try.results48, go_sem, z0, z1]) rfl ⟨_, rfl, Or.inl ⟨by rw [HE.out]; exact HN.out, by rw [HE.out]⟩, KB.out⟩
    · obtain rfl : k = m := by omega
      have HE := Lib.hid (show eLas l0 l1 n U k C D = 0 from HL2.out.trans (by have := HD.out; rw [Nat.sub_self] at this; exact this))
      clear HD HL2
      obtain ⟨u1, u2, u3, u4, u5⟩ := HZ2.out
      obtain ⟨b, o, ha, hc⟩ := HU.out u1
      subst ha
      have hcU : AtC w b o n 3 (buC U) := hc
      clear hc HU
      obtain ⟨fA, hfA⟩ : ∃ f, (fun i => bnA U n (C i) (D i) n) = f := ⟨_, rfl⟩
      obtain ⟨fB, hfB⟩ : ∃ f, (fun i => bnB U n (C i) (D i) n) = f := ⟨_, rfl⟩
      have HfA := Lib.hid (show ∀ i, i < k → 0 ≤ fA i ∧ fA i ≤ 1000000000 from fun i _ => by rw [← hfA]; exact bnA_bd u3 _ _ n (Nat.le_refl _))
      have HfB := Lib.hid (show ∀ i, i < k → 0 ≤ fB i ∧ fB i ≤ 1000000000 from fun i _ => by rw [← hfB]; exact bnB_bd u3 _ _ n (Nat.le_refl _))
      have HBd := Lib.hid (fun (i : Nat) (hi : i < k) (W : World) (h : Below w.heap.size w W) => (show Calls Try.prog 106 #[.slice (some ⟨b, o, none⟩) n c, .agg #[.int .i64 (C i), .int .i64 (D i)]] W fun e w' => e = .returned (.agg #[.int .i64 (fA i), .int .i64 (fB i)]) ∧ Below W.heap.size W w' from by
        have hz := eS_zero (HZ.out i hi)
        rw [← hfA, ← hfB]
        exact burned_any n U (C i) (D i) b o c u1 (by omega) u3 u4 (by omega) (by omega) hz.2.1 W (hcU.later h)))
      have HO := Lib.hid (show LasOut l0 l1 n U k C D (.tuple #[.agg #[.int .i64 (lastN fB l0 k : Nat), .int .i64 (lastN fA l1 k : Nat)], .int .i64 0]) from Or.inr ⟨HE.out, _, _, by rw [hfB]; exact lastN_day fB l0 k (fun i hi => (HfB.out i hi).1), by rw [hfA]; exact lastN_day fA l1 k (fun i hi => (HfA.out i hi).1), rfl⟩)
      clear u1 u2 u3 u4 u5 hcU hfA hfB HZ HZ2 HE
      have zr := jR.lt
      have jD := (Blk.new wr #[.int .i64 0, .int .i64 0] 26).alloc (.cells #[.int .i64 0, .int .i64 0] 26)
      have jS := Blk.new1 wr (.cells #[.int .i64 0, .int .i64 0] 26) #[.int .i64 0, .int .i64 0] 26
      replace jT := (jT.alloc (.cells #[.int .i64 0, .int .i64 0] 26)).alloc (.cells #[.int .i64 0, .int .i64 0] 26)
      replace jR := (jR.alloc (.cells #[.int .i64 0, .int .i64 0] 26)).alloc (.cells #[.int .i64 0, .int .i64 0] 26)
      replace jB := bwA (bwA jB (Nat.le_refl _) (.cells #[.int .i64 0, .int .i64 0] 26)) (Nat.le_refl _) (.cells #[.int .i64 0, .int .i64 0] 26)
      go_wp2_with fail
      obtain ⟨bd, hbd⟩ : ∃ x, wr.heap.size = x := ⟨_, rfl⟩
      rw [hbd] at jD jS zr ⊢
      clear hbd
      clear hk
      obtain ⟨m, hm⟩ : ∃ x, k = x := ⟨_, rfl⟩
      subst hm
      go_loopw [14] (fun i wr => ∃ k2 : Nat, k2 ≤ k ∧ i = .int .i64 k2 ∧ Blk wr bd #[.int .i64 (lastN fB l0 k2 : Nat), .int .i64 (lastN fA l1 k2 : Nat)] 26 ∧ Blk wr (bd + 1) #[.int .i64 (sumT fA k2), .int .i64 (sumT fB k2)] 26 ∧ Blk wr w.heap.size #[.int .i64 l0, .int .i64 l1] 26 ∧ Blk wr (w.heap.size + 1) #[.int .i64 0, .int .i64 0] 26 ∧ Below w.heap.size w wr) (fun i _ => k - (intOf i).toNat)
      case atStart => exact ⟨0, Nat.zero_le _, rfl, jD, jS, jT, jR, jB⟩
      case round =>
        clear jD jS jT jR jB
        obtain ⟨k2, hk2, rfl, jD, jS, jT, jR, jB⟩ := hrel
        by_cases hlt : k2 < k
        · obtain ⟨b3, o3, ha, hc⟩ := HC.out (by omega)
          subst ha
          have hcC : AtC w b3 o3 k 2 (spC C D) := hc
          clear hc
          obtain ⟨x0, x1⟩ := hcC.c2 hlt rfl
          have zb := World.block_lt_of_cell? _ _ x0
          have hltI : (k2 : Int) < k := by omega
          replace x0 := cell_later jB x0
          replace x1 := cell_later jB x1
          clear hcC
          have K0 := Lib.hid (HBd.out k2 hlt)
          have qA := HfA.out k2 hlt
          have qB := HfB.out k2 hlt
          have sA := sumT_bd2 fA k HfA.out k2 hk2
          have sB := sumT_bd2 fB k HfB.out k2 hk2
          have HSm := Lib.hid (show sumT fA (k2 + 1) = sumT fA k2 + fA k2 ∧ sumT fB (k2 + 1) = sumT fB k2 + fB k2 from ⟨rfl, rfl⟩)
          have HLn := Lib.hid (show lastN fB l0 (k2 + 1) = (if sumT fB (k2 + 1) ≤ l0 then k2 + 1 else lastN fB l0 k2) ∧ lastN fA l1 (k2 + 1) = (if sumT fA (k2 + 1) ≤ l1 then k2 + 1 else lastN fA l1 k2) from ⟨rfl, rfl⟩)
          obtain ⟨x, hx⟩ : ∃ z, C k2 = z := ⟨_, rfl⟩
          obtain ⟨y, hy⟩ : ∃ z, D k2 = z := ⟨_, rfl⟩
          rw [hx] at x0 K0
          rw [hy] at x1 K0
          clear hx hy
          generalize fA k2 = A at qA HSm K0
          generalize fB k2 = B at qB HSm K0
          generalize sumT fA k2 = SA at sA HSm jS
          generalize sumT fB k2 = SB at sB HSm jS
          generalize lastN fB l0 k2 = LB at HLn jD
          generalize lastN fA l1 k2 = LA at HLn jD
          go_wp2_with fail
          refine (K0.out _ jB).mono ?_
          rintro e w3 ⟨rfl, hb⟩
          replace jT := jT.call hb
          replace jR := jR.call hb
          replace jD := jD.call hb
          replace jS := jS.call hb
          replace jB := bwS jB (Nat.le_refl _) hb
          clear hb K0 x0 x1
          have zS := jS.lt
          have jX := Blk.new w3 #[.int .i64 A, .int .i64 B] 26
          replace jT := jT.alloc (.cells #[.int .i64 A, .int .i64 B] 26)
          replace jR := jR.alloc (.cells #[.int .i64 A, .int .i64 B] 26)
          replace jD := jD.alloc (.cells #[.int .i64 A, .int .i64 B] 26)
          replace jS := jS.alloc (.cells #[.int .i64 A, .int .i64 B] 26)
          replace jB := bwA jB (Nat.le_refl _) (.cells #[.int .i64 A, .int .i64 B] 26)
          go_upto_region 20 with fail
          obtain ⟨bx, hbx⟩ : ∃ x, w3.heap.size = x := ⟨_, rfl⟩
          obtain ⟨W4, hW4⟩ : ∃ V, Blk.wld jX = V := ⟨_, rfl⟩
          simp only [Blk.wld] at hW4
          rw [hW4] at jX jT jR jD jS jB ⊢
          clear hW4
          rw [hbx] at jX zS ⊢
          clear hbx
          obtain ⟨d0, d1⟩ := jS.c2
          obtain ⟨d2, d3⟩ := jX.c2
          have f0 := jS.free 0
          have f1 := jS.free 1
          have zS2 := jS.lt
          have zX := jX.lt
          have e1 : IntKind.i64.wrap (SA + A) = SA + A := IntWalk.i64_in _ (by omega)
          have e2 : IntKind.i64.wrap (SB + B) = SB + B := IntWalk.i64_in _ (by omega)
          go_upto_region 21 with fail
          clear d0 d1 d2 d3 f0 f1 zS2 zX e1 e2
          replace jS := jS.set 0 (.int .i64 (SA + A))
          replace jT := jT.other ⟨bd + 1, 0, none⟩ (.int .i64 (SA + A)) (by show _ ≠ bd + 1; omega)
          replace jR := jR.other ⟨bd + 1, 0, none⟩ (.int .i64 (SA + A)) (by show _ ≠ bd + 1; omega)
          replace jD := jD.other ⟨bd + 1, 0, none⟩ (.int .i64 (SA + A)) (by show _ ≠ bd + 1; omega)
          replace jX := jX.other ⟨bd + 1, 0, none⟩ (.int .i64 (SA + A)) (by show _ ≠ bd + 1; omega)
          replace jB := jB.setCell (p := ⟨bd + 1, 0, none⟩) (by show _ ≤ bd + 1; omega) (.int .i64 (SA + A))
          replace jS := jS.set 1 (.int .i64 (SB + B))
          replace jT := jT.other ⟨bd + 1, 1, none⟩ (.int .i64 (SB + B)) (by show _ ≠ bd + 1; omega)
          replace jR := jR.other ⟨bd + 1, 1, none⟩ (.int .i64 (SB + B)) (by show _ ≠ bd + 1; omega)
          replace jD := jD.other ⟨bd + 1, 1, none⟩ (.int .i64 (SB + B)) (by show _ ≠ bd + 1; omega)
          replace jX := jX.other ⟨bd + 1, 1, none⟩ (.int .i64 (SB + B)) (by show _ ≠ bd + 1; omega)
          replace jB := jB.setCell (p := ⟨bd + 1, 1, none⟩) (by show _ ≤ bd + 1; omega) (.int .i64 (SB + B))
          obtain ⟨W5, hW5⟩ : ∃ V, Blk.wld jS = V := ⟨_, rfl⟩
          simp only [Blk.wld] at hW5
          rw [hW5] at jS jT jR jD jX jB ⊢
          clear hW5
          obtain ⟨t0, t1⟩ := jT.c2
          obtain ⟨s0, s1⟩ := jS.c2
          have zT := jT.lt
          have zS3 := jS.lt
          by_cases hB : SB + B ≤ l0
          · obtain ⟨n0, n1⟩ := jD.c2
            have f0 := jD.free 0
            have f1 := jD.free 1
            have zD := jD.lt
            have e3 : IntKind.i64.wrap ((k2 : Int) + 1) = (k2 : Int) + 1 := IntWalk.i64_in _ (by omega)
            go_upto_region 23 with fail
            clear t0 t1 s0 s1 n0 n1 f0 f1 zD zT zS3 e3
            replace jD := jD.set 0 (.int .i64 ((k2 : Int) + 1))
            replace jT := jT.other ⟨bd, 0, none⟩ (.int .i64 ((k2 : Int) + 1)) (by show _ ≠ bd; omega)
            replace jR := jR.other ⟨bd, 0, none⟩ (.int .i64 ((k2 : Int) + 1)) (by show _ ≠ bd; omega)
            replace jS := jS.other ⟨bd, 0, none⟩ (.int .i64 ((k2 : Int) + 1)) (by show _ ≠ bd; omega)
            replace jX := jX.other ⟨bd, 0, none⟩ (.int .i64 ((k2 : Int) + 1)) (by show _ ≠ bd; omega)
            replace jB := jB.setCell (p := ⟨bd, 0, none⟩) (by show _ ≤ bd; omega) (.int .i64 ((k2 : Int) + 1))
            obtain ⟨W6, hW6⟩ : ∃ V, Blk.wld jS = V := ⟨_, rfl⟩
            simp only [Blk.wld] at hW6
            rw [hW6] at jS jT jR jD jX jB ⊢
            clear hW6
            obtain ⟨t0, t1⟩ := jT.c2
            obtain ⟨s0, s1⟩ := jS.c2
            obtain ⟨n0, n1⟩ := jD.c2
            have f0 := jD.free 0
            have f1 := jD.free 1
            have zD := jD.lt
            have zT := jT.lt
            have zS3 := jS.lt
            by_cases hA : SA + A ≤ l1
            · have HLn2 := Lib.hid (show lastN fA l1 (k2 + 1) = k2 + 1 by rw [HLn.out.2, HSm.out.1, if_pos hA])
              have HLn1 := Lib.hid (show lastN fB l0 (k2 + 1) = k2 + 1 by rw [HLn.out.1, HSm.out.2, if_pos hB])
              have e3 : IntKind.i64.wrap ((k2 : Int) + 1) = (k2 : Int) + 1 := IntWalk.i64_in _ (by omega)
              have jD2 := jD.set 1 (.int .i64 ((k2 : Int) + 1))
              have jS2 := jS.other ⟨bd, 1, none⟩ (.int .i64 ((k2 : Int) + 1)) (by show _ ≠ bd; omega)
              have jT2 := jT.other ⟨bd, 1, none⟩ (.int .i64 ((k2 : Int) + 1)) (by show _ ≠ bd; omega)
              have jR2 := jR.other ⟨bd, 1, none⟩ (.int .i64 ((k2 : Int) + 1)) (by show _ ≠ bd; omega)
              have jB2 := jB.setCell (p := ⟨bd, 1, none⟩) (by show _ ≤ bd; omega) (.int .i64 ((k2 : Int) + 1))
              have KK := Lib.hid (And.intro jD2 (And.intro jS2 (And.intro jT2 (And.intro jR2 jB2))))
              clear jD jS jT jR jX jB jD2 jS2 jT2 jR2 jB2
              go_wp2
              go_roundw
              case rel =>
                obtain ⟨jD, jS, jT, jR, jB⟩ := KK.out
                exact ⟨k2 + 1, by omega, by go_num, by rw [HLn1.out, HLn2.out]; exact jD, by rw [HSm.out.1, HSm.out.2]; exact jS, jT, jR, jB⟩
              case measure => simp [intOf]; omega
            · have HLn2 := Lib.hid (show lastN fA l1 (k2 + 1) = LA by rw [HLn.out.2, HSm.out.1, if_neg hA])
              have HLn1 := Lib.hid (show lastN fB l0 (k2 + 1) = k2 + 1 by rw [HLn.out.1, HSm.out.2, if_pos hB])
              have KK := Lib.hid (And.intro jD (And.intro jS (And.intro jT (And.intro jR jB))))
              clear jD jS jT jR jX jB
              go_wp2
              go_roundw
              case rel =>
                obtain ⟨jD, jS, jT, jR, jB⟩ := KK.out
                exact ⟨k2 + 1, by omega, by go_num, by rw [HLn1.out, HLn2.out]; exact jD, by rw [HSm.out.1, HSm.out.2]; exact jS, jT, jR, jB⟩
              case measure => simp [intOf]; omega
          · go_upto_region 23 with fail
            clear t0 t1 s0 s1 zT zS3
            obtain ⟨t0, t1⟩ := jT.c2
            obtain ⟨s0, s1⟩ := jS.c2
            obtain ⟨n0, n1⟩ := jD.c2
            have f0 := jD.free 0
            have f1 := jD.free 1
            have zD := jD.lt
            have zT := jT.lt
            have zS3 := jS.lt
            by_cases hA : SA + A ≤ l1
            · have HLn2 := Lib.hid (show lastN fA l1 (k2 + 1) = k2 + 1 by rw [HLn.out.2, HSm.out.1, if_pos hA])
              have HLn1 := Lib.hid (show lastN fB l0 (k2 + 1) = LB by rw [HLn.out.1, HSm.out.2, if_neg hB])
              have e3 : IntKind.i64.wrap ((k2 : Int) + 1) = (k2 : Int) + 1 := IntWalk.i64_in _ (by omega)
              have jD2 := jD.set 1 (.int .i64 ((k2 : Int) + 1))
              have jS2 := jS.other ⟨bd, 1, none⟩ (.int .i64 ((k2 : Int) + 1)) (by show _ ≠ bd; omega)
              have jT2 := jT.other ⟨bd, 1, none⟩ (.int .i64 ((k2 : Int) + 1)) (by show _ ≠ bd; omega)
              have jR2 := jR.other ⟨bd, 1, none⟩ (.int .i64 ((k2 : Int) + 1)) (by show _ ≠ bd; omega)
              have jB2 := jB.setCell (p := ⟨bd, 1, none⟩) (by show _ ≤ bd; omega) (.int .i64 ((k2 : Int) + 1))
              have KK := Lib.hid (And.intro jD2 (And.intro jS2 (And.intro jT2 (And.intro jR2 jB2))))
              clear jD jS jT jR jX jB jD2 jS2 jT2 jR2 jB2
              go_wp2
              go_roundw
              case rel =>
                obtain ⟨jD, jS, jT, jR, jB⟩ := KK.out
                exact ⟨k2 + 1, by omega, by go_num, by rw [HLn1.out, HLn2.out]; exact jD, by rw [HSm.out.1, HSm.out.2]; exact jS, jT, jR, jB⟩
              case measure => simp [intOf]; omega
            · have HLn2 := Lib.hid (show lastN fA l1 (k2 + 1) = LA by rw [HLn.out.2, HSm.out.1, if_neg hA])
              have HLn1 := Lib.hid (show lastN fB l0 (k2 + 1) = LB by rw [HLn.out.1, HSm.out.2, if_neg hB])
              have KK := Lib.hid (And.intro jD (And.intro jS (And.intro jT (And.intro jR jB))))
              clear jD jS jT jR jX jB
              go_wp2
              go_roundw
              case rel =>
                obtain ⟨jD, jS, jT, jR, jB⟩ := KK.out
                exact ⟨k2 + 1, by omega, by go_num, by rw [HLn1.out, HLn2.out]; exact jD, by rw [HSm.out.1, HSm.out.2]; exact jS, jT, jR, jB⟩
              case measure => simp [intOf]; omega
        · obtain rfl : k2 = k := by omega
          obtain ⟨d0, d1⟩ := jD.c2
          obtain ⟨r0, r1⟩ := jR.c2
          have f0 := jR.free 0
          have f1 := jR.free 1
          have zR := jR.lt
          have zD := jD.lt
          obtain ⟨X, hX⟩ : ∃ z, lastN fB l0 k2 = z := ⟨_, rfl⟩
          obtain ⟨Y, hY⟩ : ∃ z, lastN fA l1 k2 = z := ⟨_, rfl⟩
          rw [hX] at d0
          rw [hY] at d1
          have HXY := Lib.hid (And.intro hX hY)
          clear hX hY
          have KR := Lib.hid ((jR.set 0 (.int .i64 X)).set 1 (.int .i64 Y))
          have KB := Lib.hid (below_set2 (c := w.heap.size + 1) (j := 0) (k := 1) jB (by omega) (.int .i64 X) (.int .i64 Y))
          clear jT jR jD jS jB
          go_wp2_with fail
          obtain ⟨z0, z1⟩ := KR.out.c2
          exact bodyPost_ret (v := .tuple #[.agg #[.int .i64 X, .int .i64 Y], .int .i64 0]) (by simp [results, Try.results48, go_sem, z0, z1]) rfl ⟨_, rfl, by rw [← HXY.out.1, ← HXY.out.2]; exact HO.out, KB.out⟩
end Go.Proofs.Ytegdflikeoiaaaa
