/-
  The sums of flows over one side of a set (package fuel).
-/
import Derived.Test.YtpeogfcfiabcfaaTail
import Derived.Test.YtpeogfcfiabcfaaSet
set_option linter.unusedVariables false
set_option linter.unusedSimpArgs false
namespace Go.Proofs.Ytpeogfcfiabcfaa
open Go.RowKit

def FlOk (E : Nat → Fl) (m : Nat) : Prop := m ≤ 60 ∧ ∀ i, i < m → (E i).a ≤ 20 ∧ (E i).b ≤ 20 ∧ 0 ≤ (E i).l ∧ (E i).l ≤ 46000000000 ∧ 0 ≤ (E i).h ∧ (E i).h ≤ 46000000000
theorem pk_bd (c : Bool) (x : Int) (h0 : 0 ≤ x) (h1 : x ≤ 46000000000) : 0 ≤ pk c x ∧ pk c x ≤ 46000000000 := by
  cases c
  · rw [pk_f]; omega
  · rw [pk_t]; omega
theorem sumT_bd (f : Nat → Int) (m : Nat) (h : ∀ i, i < m → 0 ≤ f i ∧ f i ≤ 46000000000) : ∀ k, k ≤ m → 0 ≤ sumT f k ∧ sumT f k ≤ 46000000000 * k
  | 0, _ => ⟨Int.le_refl _, Int.le_refl _⟩
  | k + 1, hk => by
    have := sumT_bd f m h k (by omega)
    have := h k (by omega)
    rw [sumT]
    omega
theorem FlOk.sum {E : Nat → Fl} {m : Nat} (h : FlOk E m) (S : Nat → Bool) (k : Nat) (hk : k ≤ m) : (0 ≤ iLo E k S ∧ iLo E k S ≤ 2760000000000) ∧ (0 ≤ iHi E k S ∧ iHi E k S ≤ 2760000000000) ∧ (0 ≤ oLo E k S ∧ oLo E k S ≤ 2760000000000) ∧ (0 ≤ oHi E k S ∧ oHi E k S ≤ 2760000000000) := by
  have h60 := h.1
  have b : ∀ i, i < m → _ := h.2
  have q1 := sumT_bd (fun i => pk (cIn S (E i)) (E i).l) m (fun i hi => pk_bd _ _ (b i hi).2.2.1 (b i hi).2.2.2.1) k hk
  have q2 := sumT_bd (fun i => pk (cIn S (E i)) (E i).h) m (fun i hi => pk_bd _ _ (b i hi).2.2.2.2.1 (b i hi).2.2.2.2.2) k hk
  have q3 := sumT_bd (fun i => pk (cOut S (E i)) (E i).l) m (fun i hi => pk_bd _ _ (b i hi).2.2.1 (b i hi).2.2.2.1) k hk
  have q4 := sumT_bd (fun i => pk (cOut S (E i)) (E i).h) m (fun i hi => pk_bd _ _ (b i hi).2.2.2.2.1 (b i hi).2.2.2.2.2) k hk
  unfold iLo iHi oLo oHi
  refine ⟨?_, ?_, ?_, ?_⟩ <;> omega
theorem iLo_s (E : Nat → Fl) (k : Nat) (S : Nat → Bool) : iLo E (k + 1) S = iLo E k S + pk (cIn S (E k)) (E k).l := rfl
theorem iHi_s (E : Nat → Fl) (k : Nat) (S : Nat → Bool) : iHi E (k + 1) S = iHi E k S + pk (cIn S (E k)) (E k).h := rfl
theorem oLo_s (E : Nat → Fl) (k : Nat) (S : Nat → Bool) : oLo E (k + 1) S = oLo E k S + pk (cOut S (E k)) (E k).l := rfl
theorem oHi_s (E : Nat → Fl) (k : Nat) (S : Nat → Bool) : oHi E (k + 1) S = oHi E k S + pk (cOut S (E k)) (E k).h := rfl

set_option maxRecDepth 100000 in
set_option maxHeartbeats 2000000 in
theorem sum_into (E : Nat → Fl) (m s bh : Nat) (hE : FlOk E m) (hs : s < 1048576) (v : Value) (w : World) (hF : FlsAt w v m E) (hh : HasAt w bh s) :
    Calls Try.prog 127 #[v, .func (.func 151) #[] #[.pointer (some ⟨bh, 0, none⟩)]] w fun e w' => e = .returned (.agg #[.int .i64 (iLo E m (bS s)), .int .i64 (iHi E m (bS s))]) ∧ Below w.heap.size w w' := by
  obtain ⟨a, cap, rfl, g1, g2, hz⟩ := hF
  have HZ := Lib.hid hz
  have h60 := hE.1
  have HE := Lib.hid hE
  have HH := Lib.hid (fun (W : World) (h : Below w.heap.size w W) => hh.later h)
  have HS := Lib.hid (fun k => hE.sum (bS s) k)
  obtain ⟨L, hL⟩ : ∃ L : Nat → Int, L = fun k => iLo E k (bS s) := ⟨_, rfl⟩
  obtain ⟨H, hH⟩ : ∃ H : Nat → Int, H = fun k => iHi E k (bS s) := ⟨_, rfl⟩
  have hL0 : L 0 = 0 := by rw [hL]; rfl
  have hH0 : H 0 = 0 := by rw [hH]; rfl
  have HLs : Hid (∀ k, L (k + 1) = L k + pk (cIn (bS s) (E k)) (E k).l) := fun k => by rw [hL]; rfl
  have HHs : Hid (∀ k, H (k + 1) = H k + pk (cIn (bS s) (E k)) (E k).h) := fun k => by rw [hH]; rfl
  have HB : Hid (∀ k, k ≤ m → 0 ≤ L k ∧ L k ≤ 2760000000000 ∧ 0 ≤ H k ∧ H k ≤ 2760000000000) := fun k hk => by
    have := HS.out k hk
    rw [hL, hH]
    dsimp only
    omega
  rw [show iLo E m (bS s) = L m by rw [hL], show iHi E m (bS s) = H m by rw [hH]]
  clear hz hE hh hL hH HS
  have HL0 := Lib.hid (And.intro hL0 hH0)
  clear hL0 hH0
  have jR := (Blk.new w #[.int .i64 0, .int .i64 0] 26).alloc (.cells #[.int .i64 0, .int .i64 0] 26)
  have jS := Blk.new1 w (.cells #[.int .i64 0, .int .i64 0] 26) #[.int .i64 0, .int .i64 0] 26
  have jB : Below w.heap.size w ((w.alloc (.cells #[.int .i64 0, .int .i64 0] 26)).alloc (.cells #[.int .i64 0, .int .i64 0] 26)) := by (repeat (first | exact Below.refl _ _ | assumption | refine Below.drew ?_ | refine Below.drewN ?_ _ | refine blT ?_ | refine blU ?_))
  go_enter Try.func127, Try.ntmps127
  go_wp2
  go_loopw [10] (fun i wr => ∃ k : Nat, k ≤ m ∧ i = .int .i64 k ∧ Blk wr w.heap.size #[.int .i64 0, .int .i64 0] 26 ∧ Blk wr (w.heap.size + 1) #[.int .i64 (L k), .int .i64 (H k)] 26 ∧ Below w.heap.size w wr) (fun i _ => m - (intOf i).toNat)
  case atStart => exact ⟨0, Nat.zero_le _, rfl, jR, by rw [HL0.out.1, HL0.out.2]; exact jS, jB⟩
  case round =>
    clear jR jS jB
    obtain ⟨k, hk, rfl, jR, jS, jB⟩ := hrel
    have hb1 := HB.out k hk
    by_cases hlt : k < m
    · obtain ⟨b, o, rfl, hc⟩ := HZ.out (by omega)
      obtain ⟨a0, a1, a2, a3⟩ := AtC.c4 hc hlt rfl
      replace a0 := cell_later jB a0
      replace a1 := cell_later jB a1
      replace a2 := cell_later jB a2
      replace a3 := cell_later jB a3
      have hbs := World.block_lt_of_cell? _ _ a0
      have hE := HE.out.2 k hlt
      have hb2 := HB.out (k + 1) hlt
      have HL1 := Lib.hid (HLs.out k)
      have HH1 := Lib.hid (HHs.out k)
      have K := Lib.hid (fun (W : World) (h : Below w.heap.size w W) => into_any (E k) s bh hE.1 hE.2.1 hs W (HH.out W h))
      obtain ⟨f, hf⟩ : ∃ f, E k = f := ⟨_, rfl⟩
      rw [hf] at a0 a1 a2 a3 hE K HL1 HH1
      obtain ⟨c, hcc⟩ : ∃ c, cIn (bS s) f = c := ⟨_, rfl⟩
      rw [hcc] at K HL1 HH1
      obtain ⟨_, _, f1, f2, f3, f4⟩ := hE
      have zS := jS.lt
      have zW : w.heap.size ≤ wr.heap.size := jB.size
      have FF := Lib.hid (Blk.new wr #[.int .i64 f.a, .int .i64 f.b, .int .i64 f.l, .int .i64 f.h] 145)
      have kB : Below w.heap.size w (wr.alloc (.cells #[.int .i64 f.a, .int .i64 f.b, .int .i64 f.l, .int .i64 f.h] 145)) := bwA jB (Nat.le_refl _) _
      replace jR := jR.alloc (.cells #[.int .i64 f.a, .int .i64 f.b, .int .i64 f.l, .int .i64 f.h] 145)
      replace jS := jS.alloc (.cells #[.int .i64 f.a, .int .i64 f.b, .int .i64 f.l, .int .i64 f.h] 145)
      clear hf hcc hc
      go_wp2_with fail
      refine (K.out _ kB).mono ?_
      rintro e w2 ⟨rfl, hb⟩
      have jF := FF.out.call hb
      replace jR := jR.call hb
      replace jS := jS.call hb
      replace kB := bwS kB (Nat.le_refl _) hb
      clear hb jB a0 a1 a2 a3 hbs FF K
      obtain ⟨p0, p1, p2, p3⟩ := jF.c4
      obtain ⟨s0, s1⟩ := jS.c2
      have fr0 := jS.free 0
      have fr1 := jS.free 1
      have z1 := jF.lt
      have z2 := jS.lt
      cases c with
      | false =>
        rw [pk_f, Int.add_zero] at HL1 HH1
        go_wp2
        go_roundw
        case rel => exact ⟨k + 1, by omega, by go_num, jR, by rw [HL1.out, HH1.out]; exact jS, kB⟩
        case measure => simp [intOf]; omega
      | true =>
        rw [pk_t] at HL1 HH1
        have hq1 : L k + f.l = L (k + 1) := HL1.out.symm
        have hq2 : H k + f.h = H (k + 1) := HH1.out.symm
        have y1 : -9223372036854775808 ≤ L k + f.l ∧ L k + f.l ≤ 9223372036854775807 := by omega
        have y2 : -9223372036854775808 ≤ H k + f.h ∧ H k + f.h ≤ 9223372036854775807 := by omega
        have HS2 := Lib.hid (show Blk _ (w.heap.size + 1) #[.int .i64 (L (k + 1)), .int .i64 (H (k + 1))] _ by rw [← hq1, ← hq2]; exact (jS.set 0 (.int .i64 (L k + f.l))).set 1 (.int .i64 (H k + f.h)))
        have HR2 := Lib.hid ((jR.other ⟨w.heap.size + 1, 0, none⟩ (.int .i64 (L k + f.l)) (by simp)).other ⟨w.heap.size + 1, 1, none⟩ (.int .i64 (H k + f.h)) (by simp))
        have HB2 := Lib.hid ((kB.setCell (p := ⟨w.heap.size + 1, 0, none⟩) (by simp) (.int .i64 (L k + f.l))).setCell (p := ⟨w.heap.size + 1, 1, none⟩) (by simp) (.int .i64 (H k + f.h)))
        clear hq1 hq2 hb2 HL1 HH1
        clear jR jS kB jF
        go_wp2
        go_roundw
        case rel => exact ⟨k + 1, by omega, by go_num, HR2.out, HS2.out, HB2.out⟩
        case measure => simp [intOf]; omega
    · obtain rfl : k = m := by omega
      obtain ⟨r0, r1⟩ := jR.c2
      obtain ⟨s0, s1⟩ := jS.c2
      have fr0 := jR.free 0
      have fr1 := jR.free 1
      have z1 := jR.lt
      have z2 := jS.lt
      have HQ := Lib.hid ((jR.set 0 (.int .i64 (L k))).set 1 (.int .i64 (H k))).c2
      have HB2 := Lib.hid ((jB.setCell (p := ⟨w.heap.size, 0, none⟩) (by simp) (.int .i64 (L k))).setCell (p := ⟨w.heap.size, 1, none⟩) (by simp) (.int .i64 (H k)))
      clear jR jS jB
      go_wp2
      obtain ⟨q0, q1⟩ := HQ.out
      exact bodyPost_ret (v := .agg #[.int .i64 (L k), .int .i64 (H k)]) (by simp [results, Try.results127, go_sem, q0, q1]) rfl ⟨rfl, HB2.out⟩

set_option maxRecDepth 100000 in
set_option maxHeartbeats 2000000 in
theorem sum_outof (E : Nat → Fl) (m s bh : Nat) (hE : FlOk E m) (hs : s < 1048576) (v : Value) (w : World) (hF : FlsAt w v m E) (hh : HasAt w bh s) :
    Calls Try.prog 127 #[v, .func (.func 152) #[] #[.pointer (some ⟨bh, 0, none⟩)]] w fun e w' => e = .returned (.agg #[.int .i64 (oLo E m (bS s)), .int .i64 (oHi E m (bS s))]) ∧ Below w.heap.size w w' := by
  obtain ⟨a, cap, rfl, g1, g2, hz⟩ := hF
  have HZ := Lib.hid hz
  have h60 := hE.1
  have HE := Lib.hid hE
  have HH := Lib.hid (fun (W : World) (h : Below w.heap.size w W) => hh.later h)
  have HS := Lib.hid (fun k => hE.sum (bS s) k)
  obtain ⟨L, hL⟩ : ∃ L : Nat → Int, L = fun k => oLo E k (bS s) := ⟨_, rfl⟩
  obtain ⟨H, hH⟩ : ∃ H : Nat → Int, H = fun k => oHi E k (bS s) := ⟨_, rfl⟩
  have hL0 : L 0 = 0 := by rw [hL]; rfl
  have hH0 : H 0 = 0 := by rw [hH]; rfl
  have HLs : Hid (∀ k, L (k + 1) = L k + pk (cOut (bS s) (E k)) (E k).l) := fun k => by rw [hL]; rfl
  have HHs : Hid (∀ k, H (k + 1) = H k + pk (cOut (bS s) (E k)) (E k).h) := fun k => by rw [hH]; rfl
  have HB : Hid (∀ k, k ≤ m → 0 ≤ L k ∧ L k ≤ 2760000000000 ∧ 0 ≤ H k ∧ H k ≤ 2760000000000) := fun k hk => by
    have := HS.out k hk
    rw [hL, hH]
    dsimp only
    omega
  rw [show oLo E m (bS s) = L m by rw [hL], show oHi E m (bS s) = H m by rw [hH]]
  clear hz hE hh hL hH HS
  have HL0 := Lib.hid (And.intro hL0 hH0)
  clear hL0 hH0
  have jR := (Blk.new w #[.int .i64 0, .int .i64 0] 26).alloc (.cells #[.int .i64 0, .int .i64 0] 26)
  have jS := Blk.new1 w (.cells #[.int .i64 0, .int .i64 0] 26) #[.int .i64 0, .int .i64 0] 26
  have jB : Below w.heap.size w ((w.alloc (.cells #[.int .i64 0, .int .i64 0] 26)).alloc (.cells #[.int .i64 0, .int .i64 0] 26)) := by (repeat (first | exact Below.refl _ _ | assumption | refine Below.drew ?_ | refine Below.drewN ?_ _ | refine blT ?_ | refine blU ?_))
  go_enter Try.func127, Try.ntmps127
  go_wp2
  go_loopw [10] (fun i wr => ∃ k : Nat, k ≤ m ∧ i = .int .i64 k ∧ Blk wr w.heap.size #[.int .i64 0, .int .i64 0] 26 ∧ Blk wr (w.heap.size + 1) #[.int .i64 (L k), .int .i64 (H k)] 26 ∧ Below w.heap.size w wr) (fun i _ => m - (intOf i).toNat)
  case atStart => exact ⟨0, Nat.zero_le _, rfl, jR, by rw [HL0.out.1, HL0.out.2]; exact jS, jB⟩
  case round =>
    clear jR jS jB
    obtain ⟨k, hk, rfl, jR, jS, jB⟩ := hrel
    have hb1 := HB.out k hk
    by_cases hlt : k < m
    · obtain ⟨b, o, rfl, hc⟩ := HZ.out (by omega)
      obtain ⟨a0, a1, a2, a3⟩ := AtC.c4 hc hlt rfl
      replace a0 := cell_later jB a0
      replace a1 := cell_later jB a1
      replace a2 := cell_later jB a2
      replace a3 := cell_later jB a3
      have hbs := World.block_lt_of_cell? _ _ a0
      have hE := HE.out.2 k hlt
      have hb2 := HB.out (k + 1) hlt
      have HL1 := Lib.hid (HLs.out k)
      have HH1 := Lib.hid (HHs.out k)
      have K := Lib.hid (fun (W : World) (h : Below w.heap.size w W) => outof_any (E k) s bh hE.1 hE.2.1 hs W (HH.out W h))
      obtain ⟨f, hf⟩ : ∃ f, E k = f := ⟨_, rfl⟩
      rw [hf] at a0 a1 a2 a3 hE K HL1 HH1
      obtain ⟨c, hcc⟩ : ∃ c, cOut (bS s) f = c := ⟨_, rfl⟩
      rw [hcc] at K HL1 HH1
      obtain ⟨_, _, f1, f2, f3, f4⟩ := hE
      have zS := jS.lt
      have zW : w.heap.size ≤ wr.heap.size := jB.size
      have FF := Lib.hid (Blk.new wr #[.int .i64 f.a, .int .i64 f.b, .int .i64 f.l, .int .i64 f.h] 145)
      have kB : Below w.heap.size w (wr.alloc (.cells #[.int .i64 f.a, .int .i64 f.b, .int .i64 f.l, .int .i64 f.h] 145)) := bwA jB (Nat.le_refl _) _
      replace jR := jR.alloc (.cells #[.int .i64 f.a, .int .i64 f.b, .int .i64 f.l, .int .i64 f.h] 145)
      replace jS := jS.alloc (.cells #[.int .i64 f.a, .int .i64 f.b, .int .i64 f.l, .int .i64 f.h] 145)
      clear hf hcc hc
      go_wp2_with fail
      refine (K.out _ kB).mono ?_
      rintro e w2 ⟨rfl, hb⟩
      have jF := FF.out.call hb
      replace jR := jR.call hb
      replace jS := jS.call hb
      replace kB := bwS kB (Nat.le_refl _) hb
      clear hb jB a0 a1 a2 a3 hbs FF K
      obtain ⟨p0, p1, p2, p3⟩ := jF.c4
      obtain ⟨s0, s1⟩ := jS.c2
      have fr0 := jS.free 0
      have fr1 := jS.free 1
      have z1 := jF.lt
      have z2 := jS.lt
      cases c with
      | false =>
        rw [pk_f, Int.add_zero] at HL1 HH1
        go_wp2
        go_roundw
        case rel => exact ⟨k + 1, by omega, by go_num, jR, by rw [HL1.out, HH1.out]; exact jS, kB⟩
        case measure => simp [intOf]; omega
      | true =>
        rw [pk_t] at HL1 HH1
        have hq1 : L k + f.l = L (k + 1) := HL1.out.symm
        have hq2 : H k + f.h = H (k + 1) := HH1.out.symm
        have y1 : -9223372036854775808 ≤ L k + f.l ∧ L k + f.l ≤ 9223372036854775807 := by omega
        have y2 : -9223372036854775808 ≤ H k + f.h ∧ H k + f.h ≤ 9223372036854775807 := by omega
        have HS2 := Lib.hid (show Blk _ (w.heap.size + 1) #[.int .i64 (L (k + 1)), .int .i64 (H (k + 1))] _ by rw [← hq1, ← hq2]; exact (jS.set 0 (.int .i64 (L k + f.l))).set 1 (.int .i64 (H k + f.h)))
        have HR2 := Lib.hid ((jR.other ⟨w.heap.size + 1, 0, none⟩ (.int .i64 (L k + f.l)) (by simp)).other ⟨w.heap.size + 1, 1, none⟩ (.int .i64 (H k + f.h)) (by simp))
        have HB2 := Lib.hid ((kB.setCell (p := ⟨w.heap.size + 1, 0, none⟩) (by simp) (.int .i64 (L k + f.l))).setCell (p := ⟨w.heap.size + 1, 1, none⟩) (by simp) (.int .i64 (H k + f.h)))
        clear hq1 hq2 hb2 HL1 HH1
        clear jR jS kB jF
        go_wp2
        go_roundw
        case rel => exact ⟨k + 1, by omega, by go_num, HR2.out, HS2.out, HB2.out⟩
        case measure => simp [intOf]; omega
    · obtain rfl : k = m := by omega
      obtain ⟨r0, r1⟩ := jR.c2
      obtain ⟨s0, s1⟩ := jS.c2
      have fr0 := jR.free 0
      have fr1 := jR.free 1
      have z1 := jR.lt
      have z2 := jS.lt
      have HQ := Lib.hid ((jR.set 0 (.int .i64 (L k))).set 1 (.int .i64 (H k))).c2
      have HB2 := Lib.hid ((jB.setCell (p := ⟨w.heap.size, 0, none⟩) (by simp) (.int .i64 (L k))).setCell (p := ⟨w.heap.size, 1, none⟩) (by simp) (.int .i64 (H k)))
      clear jR jS jB
      go_wp2
      obtain ⟨q0, q1⟩ := HQ.out
      exact bodyPost_ret (v := .agg #[.int .i64 (L k), .int .i64 (H k)]) (by simp [results, Try.results127, go_sem, q0, q1]) rfl ⟨rfl, HB2.out⟩
end Go.Proofs.Ytpeogfcfiabcfaa
