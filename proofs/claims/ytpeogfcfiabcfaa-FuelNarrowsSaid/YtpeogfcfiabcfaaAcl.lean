/-
  checkAccounts (package fuel), exact for any list of accounts.
-/
import Derived.Test.YtpeogfcfiabcfaaTail
import Derived.Test.YtpeogfcfiabcfaaAcc
set_option linter.unusedVariables false
set_option linter.unusedSimpArgs false
namespace Go.Proofs.Ytpeogfcfiabcfaa
open Go.RowKit

def eAcs (n : Nat) (A : Nat → Ac) : Int := eL 8 n (eAc A)
theorem grownBy_trans' {w v x : World} {r : Option Nat} (h : w.grownBy v r) (g : v.grownBy x r) : w.grownBy x r :=
  ⟨g.os.trans h.os, g.tape.trans h.tape, g.output.trans h.output, Nat.le_trans h.size g.size, fun k hk hn => (g.block k (Nat.lt_of_lt_of_le hk h.size) hn).trans (h.block k hk hn)⟩
theorem grown_refl (w : World) (r : Option Nat) : w.grownBy w r := ⟨rfl, rfl, rfl, Nat.le_refl _, fun _ _ _ => rfl⟩
theorem grown_below' {w v : World} {r : Option Nat} (h : Below w.heap.size w v) : w.grownBy v r := ⟨h.os, h.tape, h.output, h.size, fun k hk _ => h.block k hk⟩

set_option maxRecDepth 100000 in
set_option maxHeartbeats 2000000 in
theorem lacc_some (A : Nat → Ac) (bm bM b o n cap : Nat) (w : World) (hm8 : n ≤ 8) (hcap : n ≤ cap) (hl : cap ≤ 9223372036854775807) (hc : AtC w b o n 6 (acC A)) (hs : ∀ i, i < n → (A i).nm.size ≤ maxLen) (hm : w.cell? ⟨bm, 0, none⟩ = some (.map (some bM))) (hN : NamesAt w bM 0 A) :
    Calls Try.prog 153 #[.slice (some ⟨b, o, none⟩) n cap, .int .i64 8, .func (.func 154) #[] #[.pointer (some ⟨bm, 0, none⟩)]] w fun e w' => e = .returned (.int .i64 (firstNZ (eAc A) 0 n)) ∧ w.grownBy w' (some bM) := by
  have hE : eM n 8 = 0 := by unfold eM; rw [if_neg (by omega)]
  have hbm : bm ≠ bM := hN.ne hm
  have HB : Hid (0 < n → b ≠ bM) := fun h0 => hN.ne (hc.c6 h0 rfl).1
  have HC := Lib.hid hc
  have HS := Lib.hid hs
  obtain ⟨X, hX⟩ : ∃ X : Nat → Int, X = eAc A := ⟨_, rfl⟩
  rw [← hX]
  have HX : Hid (∀ i : Nat, eAc A i = X i) := fun i => by rw [hX]
  clear hc hs hX
  go_enter Try.func153, Try.ntmps153
  go_wp2_with (go_at_call 109; refine (most_any _ _ _).mono ?_; rintro e w' ⟨rfl, rfl⟩)
  go_loopw [20] (fun i wr => ∃ k : Nat, k ≤ n ∧ i = .int .i64 k ∧ firstNZ X 0 n = firstNZ X k (n - k) ∧ NamesAt wr bM k A ∧ w.grownBy wr (some bM)) (fun i _ => n - (intOf i).toNat)
  case atStart => exact ⟨0, Nat.zero_le _, rfl, rfl, hN, grown_refl _ _⟩
  case round =>
    clear hN
    obtain ⟨k, hk, rfl, hd, hN, hG⟩ := hrel
    have HD := Lib.hid hd
    clear hd
    by_cases hlt2 : k < n
    · obtain ⟨a0, a1, a2, a3, a4, a5⟩ := HC.out.c6 hlt2 rfl
      have hbM := HB.out (by omega)
      have hne : (some b : Option Nat) ≠ some bM := by simpa using hbM
      replace a0 := hG.cell a0 hne
      replace a1 := hG.cell a1 hne
      replace a2 := hG.cell a2 hne
      replace a3 := hG.cell a3 hne
      replace a4 := hG.cell a4 hne
      replace a5 := hG.cell a5 hne
      have jm := hG.cell hm (by simpa using hbm)
      have hsk := HS.out k hlt2
      have zb := World.block_lt_of_cell? _ _ a0
      have zm := World.block_lt_of_cell? _ _ jm
      have zN := hN.lt
      have hws : w.heap.size ≤ wr.heap.size := hG.size
      have HH0 : Hid (∀ _ : X k = 0, Hid _) := fun h => firstNZ_step0 X n k (by omega) h
      have HH1 : Hid (∀ _ : ¬ X k = 0, Hid _) := fun h => firstNZ_stepN X n k (by omega) h
      have HXk := Lib.hid (HX.out k)
      have HA := Lib.hid (fun (W : World) (hb : Below wr.heap.size wr W) => acc_one A k bm bM (by unfold maxLen; omega) k W hsk (cell_later hb jm) (hN.later hb))
      clear hsk hne
      go_wp2_with fail
      refine (HA.out _ (by (repeat (first | exact Below.refl _ _ | assumption | refine Below.drew ?_ | refine Below.drewN ?_ _ | refine blT ?_ | refine blU ?_)))).mono ?_
      rw [HXk.out]
      rintro e w2 ⟨rfl, hN2, hg2⟩
      have hG2 : w.grownBy w2 (some bM) := grownBy_trans' (grownBy_trans' hG (grown_below' (by (repeat (first | exact Below.refl _ _ | assumption | refine Below.drew ?_ | refine Below.drewN ?_ _ | refine blT ?_ | refine blU ?_))))) hg2
      clear hg2 HA
      by_cases hz2 : X k = 0
      · have H0 := HH0.out hz2
        have hz3 : (X k != 0) = false := by simpa using hz2
        clear hz2
        go_wp2
        go_roundw
        case rel => exact ⟨k + 1, by omega, by go_num, by rw [HD.out, H0.out], hN2, hG2⟩
        case measure => simp [intOf]; omega
      · have H0 := HH1.out hz2
        have hz3 : (X k != 0) = true := by simpa using hz2
        clear hz2
        go_wp2
        go_ret
        exact ⟨by rw [HD.out, H0.out]; rfl, hG2⟩
    · go_wp2
      go_ret
      have : n - k = 0 := by omega
      exact ⟨by rw [HD.out, this]; rfl, hG⟩
def NmOk (n : Nat) (A : Nat → Ac) : Prop := ∀ i, i < n → (A i).nm.size ≤ maxLen
theorem lacc_any (A : Nat → Ac) (bm bM n : Nat) (v : Value) (w : World) (h : AcsAt w v n A) (hs : NmOk n A) (hm : w.cell? ⟨bm, 0, none⟩ = some (.map (some bM))) (hN : NamesAt w bM 0 A) :
    Calls Try.prog 153 #[v, .int .i64 8, .func (.func 154) #[] #[.pointer (some ⟨bm, 0, none⟩)]] w fun e w' => e = .returned (.int .i64 (eAcs n A)) ∧ w.grownBy w' (some bM) := by
  obtain ⟨a, cap, rfl, h1, h2, h3⟩ := h
  unfold eAcs eL
  by_cases h0 : n = 0
  · subst h0
    rw [if_neg (by omega)]
    exact (lac_none _ 8 (by decide) a cap w).mono fun e w' ⟨he, hw⟩ => ⟨he, hw ▸ grown_refl _ _⟩
  by_cases h12 : 8 < n
  · rw [if_pos (by omega)]
    exact (lac_many _ 8 a n cap w (by omega) (by omega)).mono fun e w' ⟨he, hw⟩ => ⟨he, hw ▸ grown_refl _ _⟩
  rw [if_neg (by omega)]
  obtain ⟨b, o, rfl, hc⟩ := h3 (by omega)
  exact lacc_some A bm bM b o n cap w (by omega) h1 h2 hc hs hm hN
theorem below_grown {w V W : World} {b : Nat} (h : Below w.heap.size w V) (g : V.grownBy W (some b)) (hb : w.heap.size ≤ b) : Below w.heap.size w W :=
  ⟨g.os.trans h.os, g.tape.trans h.tape, g.output.trans h.output, Nat.le_trans h.size g.size, fun k hk => (g.block k (Nat.lt_of_lt_of_le hk h.size) (by simp; omega)).trans (h.block k hk)⟩
set_option maxRecDepth 100000 in
set_option maxHeartbeats 1000000 in
theorem accs_any (A : Nat → Ac) (n : Nat) (v : Value) (w : World) (h : AcsAt w v n A) (hs : NmOk n A) :
    Calls Try.prog 145 #[v] w fun e w' => e = .returned (.int .i64 (eAcs n A)) ∧ Below w.heap.size w w' := by
  have hmm := @run_makeMap Try.prog
  have jB : Below w.heap.size w ((w.alloc (.map #[] 0)).alloc (.cells #[.map (some w.heap.size)] 171)) := by (repeat (first | exact Below.refl _ _ | assumption | refine Below.drew ?_ | refine Below.drewN ?_ _ | refine blT ?_ | refine blU ?_))
  have HA := Lib.hid (lacc_any A (w.heap.size + 1) w.heap.size n v _ (h.later jB) hs ((Blk.new1 w (.map #[] 0) #[.map (some w.heap.size)] 171).cell 0 rfl) (World.ownsMap.alloc (World.ownsMap_made w Try.prog 9 _) _))
  obtain ⟨a, cap, rfl, h1, h2, h3⟩ := h
  clear h3
  go_enter Try.func145, Try.ntmps145
  go_wp2_with fail
  refine HA.out.mono ?_
  rintro e w2 ⟨rfl, hg⟩
  have jB2 := below_grown jB hg (Nat.le_refl _)
  clear hg jB
  go_wp2
  go_ret
  exact ⟨rfl, jB2⟩
end Go.Proofs.Ytpeogfcfiabcfaa
