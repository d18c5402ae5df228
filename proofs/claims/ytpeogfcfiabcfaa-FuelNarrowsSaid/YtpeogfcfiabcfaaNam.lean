/-
  Names of accounts: which words may be one; the set of names that were seen, as a map of the call's own.
-/
import Derived.Test.YtpeogfcfiabcfaaEl
import Derived.Laws.RangeAny
import Derived.Maps.OwnOps
import Derived.Maps.Views
set_option linter.unusedVariables false
set_option linter.unusedSimpArgs false
namespace Go.Proofs.Ytpeogfcfiabcfaa
open Go.RowKit

def lowB (s : ByteArray) (i : Nat) : Bool := decide (97 ≤ (s.get! i).toNat ∧ (s.get! i).toNat ≤ 122)
def allLow (s : ByteArray) : Nat → Bool
  | 0 => true
  | n + 1 => allLow s n && lowB s n
theorem allLow_no (s : ByteArray) (p : Nat) (h : lowB s p = false) : ∀ n, p < n → allLow s n = false
  | 0, hn => by omega
  | n + 1, hn => by
    by_cases e : p = n
    · subst e; rw [allLow, h, Bool.and_false]
    · rw [allLow, allLow_no s p h n (by omega), Bool.false_and]
def nmB (s : ByteArray) : Bool := allLow s s.size && decide (1 ≤ s.size ∧ s.size ≤ 8)
theorem get_i (s : ByteArray) (p : Nat) (h : p < s.size) : s.get! p = s[p]'h := get_at s p h
theorem below_iter (w : World) (s : ByteArray) (p : Nat) : Below w.heap.size w (w.iter s p) := (Below.refl _ _).alloc (Nat.le_refl _) _

set_option maxRecDepth 100000 in
set_option maxHeartbeats 1000000 in
theorem name_any (s : ByteArray) (hs : s.size ≤ maxLen) (w : World) :
    Calls Try.prog 155 #[.string s] w fun e w' => e = .returned (.bool (nmB s)) ∧ Below w.heap.size w w' := by
  unfold maxLen at hs
  go_enter Try.func155, Try.ntmps155
  go_wp2
  go_loopw [4] (fun _ wr => ∃ pos : Nat, wr = w.iter s pos ∧ pos ≤ s.size ∧ allLow s pos = true) (fun _ wr => s.size - wr.iterPos w.heap.size)
  case atStart => exact ⟨0, rfl, Nat.zero_le _, rfl⟩
  case round =>
    obtain ⟨pos, rfl, hle, hal⟩ := hrel
    have HAL := Lib.hid hal
    clear hal
    by_cases hp : pos < s.size
    · by_cases ha : (s[pos]'hp).toNat < 128
      · have hnx : ∀ ty, (Instr.next (.pointer (some ⟨w.heap.size, 0, none⟩)) true ty).run Try.prog (w.iter s pos) = _ := fun ty => run_next_ascii w s pos ty hp ha
        have hg := get_i s pos hp
        obtain ⟨c, hc⟩ : ∃ c, (s[pos]'hp).toNat = c := ⟨_, rfl⟩
        rw [hc] at hnx ha
        have HNO : Hid (lowB s pos = false → nmB s = false) := fun h => by unfold nmB; rw [allLow_no s pos h _ hp, Bool.false_and]
        have HLB : Hid (lowB s pos = decide (97 ≤ c ∧ c ≤ 122)) := by show lowB s pos = _; unfold lowB; rw [hg, hc]
        clear hg hc
        by_cases h1 : c < 97
        · have q1 : decide ((c : Int) < 97) = true := by simp; omega
          have q2 : decide (c < 97) = true := by simp; omega
          have HN := Lib.hid (HNO.out (by rw [HLB.out]; simp; omega))
          clear h1
          go_wp2
          go_ret
          exact ⟨by rw [HN.out]; rfl, below_iter _ _ _⟩
        · have q1 : decide ((c : Int) < 97) = false := by simp; omega
          have q2 : decide (c < 97) = false := by simp; omega
          by_cases h2 : 122 < c
          · have q3 : decide ((122 : Int) < (c : Int)) = true := by simp; omega
            have q4 : decide (122 < c) = true := by simp; omega
            have HN := Lib.hid (HNO.out (by rw [HLB.out]; simp; omega))
            clear h1 h2
            go_wp2
            go_ret
            exact ⟨by rw [HN.out]; rfl, below_iter _ _ _⟩
          · have q3 : decide ((122 : Int) < (c : Int)) = false := by simp; omega
            have q4 : decide (122 < c) = false := by simp; omega
            have HN := Lib.hid (show allLow s (pos + 1) = true by rw [allLow, HAL.out, HLB.out]; simp; omega)
            clear h1 h2
            go_wp2
            go_roundw
            case rel => exact ⟨pos + 1, rfl, by omega, HN.out⟩
            case measure => simp; omega
      · have hnx : ∀ ty, (Instr.next (.pointer (some ⟨w.heap.size, 0, none⟩)) true ty).run Try.prog (w.iter s pos) = _ := fun ty => run_next_any w s pos ty hp
        have hdh := (decode_high s pos hp (by omega)).1
        have hno : lowB s pos = false := by unfold lowB; rw [get_i s pos hp]; simp; omega
        have HN := Lib.hid (show nmB s = false by unfold nmB; rw [allLow_no s pos hno _ hp, Bool.false_and])
        clear hno
        obtain ⟨r, hr⟩ : ∃ r, (Utf8.decode s pos).1 = r := ⟨_, rfl⟩
        rw [hr] at hnx hdh
        clear hr ha
        have q1 : decide ((r : Int) < 97) = false := by simp; omega
        have q2 : decide (r < 97) = false := by simp; omega
        have q3 : decide ((122 : Int) < (r : Int)) = true := by simp; omega
        have q4 : decide (122 < r) = true := by simp; omega
        clear hdh
        go_wp2
        go_ret
        exact ⟨by rw [HN.out]; rfl, below_iter _ _ _⟩
    · have hnx : ∀ ty, (Instr.next (.pointer (some ⟨w.heap.size, 0, none⟩)) true ty).run Try.prog (w.iter s pos) = _ := fun ty => run_next_end w s pos ty hp
      obtain rfl : pos = s.size := by omega
      have HN := Lib.hid (show nmB s = decide (1 ≤ s.size ∧ s.size ≤ 8) by unfold nmB; rw [HAL.out, Bool.true_and])
      clear hp hle
      by_cases h1 : 1 ≤ s.size
      · have q1 : decide ((1 : Int) ≤ (s.size : Int)) = true := by simp; omega
        have q2 : decide (1 ≤ s.size) = true := by simp; omega
        by_cases h2 : s.size ≤ 8
        · have q3 : decide ((s.size : Int) ≤ 8) = true := by simp; omega
          have q4 : decide (s.size ≤ 8) = true := by simp; omega
          have HV := Lib.hid (show nmB s = true by rw [HN.out]; exact decide_eq_true (by omega))
          clear h1 h2
          go_wp2
          go_ret
          exact ⟨by rw [HV.out]; rfl, below_iter _ _ _⟩
        · have q3 : decide ((s.size : Int) ≤ 8) = false := by simp; omega
          have q4 : decide (s.size ≤ 8) = false := by simp; omega
          have HV := Lib.hid (show nmB s = false by rw [HN.out]; exact decide_eq_false (by omega))
          clear h1 h2
          go_wp2
          go_ret
          exact ⟨by rw [HV.out]; rfl, below_iter _ _ _⟩
      · have q1 : decide ((1 : Int) ≤ (s.size : Int)) = false := decide_eq_false (by omega)
        have q2 : decide (1 ≤ s.size) = false := decide_eq_false (by omega)
        have HV := Lib.hid (show nmB s = false by rw [HN.out]; exact decide_eq_false (by omega))
        clear h1
        go_wp2
        go_ret
        exact ⟨by rw [HV.out]; rfl, below_iter _ _ _⟩

theorem plainElem_bool_inv {H : Type} {P : Program} {e : TypeId} (he : P.underlying e = some .bool) {v : Value} {z : DataW H × List MemPlace} (h : plainElem P e v = some z) : ∃ a, v = .bool a ∧ z = (.lit (.bool a), []) := by
  unfold plainElem at h
  rw [he] at h
  cases v <;> simp at h
  subst h
  exact ⟨_, rfl, rfl⟩
theorem lookup_bool {H : Type} {P : Program} {k e t : TypeId} {w : World} {b n : Nat} {D : DataW H} (h : w.ownsMap P k (plainElem P e) b n D) (K : Go.Maps.Keyed P k) (ht : P.underlying t = some (.map k e)) (he : P.underlying e = some .bool) (hz : (zeroValue e).run P w = .ok (.bool false) w)
    {key : Value} {kl : Lit} (hkey : keyOf P k key = some kl) : ∃ c, (Instr.lookup t (.map (some b)) key false).run P w = .ok (.bool c) w ∧ D.atKey kl (.lit (.bool false)) = .lit (.bool c) := by
  obtain ⟨v, ps, hrun, hv⟩ := h.lookup K ht hz (plainElem_bool he false) hkey
  obtain ⟨c, rfl, hc⟩ := plainElem_bool_inv he hv
  simp only [Prod.mk.injEq] at hc
  exact ⟨c, hrun, hc.1⟩

def nmL (x : Ac) : Lit := .string x.nm.data.toList
def nmD (A : Nat → Ac) : Nat → DataW Unit
  | 0 => .map []
  | k + 1 => (nmD A k).put (nmL (A k)) (.lit (.bool true))
def seen (A : Nat → Ac) (s : ByteArray) : Nat → Bool
  | 0 => false
  | k + 1 => seen A s k || decide ((A k).nm.data.toList = s.data.toList)
theorem nmD_isMap (A : Nat → Ac) : ∀ k, Go.Maps.IsMap (nmD A k)
  | 0 => Go.Maps.isMap_empty
  | k + 1 => (nmD_isMap A k).put _ _
theorem nmD_at (A : Nat → Ac) (s : ByteArray) : ∀ k, (nmD A k).atKey (.string s.data.toList) (.lit (.bool false)) = .lit (.bool (seen A s k))
  | 0 => rfl
  | k + 1 => by
    by_cases e : (A k).nm.data.toList = s.data.toList
    · rw [nmD, seen, decide_eq_true e, Bool.or_true, nmL, e, Go.Maps.atKey_put_same (nmD_isMap A k) (by trivial)]
    · rw [nmD, seen, decide_eq_false e, Bool.or_false, Go.Maps.atKey_put_other (k := nmL (A k)) (fun h => e (Lit.string.inj h).symm), nmD_at A s k]
end Go.Proofs.Ytpeogfcfiabcfaa
