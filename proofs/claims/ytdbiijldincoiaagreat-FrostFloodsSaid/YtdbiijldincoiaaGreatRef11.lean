/-
  Step of the program and of the reference, at any input: the same value.
  Lists of ice and of days, and parts of them; the kit's SameIce where two lists are equal; Wrap.
  Step of the program and of the reference, at any law, ice and day: one value.
-/
import Derived.Test.YtdbiijldincoiaaGreatRef9
import Derived.Test.YtdbiijldincoiaaGreatAwake
import Derived.Test.YtdbiijldincoiaaGreatBd
import Derived.Test.YtdbiijldincoiaaGreatTail
import Derived.Test.YtdbiijldincoiaaGreatRef1
set_option linter.unusedVariables false
set_option linter.unusedSimpArgs false
namespace Go.Proofs.YtdbiijldincoiaaGreat
open Go.RowKit

theorem orE_zeros {a b : Int} (h : orE a b = 0) : a = 0 ∧ b = 0 := by
  by_cases e : a = 0
  · exact ⟨e, by rw [orE_right e] at h; exact h⟩
  · rw [orE_left e] at h
    exact absurd h e
theorem eN_zero_in {n lo hi : Int} (h : eN n lo hi = 0) : lo ≤ n ∧ n ≤ hi := by
  unfold eN at h
  split at h
  · omega
  · omega
theorem firstNZ_all (x : Nat → Int) : ∀ m i, firstNZ x i m = 0 → ∀ j, i ≤ j → j < i + m → x j = 0
  | 0, _, _, j, h1, h2 => by omega
  | m + 1, i, h, j, h1, h2 => by
    obtain ⟨a, b⟩ := orE_zeros (show orE (x i) (firstNZ x (i + 1) m) = 0 from h)
    by_cases e : j = i
    · rw [e]; exact a
    · exact firstNZ_all x m (i + 1) b j (by omega) (by omega)
theorem law_ok_of {gr la : Int} {n : Nat} {D P0 P1 : Nat → Int} {m0 m1 so h0 h1 : Int} (h : eLaw gr la n D P0 P1 m0 m1 so h0 h1 = 0) : Lw.Ok ⟨gr, la, n, D, P0, P1, m0, m1, so, h0, h1⟩ ∧ n ≤ 12 := by
  obtain ⟨a1, h⟩ := orE_zeros h
  obtain ⟨a2, h⟩ := orE_zeros h
  obtain ⟨a3, h⟩ := orE_zeros h
  obtain ⟨a4, h⟩ := orE_zeros h
  obtain ⟨a5, a6⟩ := orE_zeros h
  have b1 := eN_zero_in a1
  have b2 := eN_zero_in a2
  have b4 := eS_zero_in a4
  have b5 := eN_zero_in a5
  have b6 := eS_zero_in a6
  have hn : 1 ≤ n ∧ n ≤ 12 ∧ firstNZ (covErr D P0 P1) 0 n = 0 := by
    unfold eCs at a3
    split at a3
    · omega
    · split at a3
      · omega
      · exact ⟨by omega, by omega, a3⟩
  have hp : ∀ i, i < n → 0 ≤ P0 i ∧ P1 i ≤ 1000000 ∧ P0 i ≤ P1 i := fun i hi => by
    have q := firstNZ_all _ n 0 hn.2.2 i (by omega) (by omega)
    unfold covErr at q
    split at q
    · rename_i e
      subst e
      unfold eC at q
      exact eS_zero_in (orE_zeros (orE_zeros (orE_zeros q).2).2).1
    · unfold eC at q
      exact eS_zero_in (orE_zeros (orE_zeros (orE_zeros q).2).2).1
  exact ⟨⟨b1.1, b1.2, b2.1, b2.2, hn.1, fun i hi => by have := hp i hi; simp only; omega, fun i hi => by have := hp i hi; simp only; omega, b4.1, b4.2.2, b4.2.1, b5.1, b5.2, b6.1, b6.2.2, b6.2.1⟩, hn.2.1⟩
theorem day_ok_of {d : Dy} (h : dayErr d = 0) : d.Ok := by
  obtain ⟨a1, h⟩ := orE_zeros h
  obtain ⟨a2, a3⟩ := orE_zeros h
  have b1 := eS_zero_in a1
  have b2 := eS_zero_in a2
  have b3 := eN_zero_in a3
  exact ⟨b1.1, b1.2.2, b1.2.1, b2.1, b2.2.2, b2.2.1, b3.1, b3.2⟩
end Go.Proofs.YtdbiijldincoiaaGreat

namespace Go.Proofs.YtdbiijldincoiaaGreat
open Go.RowKit

def IceL (w : World) (v : Value) (n : Nat) (x : Nat → Ic) : Prop :=
  ∃ a cap, v = .slice a n cap ∧ n ≤ cap ∧ cap ≤ 9223372036854775807 ∧ (0 < n → ∃ b o, a = some ⟨b, o, none⟩ ∧ IcesAt w b o n x)
theorem IceL.later {w w' : World} {v : Value} {n : Nat} {x : Nat → Ic} (h : IceL w v n x) (hb : Below w.heap.size w w') : IceL w' v n x := by
  obtain ⟨a, cap, hv, h1, h2, h3⟩ := h
  refine ⟨a, cap, hv, h1, h2, fun h0 => ?_⟩
  obtain ⟨b, o, ha, hc⟩ := h3 h0
  exact ⟨b, o, ha, hc.call hb⟩
theorem iceL_of_row {W : World} {base : Nat} {v : Value} {m : Nat} {x : Nat → Ic} (h : W.ownsRow base 28 8 v m (rowsC x m)) : IceL W v m (fun i => x (i + 1)) := by
  by_cases h0 : 0 < m
  · obtain ⟨g, cap, hv, hg, hc⟩ := ices_of_row h h0
    obtain ⟨_, h2⟩ := h
    rcases h2 with ⟨_, h2⟩ | ⟨g', cap', cur, hv', _, _, hn, hm, _, _⟩
    · omega
    · rw [hv] at hv'
      simp only [Value.slice.injEq] at hv'
      unfold maxLen at hm
      exact ⟨_, cap, hv, by omega, by omega, fun _ => ⟨g, 0, rfl, hc⟩⟩
  · obtain ⟨_, h2⟩ := h
    rcases h2 with ⟨hv, h2⟩ | ⟨g', cap', cur, hv', _, _, hn, hm, _, _⟩
    · exact ⟨none, 0, by rw [hv, h2], by omega, by omega, fun h => absurd h h0⟩
    · unfold maxLen at hm
      exact ⟨_, cap', hv', hn, by omega, fun h => absurd h h0⟩
theorem addr_add (b o k : Nat) : (⟨b, o, none⟩ : Addr).add k = ⟨b, o + k, none⟩ := by unfold Addr.add; split <;> simp_all
theorem sliced_at (a : Option Addr) (b o l k cap s : Nat) (ha : a = some ⟨b, o, none⟩) (h : l < cap) : sliced a l k cap s = .slice (some ⟨b, o + l * s, none⟩) (k - l) (cap - l) := by
  unfold sliced
  rw [if_neg (by omega), ha, Option.map_some, addr_add]
theorem IceL.sl {w : World} {a : Option Addr} {n cap : Nat} {x : Nat → Ic} (h : IceL w (.slice a n cap) n x) (l k : Nat) (hl : l ≤ k) (hk : k ≤ n) : IceL w (sliced a l k cap 8) (k - l) (fun i => x (l + i)) := by
  obtain ⟨a', cap', hv, h1, h2, h3⟩ := h
  simp only [Value.slice.injEq] at hv
  obtain ⟨rfl, _, rfl⟩ := hv
  by_cases h0 : 0 < k - l
  · obtain ⟨b, o, ha, hc⟩ := h3 (by omega)
    refine ⟨_, _, sliced_at a b o l k cap 8 ha (by omega), by omega, by omega, fun _ => ⟨b, _, rfl, fun i hi => ?_⟩⟩
    have q := hc (l + i) (by omega)
    rw [show o + (l + i) * 8 = o + l * 8 + i * 8 by omega] at q
    exact q
  · exact ⟨_, _, rfl, by omega, by omega, fun h => absurd h h0⟩
theorem DaysAt.sl {w : World} {a : Option Addr} {n cap : Nat} {d : Nat → Dy} (h : DaysAt w (.slice a n cap) n d) (l k : Nat) (hl : l ≤ k) (hk : k ≤ n) : DaysAt w (sliced a l k cap 6) (k - l) (fun i => d (l + i)) := by
  obtain ⟨a', cap', hv, h1, h2, h3⟩ := h
  simp only [Value.slice.injEq] at hv
  obtain ⟨rfl, _, rfl⟩ := hv
  by_cases h0 : 0 < k - l
  · obtain ⟨b, o, ha, hc⟩ := h3 (by omega)
    refine ⟨_, _, sliced_at a b o l k cap 6 ha (by omega), by omega, by omega, fun _ => ⟨b, _, rfl, fun i hi => ?_⟩⟩
    have q := hc (l + i) (by omega)
    rw [show o + (l + i) * 6 = o + l * 6 + i * 6 by omega] at q
    exact q
  · exact ⟨_, _, rfl, by omega, by omega, fun h => absurd h h0⟩

theorem covC_len (D P0 P1 : Nat → Int) : ∀ m, (covC D P0 P1 m).length = m * 3
  | 0 => rfl
  | k + 1 => by simp [covC, covC_len D P0 P1 k]; omega
theorem covC_at (D P0 P1 : Nat → Int) (m i j : Nat) (h : i < m) (hj : j < 3) : (covC D P0 P1 m)[i * 3 + j]? = [Value.int .i64 (D i), .int .i64 (P0 i), .int .i64 (P1 i)][j]? := by
  induction m with
  | zero => omega
  | succ k ih =>
    unfold covC
    by_cases hik : i < k
    · rw [List.getElem?_append_left (by rw [covC_len]; omega)]
      exact ih hik
    · have : i = k := by omega
      subst this
      rw [List.getElem?_append_right (by rw [covC_len]; omega), covC_len]
      congr 1
      omega
theorem daysC_len (d : Nat → Dy) : ∀ m, (daysC d m).length = m * 6
  | 0 => rfl
  | k + 1 => by simp [daysC, daysC_len d k, dayC]; omega
theorem daysC_at (d : Nat → Dy) (m i j : Nat) (h : i < m) (hj : j < 6) : (daysC d m)[i * 6 + j]? = (dayC (d i))[j]? := by
  induction m with
  | zero => omega
  | succ k ih =>
    unfold daysC
    by_cases hik : i < k
    · rw [List.getElem?_append_left (by rw [daysC_len]; omega)]
      exact ih hik
    · have : i = k := by omega
      subst this
      rw [List.getElem?_append_right (by rw [daysC_len]; omega), daysC_len]
      congr 1
      omega
theorem row_at {W : World} {base s : Nat} {e : TypeId} {v : Value} {m : Nat} {xs : List Value} (h : W.ownsRow base e s v m xs) (hs : 0 < s) :
    ∃ a cap, v = .slice a m cap ∧ m ≤ cap ∧ cap ≤ 9223372036854775807 ∧ (0 < m → ∃ b, a = some ⟨b, 0, none⟩ ∧ ∀ i j, i < m → j < s → W.cell? ⟨b, 0 + i * s + j, none⟩ = xs[i * s + j]?) := by
  obtain ⟨_, h2⟩ := h
  rcases h2 with ⟨hv, h2⟩ | ⟨g, cap, cur, hv, hg, hc, hn, hm, hz, ht⟩
  · exact ⟨none, 0, by rw [hv, h2], by omega, by omega, fun h => by omega⟩
  · unfold maxLen at hm
    refine ⟨_, cap, hv, hn, by omega, fun _ => ⟨g, rfl, fun i j hi hj => ?_⟩⟩
    have hij : i * s + j < m * s := by
      have : (i + 1) * s ≤ m * s := Nat.mul_le_mul (by omega) (Nat.le_refl s)
      rw [Nat.add_mul] at this
      omega
    have e1 : cur[i * s + j]? = xs[i * s + j]? := by
      rw [← ht, List.getElem?_take_of_lt hij]
      simp
    rw [← e1, Nat.zero_add]
    have h' : W.heap[g]? = some (.cells cur e (0, 0)) := hc
    simp [World.cell?, h']
theorem covAt_of_row {W : World} {base : Nat} {v : Value} {m : Nat} {D P0 P1 : Nat → Int} (h : W.ownsRow base 74 3 v m (covC D P0 P1 m)) : CovAt W v m D P0 P1 := by
  obtain ⟨a, cap, hv, h1, h2, h3⟩ := row_at h (by decide)
  refine ⟨a, cap, hv, h1, h2, fun h0 => ?_⟩
  obtain ⟨b, ha, hc⟩ := h3 h0
  exact ⟨b, 0, ha, fun i hi => ⟨(hc i 0 hi (by decide)).trans (covC_at D P0 P1 m i 0 hi (by decide)), (hc i 1 hi (by decide)).trans (covC_at D P0 P1 m i 1 hi (by decide)), (hc i 2 hi (by decide)).trans (covC_at D P0 P1 m i 2 hi (by decide))⟩⟩
theorem daysAt_of_row {W : World} {base : Nat} {v : Value} {m : Nat} {d : Nat → Dy} (h : W.ownsRow base 58 6 v m (daysC d m)) : DaysAt W v m d := by
  obtain ⟨a, cap, hv, h1, h2, h3⟩ := row_at h (by decide)
  refine ⟨a, cap, hv, h1, h2, fun h0 => ?_⟩
  obtain ⟨b, ha, hc⟩ := h3 h0
  exact ⟨b, 0, ha, fun i hi => ⟨(hc i 0 hi (by decide)).trans (daysC_at d m i 0 hi (by decide)), (hc i 1 hi (by decide)).trans (daysC_at d m i 1 hi (by decide)), (hc i 2 hi (by decide)).trans (daysC_at d m i 2 hi (by decide)),
    (hc i 3 hi (by decide)).trans (daysC_at d m i 3 hi (by decide)), (hc i 4 hi (by decide)).trans (daysC_at d m i 4 hi (by decide)), (hc i 5 hi (by decide)).trans (daysC_at d m i 5 hi (by decide))⟩⟩

theorem slice_day (a : Option Addr) (n cap k : Nat) (hk : k ≤ cap) (w : World) : (Instr.slice 29 (.slice a n cap) none (some (.int .i64 (k : Int))) none).run Tryz.prog w = .ok (sliced a 0 k cap 6) w := by
  have e : (sizeOf (Tryz.prog.elem 29)).run Tryz.prog w = .ok 6 w := by kernel_rfl
  rw [run_slice_h w 29 a n cap (by kernel_rfl) .i64 (k : Int) (by omega) (by omega), e]
  rfl
theorem slice_day2 (a : Option Addr) (n cap k : Nat) (hk : k ≤ n) (w : World) : (Instr.slice 29 (.slice a n cap) (some (.int .i64 (k : Int))) none none).run Tryz.prog w = .ok (sliced a k n cap 6) w := by
  have e : (sizeOf (Tryz.prog.elem 29)).run Tryz.prog w = .ok 6 w := by kernel_rfl
  rw [run_slice_l w 29 a n cap (by kernel_rfl) .i64 (k : Int) (by omega) (by omega), e]
  rfl
theorem Ic.val_of_e {x : Ic} (h : x.e = 0) : x.Val := by
  have z : ∀ {a b : Int}, orE a b = 0 → a = 0 ∧ b = 0 := by
    intro a b h
    unfold orE at h
    split at h
    · rename_i e
      exact ⟨e, h⟩
    · exact ⟨h, absurd h (by assumption)⟩
  have n : ∀ {a b lo hi : Int}, eS a b lo hi = 0 → lo ≤ a ∧ a ≤ b ∧ b ≤ hi := by
    intro a b lo hi h
    unfold eS eR at h
    obtain ⟨h1, h2⟩ := z h
    obtain ⟨h3, h4⟩ := z h1
    unfold eN at h3 h4
    unfold eO at h2
    split at h3
    · omega
    · split at h4
      · omega
      · split at h2
        · rename_i q
          simp at q
          omega
        · omega
  unfold Ic.e eIce at h
  simp only [firstNZ] at h
  obtain ⟨h1, h⟩ := z h
  obtain ⟨h2, h⟩ := z h
  obtain ⟨h3, h⟩ := z h
  obtain ⟨h4, h⟩ := z h
  exact ⟨n h1, n h2, n h3, n h4⟩
end Go.Proofs.YtdbiijldincoiaaGreat

namespace Go.Proofs.YtdbiijldincoiaaGreat
open Go.RowKit

theorem Ic.Val.in {x : Ic} (h : x.Val) : x.In 400000000 := by
  obtain ⟨h1, h2, h3, h4⟩ := h
  constructor <;> omega
end Go.Proofs.YtdbiijldincoiaaGreat
