/-
  Lists of ice and of days, and parts of them; the kit's SameIce where two lists are equal; Wrap.
-/
import Derived.Test.YtoobgjigfmnnaaaBd
import Derived.Test.YtoobgjigfmnnaaaTail
import Derived.Test.YtoobgjigfmnnaaaRef1
set_option linter.unusedVariables false
set_option linter.unusedSimpArgs false
namespace Go.Proofs.Ytoobgjigfmnnaaa
open Go.RowKit

/-- In world w the value v is a list of n of ice x. -/
def IceL (w : World) (v : Value) (n : Nat) (x : Nat → Ic) : Prop :=
  ∃ a cap, v = .slice a n cap ∧ n ≤ cap ∧ cap ≤ 9223372036854775807 ∧ (0 < n → ∃ b o, a = some ⟨b, o, none⟩ ∧ IcesAt w b o n x)
theorem IceL.later {w w' : World} {v : Value} {n : Nat} {x : Nat → Ic} (h : IceL w v n x) (hb : Below w.heap.size w w') : IceL w' v n x := by
  obtain ⟨a, cap, hv, h1, h2, h3⟩ := h
  refine ⟨a, cap, hv, h1, h2, fun h0 => ?_⟩
  obtain ⟨b, o, ha, hc⟩ := h3 h0
  exact ⟨b, o, ha, hc.call hb⟩
theorem iceL_of_row {W : World} {base : Nat} {v : Value} {m : Nat} {x : Nat → Ic} (h : W.ownsRow base 28 8 v m (rowsC x m)) : IceL W v m (fun i => x (i + 1)) := by
  by_cases h0 : 0 < m
  · obtain ⟨g, cap, hv, hg, hc⟩ := ices_of_row h h0
    obtain ⟨_, h2⟩ := h
    rcases h2 with ⟨_, h2⟩ | ⟨g', cap', cur, hv', _, _, hn, hm, _, _⟩
    · omega
    · rw [hv] at hv'
      simp only [Value.slice.injEq] at hv'
      unfold maxLen at hm
      exact ⟨_, cap, hv, by omega, by omega, fun _ => ⟨g, 0, rfl, hc⟩⟩
  · obtain ⟨_, h2⟩ := h
    rcases h2 with ⟨hv, h2⟩ | ⟨g', cap', cur, hv', _, _, hn, hm, _, _⟩
    · exact ⟨none, 0, by rw [hv, h2], by omega, by omega, fun h => absurd h h0⟩
    · unfold maxLen at hm
      exact ⟨_, cap', hv', hn, by omega, fun h => absurd h h0⟩
theorem addr_add (b o k : Nat) : (⟨b, o, none⟩ : Addr).add k = ⟨b, o + k, none⟩ := by unfold Addr.add; split <;> simp_all
theorem sliced_at (a : Option Addr) (b o l k cap s : Nat) (ha : a = some ⟨b, o, none⟩) (h : l < cap) : sliced a l k cap s = .slice (some ⟨b, o + l * s, none⟩) (k - l) (cap - l) := by
  unfold sliced
  rw [if_neg (by omega), ha, Option.map_some, addr_add]
theorem IceL.sl {w : World} {a : Option Addr} {n cap : Nat} {x : Nat → Ic} (h : IceL w (.slice a n cap) n x) (l k : Nat) (hl : l ≤ k) (hk : k ≤ n) : IceL w (sliced a l k cap 8) (k - l) (fun i => x (l + i)) := by
  obtain ⟨a', cap', hv, h1, h2, h3⟩ := h
  simp only [Value.slice.injEq] at hv
  obtain ⟨rfl, _, rfl⟩ := hv
  by_cases h0 : 0 < k - l
  · obtain ⟨b, o, ha, hc⟩ := h3 (by omega)
    refine ⟨_, _, sliced_at a b o l k cap 8 ha (by omega), by omega, by omega, fun _ => ⟨b, _, rfl, fun i hi => ?_⟩⟩
    have q := hc (l + i) (by omega)
    rw [show o + (l + i) * 8 = o + l * 8 + i * 8 by omega] at q
    exact q
  · exact ⟨_, _, rfl, by omega, by omega, fun h => absurd h h0⟩
theorem DaysAt.sl {w : World} {a : Option Addr} {n cap : Nat} {d : Nat → Dy} (h : DaysAt w (.slice a n cap) n d) (l k : Nat) (hl : l ≤ k) (hk : k ≤ n) : DaysAt w (sliced a l k cap 6) (k - l) (fun i => d (l + i)) := by
  obtain ⟨a', cap', hv, h1, h2, h3⟩ := h
  simp only [Value.slice.injEq] at hv
  obtain ⟨rfl, _, rfl⟩ := hv
  by_cases h0 : 0 < k - l
  · obtain ⟨b, o, ha, hc⟩ := h3 (by omega)
    refine ⟨_, _, sliced_at a b o l k cap 6 ha (by omega), by omega, by omega, fun _ => ⟨b, _, rfl, fun i hi => ?_⟩⟩
    have q := hc (l + i) (by omega)
    rw [show o + (l + i) * 6 = o + l * 6 + i * 6 by omega] at q
    exact q
  · exact ⟨_, _, rfl, by omega, by omega, fun h => absurd h h0⟩

theorem covC_len (D P0 P1 : Nat → Int) : ∀ m, (covC D P0 P1 m).length = m * 3
  | 0 => rfl
  | k + 1 => by simp [covC, covC_len D P0 P1 k]; omega
theorem covC_at (D P0 P1 : Nat → Int) (m i j : Nat) (h : i < m) (hj : j < 3) : (covC D P0 P1 m)[i * 3 + j]? = [Value.int .i64 (D i), .int .i64 (P0 i), .int .i64 (P1 i)][j]? := by
  induction m with
  | zero => omega
  | succ k ih =>
    unfold covC
    by_cases hik : i < k
    · rw [List.getElem?_append_left (by rw [covC_len]; omega)]
      exact ih hik
    · have : i = k := by omega
      subst this
      rw [List.getElem?_append_right (by rw [covC_len]; omega), covC_len]
      congr 1
      omega
theorem daysC_len (d : Nat → Dy) : ∀ m, (daysC d m).length = m * 6
  | 0 => rfl
  | k + 1 => by simp [daysC, daysC_len d k, dayC]; omega
theorem daysC_at (d : Nat → Dy) (m i j : Nat) (h : i < m) (hj : j < 6) : (daysC d m)[i * 6 + j]? = (dayC (d i))[j]? := by
  induction m with
  | zero => omega
  | succ k ih =>
    unfold daysC
    by_cases hik : i < k
    · rw [List.getElem?_append_left (by rw [daysC_len]; omega)]
      exact ih hik
    · have : i = k := by omega
      subst this
      rw [List.getElem?_append_right (by rw [daysC_len]; omega), daysC_len]
      congr 1
      omega
theorem row_at {W : World} {base s : Nat} {e : TypeId} {v : Value} {m : Nat} {xs : List Value} (h : W.ownsRow base e s v m xs) (hs : 0 < s) :
    ∃ a cap, v = .slice a m cap ∧ m ≤ cap ∧ cap ≤ 9223372036854775807 ∧ (0 < m → ∃ b, a = some ⟨b, 0, none⟩ ∧ ∀ i j, i < m → j < s → W.cell? ⟨b, 0 + i * s + j, none⟩ = xs[i * s + j]?) := by
  obtain ⟨_, h2⟩ := h
  rcases h2 with ⟨hv, h2⟩ | ⟨g, cap, cur, hv, hg, hc, hn, hm, hz, ht⟩
  · exact ⟨none, 0, by rw [hv, h2], by omega, by omega, fun h => by omega⟩
  · unfold maxLen at hm
    refine ⟨_, cap, hv, hn, by omega, fun _ => ⟨g, rfl, fun i j hi hj => ?_⟩⟩
    have hij : i * s + j < m * s := by
      have : (i + 1) * s ≤ m * s := Nat.mul_le_mul (by omega) (Nat.le_refl s)
      rw [Nat.add_mul] at this
      omega
    have e1 : cur[i * s + j]? = xs[i * s + j]? := by
      rw [← ht, List.getElem?_take_of_lt hij]
      simp
    rw [← e1, Nat.zero_add]
    have h' : W.heap[g]? = some (.cells cur e (0, 0)) := hc
    simp [World.cell?, h']
theorem covAt_of_row {W : World} {base : Nat} {v : Value} {m : Nat} {D P0 P1 : Nat → Int} (h : W.ownsRow base 96 3 v m (covC D P0 P1 m)) : CovAt W v m D P0 P1 := by
  obtain ⟨a, cap, hv, h1, h2, h3⟩ := row_at h (by decide)
  refine ⟨a, cap, hv, h1, h2, fun h0 => ?_⟩
  obtain ⟨b, ha, hc⟩ := h3 h0
  exact ⟨b, 0, ha, fun i hi => ⟨(hc i 0 hi (by decide)).trans (covC_at D P0 P1 m i 0 hi (by decide)), (hc i 1 hi (by decide)).trans (covC_at D P0 P1 m i 1 hi (by decide)), (hc i 2 hi (by decide)).trans (covC_at D P0 P1 m i 2 hi (by decide))⟩⟩
theorem daysAt_of_row {W : World} {base : Nat} {v : Value} {m : Nat} {d : Nat → Dy} (h : W.ownsRow base 30 6 v m (daysC d m)) : DaysAt W v m d := by
  obtain ⟨a, cap, hv, h1, h2, h3⟩ := row_at h (by decide)
  refine ⟨a, cap, hv, h1, h2, fun h0 => ?_⟩
  obtain ⟨b, ha, hc⟩ := h3 h0
  exact ⟨b, 0, ha, fun i hi => ⟨(hc i 0 hi (by decide)).trans (daysC_at d m i 0 hi (by decide)), (hc i 1 hi (by decide)).trans (daysC_at d m i 1 hi (by decide)), (hc i 2 hi (by decide)).trans (daysC_at d m i 2 hi (by decide)),
    (hc i 3 hi (by decide)).trans (daysC_at d m i 3 hi (by decide)), (hc i 4 hi (by decide)).trans (daysC_at d m i 4 hi (by decide)), (hc i 5 hi (by decide)).trans (daysC_at d m i 5 hi (by decide))⟩⟩

theorem slice_day (a : Option Addr) (n cap k : Nat) (hk : k ≤ cap) (w : World) : (Instr.slice 38 (.slice a n cap) none (some (.int .i64 (k : Int))) none).run Try.prog w = .ok (sliced a 0 k cap 6) w := by
  have e : (sizeOf (Try.prog.elem 38)).run Try.prog w = .ok 6 w := by kernel_rfl
  rw [run_slice_h w 38 a n cap (by kernel_rfl) .i64 (k : Int) (by omega) (by omega), e]
  rfl
theorem slice_day2 (a : Option Addr) (n cap k : Nat) (hk : k ≤ n) (w : World) : (Instr.slice 38 (.slice a n cap) (some (.int .i64 (k : Int))) none none).run Try.prog w = .ok (sliced a k n cap 6) w := by
  have e : (sizeOf (Try.prog.elem 38)).run Try.prog w = .ok 6 w := by kernel_rfl
  rw [run_slice_l w 38 a n cap (by kernel_rfl) .i64 (k : Int) (by omega) (by omega), e]
  rfl
theorem slice_ice (a : Option Addr) (n cap k : Nat) (hk : k ≤ cap) (w : World) : (Instr.slice 41 (.slice a n cap) none (some (.int .i64 (k : Int))) none).run Try.prog w = .ok (sliced a 0 k cap 8) w := by
  have e : (sizeOf (Try.prog.elem 41)).run Try.prog w = .ok 8 w := by kernel_rfl
  rw [run_slice_h w 41 a n cap (by kernel_rfl) .i64 (k : Int) (by omega) (by omega), e]
  rfl
theorem slice_ice2 (a : Option Addr) (n cap k : Nat) (hk : k ≤ n) (w : World) : (Instr.slice 41 (.slice a n cap) (some (.int .i64 (k : Int))) none none).run Try.prog w = .ok (sliced a k n cap 8) w := by
  have e : (sizeOf (Try.prog.elem 41)).run Try.prog w = .ok 8 w := by kernel_rfl
  rw [run_slice_l w 41 a n cap (by kernel_rfl) .i64 (k : Int) (by omega) (by omega), e]
  rfl

theorem wrap_in (x : Int) (n : Nat) (w : World) (hn : 1 ≤ n) (hn2 : n ≤ 1000) :
    Calls Try.prog 57 #[.int .i64 x, .int .i64 n] w fun e w' => ∃ k : Nat, e = .returned (.int .i64 k) ∧ k < n ∧ w = w' := by
  by_cases h : n < 2
  · go_enter Try.func57, Try.ntmps57
    go_wp2
    go_ret
    exact ⟨0, rfl, by omega, rfl⟩
  · have hz : ((n : Int) == 0) = false := by simp; omega
    have t1 : x.tmod n < n := Int.tmod_lt_of_pos x (by omega)
    have t2 : -(n : Int) < x.tmod n := Int.lt_tmod_of_pos x (by omega)
    have u1 : 0 ≤ (x.tmod n + n) % n := Int.emod_nonneg _ (by omega)
    have u2 : (x.tmod n + n) % n < n := Int.emod_lt_of_pos _ (by omega)
    have U := Lib.hid (And.intro u1 u2)
    clear u1 u2
    have e1 : IntKind.i64.wrap (x.tmod n) = x.tmod n := IntWalk.i64_in _ (by omega)
    have e2 : IntKind.i64.wrap (x.tmod n + n) = x.tmod n + n := IntWalk.i64_in _ (by omega)
    go_enter Try.func57, Try.ntmps57
    go_wp2
    go_ret
    obtain ⟨u1, u2⟩ := U.out
    refine ⟨((x.tmod n + n) % n).toNat, ?_, by omega, rfl⟩
    exact ret_int (by omega)

set_option maxRecDepth 100000 in
set_option maxHeartbeats 4000000 in
theorem same_some (n c1 c2 b1 o1 b2 o2 : Nat) (x : Nat → Ic) (w : World) (hn : n ≤ 1000000) (h1 : IcesAt w b1 o1 n x) (h2 : IcesAt w b2 o2 n x) :
    Calls Try.prog 32 #[.slice (some ⟨b1, o1, none⟩) n c1, .slice (some ⟨b2, o2, none⟩) n c2] w fun e w' => e = .returned (.bool true) ∧ Below w.heap.size w w' := by
  have H1 : Hid _ := h1
  have H2 : Hid _ := h2
  clear h1 h2
  go_enter Try.func32, Try.ntmps32
  go_wp2_with fail
  go_loopw [5] (fun i wr => ∃ k : Nat, k ≤ n ∧ i = .int .i64 k ∧ Below w.heap.size w wr) (fun i _ => n - (intOf i).toNat)
  case atStart => exact ⟨0, Nat.zero_le _, rfl, Below.refl _ _⟩
  case round =>
    obtain ⟨k, hk, rfl, hB⟩ := hrel
    by_cases hlt : k < n
    · go_upto_region 6 with fail
      refine region_still (by kernel_rfl) (by kernel_rfl) (fun U hU => ?_)
      have hB2 := hB.drew
      rw [hU] at hB2
      clear hU hB
      obtain ⟨a0, a1, a2, a3, a4, a5, a6, a7⟩ := H1.out k hlt
      obtain ⟨d0, d1, d2, d3, d4, d5, d6, d7⟩ := H2.out k hlt
      replace a0 := cell_later hB2 a0
      replace a1 := cell_later hB2 a1
      replace a2 := cell_later hB2 a2
      replace a3 := cell_later hB2 a3
      replace a4 := cell_later hB2 a4
      replace a5 := cell_later hB2 a5
      replace a6 := cell_later hB2 a6
      replace a7 := cell_later hB2 a7
      replace d0 := cell_later hB2 d0
      replace d1 := cell_later hB2 d1
      replace d2 := cell_later hB2 d2
      replace d3 := cell_later hB2 d3
      replace d4 := cell_later hB2 d4
      replace d5 := cell_later hB2 d5
      replace d6 := cell_later hB2 d6
      replace d7 := cell_later hB2 d7
      have z1 := World.block_lt_of_cell? _ _ a0
      have z2 := World.block_lt_of_cell? _ _ d0
      repeat still_step
      refine wpStill_nil ?_
      clear a0 a1 a2 a3 a4 a5 a6 a7 d0 d1 d2 d3 d4 d5 d6 d7 z1 z2
      go_wp2
      go_roundw
      case rel => exact ⟨k + 1, by omega, by go_num, hB2⟩
      case measure => simp [intOf]; omega
    · go_wp2
      go_ret
      exact ⟨rfl, hB⟩
theorem same_none (a1 a2 : Option Addr) (c1 c2 : Nat) (w : World) :
    Calls Try.prog 32 #[.slice a1 0 c1, .slice a2 0 c2] w fun e w' => e = .returned (.bool true) ∧ Below w.heap.size w w' := by
  go_enter Try.func32, Try.ntmps32
  go_wp2_with fail
  go_loopw [5] (fun i wr => i = .int .i64 0 ∧ Below w.heap.size w wr) (fun _ _ => 0)
  case atStart => exact ⟨rfl, Below.refl _ _⟩
  case round =>
    obtain ⟨rfl, hB⟩ := hrel
    go_wp2
    go_ret
    exact ⟨rfl, hB⟩
theorem same_yes (v1 v2 : Value) (n : Nat) (x : Nat → Ic) (w : World) (hn : n ≤ 1000000) (h1 : IceL w v1 n x) (h2 : IceL w v2 n x) :
    Calls Try.prog 32 #[v1, v2] w fun e w' => e = .returned (.bool true) ∧ Below w.heap.size w w' := by
  obtain ⟨a1, c1, rfl, _, _, h1⟩ := h1
  obtain ⟨a2, c2, rfl, _, _, h2⟩ := h2
  by_cases h0 : 0 < n
  · obtain ⟨b1, o1, e1, k1⟩ := h1 h0
    obtain ⟨b2, o2, e2, k2⟩ := h2 h0
    subst e1
    subst e2
    exact same_some n c1 c2 b1 o1 b2 o2 x w hn k1 k2
  · obtain rfl : n = 0 := by omega
    exact same_none a1 a2 c1 c2 w
theorem Ic.val_of_e {x : Ic} (h : x.e = 0) : x.Val := by
  have z : ∀ {a b : Int}, orE a b = 0 → a = 0 ∧ b = 0 := by
    intro a b h
    unfold orE at h
    split at h
    · rename_i e
      exact ⟨e, h⟩
    · exact ⟨h, absurd h (by assumption)⟩
  have n : ∀ {a b lo hi : Int}, eS a b lo hi = 0 → lo ≤ a ∧ a ≤ b ∧ b ≤ hi := by
    intro a b lo hi h
    unfold eS eR at h
    obtain ⟨h1, h2⟩ := z h
    obtain ⟨h3, h4⟩ := z h1
    unfold eN at h3 h4
    unfold eO at h2
    split at h3
    · omega
    · split at h4
      · omega
      · split at h2
        · rename_i q
          simp at q
          omega
        · omega
  unfold Ic.e eIce at h
  simp only [firstNZ] at h
  obtain ⟨h1, h⟩ := z h
  obtain ⟨h2, h⟩ := z h
  obtain ⟨h3, h⟩ := z h
  obtain ⟨h4, h⟩ := z h
  exact ⟨n h1, n h2, n h3, n h4⟩
end Go.Proofs.Ytoobgjigfmnnaaa
