/-
  Lists of loads made by make and by stores of whole loads; equal numbers in two lists.
-/
import Derived.Test.YtfakmggabicdjaaNarV
import Derived.Laws.MakeOwn
set_option linter.unusedVariables false
set_option linter.unusedSimpArgs false
namespace Go.Proofs.Ytfakmggabicdjaa
open Go.RowKit

theorem made_loads (n : Nat) : (madeCells (Value.agg #[.int .i64 0, .int .i64 0, .int .i64 0, .int .i64 0]).cells (n * 4)).toList = catC (loadC fun _ => ⟨0, 0, 0, 0⟩) n := by
  apply List.ext_getElem?
  intro j
  by_cases hj : j < n * 4
  · have h1 : j / 4 < n := by omega
    have h3 : j = j / 4 * 4 + j % 4 := by omega
    have q := catC_at (loadC fun _ => ⟨0, 0, 0, 0⟩) 4 (fun _ => rfl) (j / 4) (j % 4) (by omega) n h1
    rw [← h3] at q
    rw [q]
    have h4 : j % 4 < 4 := by omega
    generalize hr : j % 4 = r at h4
    have e : (Value.agg #[.int .i64 0, .int .i64 0, .int .i64 0, .int .i64 0]).cells = #[Value.int .i64 0, .int .i64 0, .int .i64 0, .int .i64 0] := rfl
    rw [e]
    simp only [madeCells, Array.toList_map, Array.toList_range, List.getElem?_map, List.getElem?_range hj, Option.map_some, List.size_toArray, List.length_cons, List.length_nil, Nat.zero_add, Nat.reduceAdd, hr]
    match r, h4 with
    | 0, _ => rfl
    | 1, _ => rfl
    | 2, _ => rfl
    | 3, _ => rfl
  · rw [List.getElem?_eq_none (by simp [madeCells]; omega), List.getElem?_eq_none (by rw [catC_len (loadC fun _ => ⟨0, 0, 0, 0⟩) 4 (fun _ => rfl)]; omega)]
theorem row_putL {W : World} {base : Nat} {b n cap : Nat} {t : TypeId} {L : Nat → Ld} (h : W.ownsRow base t 4 (.slice (some ⟨b, 0, none⟩) n cap) n (catC (loadC L) n)) (k : Nat) (hk : k < n) (x : Ld) :
    ((((W.setCell ⟨b, k * 4, none⟩ (.int .i64 x.me)).setCell ⟨b, k * 4 + 1, none⟩ (.int .i64 x.w0)).setCell ⟨b, k * 4 + 2, none⟩ (.int .i64 x.w1)).setCell ⟨b, k * 4 + 3, none⟩ (.int .i64 x.st)).ownsRow base t 4 (.slice (some ⟨b, 0, none⟩) n cap) n (catC (loadC (upL L k x)) n) := by
  have h1 := row_at_set h (k * 4 + 0) (by omega) (.int .i64 x.me)
  rw [catC_set (loadC L) (loadC (upL L k ⟨x.me, (L k).w0, (L k).w1, (L k).st⟩)) 4 (fun _ => rfl) (fun _ => rfl) (by decide) k 0 (by decide) _ (fun i hi => by simp only [loadC, upL_ne _ _ _ _ hi]) (by simp only [loadC, upL_at]; rfl) n hk] at h1
  have h2 := row_at_set h1 (k * 4 + 1) (by omega) (.int .i64 x.w0)
  rw [catC_set (loadC (upL L k ⟨x.me, (L k).w0, (L k).w1, (L k).st⟩)) (loadC (upL L k ⟨x.me, x.w0, (L k).w1, (L k).st⟩)) 4 (fun _ => rfl) (fun _ => rfl) (by decide) k 1 (by decide) _ (fun i hi => by simp only [loadC, upL_ne _ _ _ _ hi]) (by simp only [loadC, upL_at]; rfl) n hk] at h2
  have h3 := row_at_set h2 (k * 4 + 2) (by omega) (.int .i64 x.w1)
  rw [catC_set (loadC (upL L k ⟨x.me, x.w0, (L k).w1, (L k).st⟩)) (loadC (upL L k ⟨x.me, x.w0, x.w1, (L k).st⟩)) 4 (fun _ => rfl) (fun _ => rfl) (by decide) k 2 (by decide) _ (fun i hi => by simp only [loadC, upL_ne _ _ _ _ hi]) (by simp only [loadC, upL_at]; rfl) n hk] at h3
  have h4 := row_at_set h3 (k * 4 + 3) (by omega) (.int .i64 x.st)
  rw [catC_set (loadC (upL L k ⟨x.me, x.w0, x.w1, (L k).st⟩)) (loadC (upL L k x)) 4 (fun _ => rfl) (fun _ => rfl) (by decide) k 3 (by decide) _ (fun i hi => by simp only [loadC, upL_ne _ _ _ _ hi]) (by simp only [loadC, upL_at]; rfl) n hk] at h4
  exact h4
theorem IntsAt.congr {w : World} {v : Value} {n : Nat} {x y : Nat → Int} (h : IntsAt w v n x) (e : ∀ i, i < n → x i = y i) : IntsAt w v n y := by
  obtain ⟨a, cap, hv, h1, h2, h3⟩ := h
  refine ⟨a, cap, hv, h1, h2, fun h0 => ?_⟩
  obtain ⟨b, o, ha, hc⟩ := h3 h0
  exact ⟨b, o, ha, fun i hi => by rw [← e i hi]; exact hc i hi⟩
theorem IntsAt.take {w : World} {a : Option Addr} {cap n m : Nat} {x : Nat → Int} (h : IntsAt w (.slice a n cap) n x) (hm : m ≤ n) : IntsAt w (.slice a m cap) m x := by
  obtain ⟨a', cap', hv, h1, h2, h3⟩ := h
  simp only [Value.slice.injEq] at hv
  obtain ⟨rfl, _, rfl⟩ := hv
  exact ⟨_, _, rfl, by omega, h2, fun h0 => by
    obtain ⟨b, o, ha, hc⟩ := h3 (by omega)
    exact ⟨b, o, ha, fun i hi => hc i (by omega)⟩⟩
theorem slice_int (a : Option Addr) (n cap k : Nat) (hk : k ≤ cap) (w : World) : (Instr.slice 27 (.slice a n cap) none (some (.int .i64 (k : Int))) none).run Try.prog w = .ok (sliced a 0 k cap 1) w := by
  have e : (sizeOf (Try.prog.elem 27)).run Try.prog w = .ok 1 w := by kernel_rfl
  rw [run_slice_h w 27 a n cap (by kernel_rfl) .i64 (k : Int) (by omega) (by omega), e]
  rfl
theorem ints_head {w : World} {a : Option Addr} {n cap : Nat} {x : Nat → Int} (h : IntsAt w (.slice a n cap) n x) (k : Nat) (hk : k ≤ n) : ∃ aT cT, sliced a 0 k cap 1 = .slice aT k cT ∧ IntsAt w (.slice aT k cT) k x := by
  have q := h.take hk
  have e : sliced a 0 k cap 1 = .slice a k cap := by
    obtain ⟨a', cap', hv, h1, h2, h3⟩ := h
    simp only [Value.slice.injEq] at hv
    obtain ⟨rfl, _, rfl⟩ := hv
    unfold sliced
    simp only [Nat.zero_mul, Nat.sub_zero]
    by_cases hc : cap = 0
    · rw [if_pos hc]
    · rw [if_neg hc]
      cases a with
      | none => rfl
      | some ad =>
        simp only [Option.map_some, Addr.add]
        split <;> simp_all
  exact ⟨_, _, e, q⟩
theorem far_comm (a b : Int) : farV a b = farV b a := by simp only [farV]; omega
end Go.Proofs.Ytfakmggabicdjaa
