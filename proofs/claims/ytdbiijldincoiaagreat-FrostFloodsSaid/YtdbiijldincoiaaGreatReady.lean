/-
  The contract of frost.first at a list of ice.
  The contract of frost.Ready where all is valid.
-/
import Derived.Test.YtdbiijldincoiaaGreatTail
import Derived.Test.YtdbiijldincoiaaGreatRdy
set_option linter.unusedVariables false
set_option linter.unusedSimpArgs false
namespace Go.Proofs.YtdbiijldincoiaaGreat
open Go.RowKit

def firstI (g : Nat → Bool) : Nat → Nat → Int
  | _, 0 => 0
  | k, m + 1 => cond (g k) ((k : Int) + 1) (firstI g (k + 1) m)
theorem firstI_yes (g : Nat → Bool) (n k : Nat) (h : k < n) (hg : g k = true) : firstI g k (n - k) = (k : Int) + 1 := by
  obtain ⟨m, rfl⟩ : ∃ m, n = k + 1 + m := ⟨n - k - 1, by omega⟩
  rw [show k + 1 + m - k = m + 1 by omega]
  simp [firstI, hg]
theorem firstI_no (g : Nat → Bool) (n k : Nat) (h : k < n) (hg : g k = false) : firstI g k (n - k) = firstI g (k + 1) (n - (k + 1)) := by
  obtain ⟨m, rfl⟩ : ∃ m, n = k + 1 + m := ⟨n - k - 1, by omega⟩
  rw [show k + 1 + m - k = m + 1 by omega, show k + 1 + m - (k + 1) = m by omega]
  simp [firstI, hg]

def IcesAt (w : World) (b o n : Nat) (x : Nat → Ic) : Prop :=
  ∀ i, i < n → w.cell? ⟨b, o + i * 8, none⟩ = some (.int .i64 (x i).b0) ∧ w.cell? ⟨b, o + i * 8 + 1, none⟩ = some (.int .i64 (x i).b1) ∧ w.cell? ⟨b, o + i * 8 + 2, none⟩ = some (.int .i64 (x i).w0) ∧ w.cell? ⟨b, o + i * 8 + 3, none⟩ = some (.int .i64 (x i).w1) ∧
    w.cell? ⟨b, o + i * 8 + 4, none⟩ = some (.int .i64 (x i).q0) ∧ w.cell? ⟨b, o + i * 8 + 5, none⟩ = some (.int .i64 (x i).q1) ∧ w.cell? ⟨b, o + i * 8 + 6, none⟩ = some (.int .i64 (x i).s0) ∧ w.cell? ⟨b, o + i * 8 + 7, none⟩ = some (.int .i64 (x i).s1)

set_option maxRecDepth 100000 in
set_option maxHeartbeats 2000000 in
theorem first1_some (p1 p2 : Value) (b o n cap : Nat) (x : Nat → Ic) (g : Nat → Bool) (w : World) (hn : n ≤ 1000000) (hc : IcesAt w b o n x)
    (hg : ∀ i, i < n → ∀ W, Below w.heap.size w W → Calls Tryz.prog 50 #[.agg #[.int .i64 (x i).b0, .int .i64 (x i).b1, .int .i64 (x i).w0, .int .i64 (x i).w1, .int .i64 (x i).q0, .int .i64 (x i).q1, .int .i64 (x i).s0, .int .i64 (x i).s1], p1, p2] W fun e w' => e = .returned (.bool (g i)) ∧ Below W.heap.size W w') :
    Calls Tryz.prog 49 #[.slice (some ⟨b, o, none⟩) n cap, .func (.func 50) #[] #[p1, p2]] w fun e w' => e = .returned (.int .i64 (firstI g 0 n)) ∧ Below w.heap.size w w' := by
  have HC : Hid _ := hc
  have HG : Hid _ := hg
  clear hc hg
  go_enter Tryz.func49, Tryz.ntmps49
  go_wp2_with fail
  go_loopw [9] (fun i wr => ∃ k : Nat, k ≤ n ∧ i = .int .i64 k ∧ firstI g 0 n = firstI g k (n - k) ∧ Below w.heap.size w wr) (fun i _ => n - (intOf i).toNat)
  case atStart => exact ⟨0, Nat.zero_le _, rfl, rfl, Below.refl _ _⟩
  case round =>
    obtain ⟨k, hk, rfl, hd, hB⟩ := hrel
    have HD : Hid _ := hd
    clear hd
    by_cases hlt2 : k < n
    · obtain ⟨a0, a1, a2, a3, a4, a5, a6, a7⟩ := HC.out k hlt2
      replace a0 := cell_later hB a0
      replace a1 := cell_later hB a1
      replace a2 := cell_later hB a2
      replace a3 := cell_later hB a3
      replace a4 := cell_later hB a4
      replace a5 := cell_later hB a5
      replace a6 := cell_later hB a6
      replace a7 := cell_later hB a7
      have hbs := World.block_lt_of_cell? _ _ a0
      have hws : w.heap.size ≤ wr.heap.size := hB.size
      have HY : Hid (∀ _ : g k = true, Hid _) := fun h => firstI_yes g n k hlt2 h
      have HN : Hid (∀ _ : g k = false, Hid _) := fun h => firstI_no g n k hlt2 h
      have HK := Lib.hid (HG.out k hlt2)
      go_wp2_with fail
      refine (HK.out _ (by (repeat (first | exact Below.refl _ _ | assumption | refine Below.drew ?_ | refine Below.drewN ?_ _ | refine blT ?_ | refine blU ?_)))).mono ?_
      rintro e w2 ⟨rfl, hb2⟩
      have hBB : Below w.heap.size w w2 := bwS (by (repeat (first | exact Below.refl _ _ | assumption | refine Below.drew ?_ | refine Below.drewN ?_ _ | refine blT ?_ | refine blU ?_))) (by first | (simp; done) | (simp; omega)) hb2
      clear hb2
      cases hy : g k with
      | true =>
        have H0 := HY.out hy
        go_wp2
        go_ret
        exact ⟨by rw [HD.out, H0.out]; rfl, hBB⟩
      | false =>
        have H0 := HN.out hy
        go_wp2
        go_roundw
        case rel => exact ⟨k + 1, by omega, by go_num, by rw [HD.out, H0.out], hBB⟩
        case measure => simp [intOf]; omega
    · go_wp2
      go_ret
      have : n - k = 0 := by omega
      exact ⟨by rw [HD.out, this]; rfl, hB⟩
set_option maxRecDepth 100000 in
set_option maxHeartbeats 2000000 in
theorem first2_some (p1 p2 : Value) (b o n cap : Nat) (x : Nat → Ic) (g : Nat → Bool) (w : World) (hn : n ≤ 1000000) (hc : IcesAt w b o n x)
    (hg : ∀ i, i < n → ∀ W, Below w.heap.size w W → Calls Tryz.prog 51 #[.agg #[.int .i64 (x i).b0, .int .i64 (x i).b1, .int .i64 (x i).w0, .int .i64 (x i).w1, .int .i64 (x i).q0, .int .i64 (x i).q1, .int .i64 (x i).s0, .int .i64 (x i).s1], p1, p2] W fun e w' => e = .returned (.bool (g i)) ∧ Below W.heap.size W w') :
    Calls Tryz.prog 49 #[.slice (some ⟨b, o, none⟩) n cap, .func (.func 51) #[] #[p1, p2]] w fun e w' => e = .returned (.int .i64 (firstI g 0 n)) ∧ Below w.heap.size w w' := by
  have HC : Hid _ := hc
  have HG : Hid _ := hg
  clear hc hg
  go_enter Tryz.func49, Tryz.ntmps49
  go_wp2_with fail
  go_loopw [9] (fun i wr => ∃ k : Nat, k ≤ n ∧ i = .int .i64 k ∧ firstI g 0 n = firstI g k (n - k) ∧ Below w.heap.size w wr) (fun i _ => n - (intOf i).toNat)
  case atStart => exact ⟨0, Nat.zero_le _, rfl, rfl, Below.refl _ _⟩
  case round =>
    obtain ⟨k, hk, rfl, hd, hB⟩ := hrel
    have HD : Hid _ := hd
    clear hd
    by_cases hlt2 : k < n
    · obtain ⟨a0, a1, a2, a3, a4, a5, a6, a7⟩ := HC.out k hlt2
      replace a0 := cell_later hB a0
      replace a1 := cell_later hB a1
      replace a2 := cell_later hB a2
      replace a3 := cell_later hB a3
      replace a4 := cell_later hB a4
      replace a5 := cell_later hB a5
      replace a6 := cell_later hB a6
      replace a7 := cell_later hB a7
      have hbs := World.block_lt_of_cell? _ _ a0
      have hws : w.heap.size ≤ wr.heap.size := hB.size
      have HY : Hid (∀ _ : g k = true, Hid _) := fun h => firstI_yes g n k hlt2 h
      have HN : Hid (∀ _ : g k = false, Hid _) := fun h => firstI_no g n k hlt2 h
      have HK := Lib.hid (HG.out k hlt2)
      go_wp2_with fail
      refine (HK.out _ (by (repeat (first | exact Below.refl _ _ | assumption | refine Below.drew ?_ | refine Below.drewN ?_ _ | refine blT ?_ | refine blU ?_)))).mono ?_
      rintro e w2 ⟨rfl, hb2⟩
      have hBB : Below w.heap.size w w2 := bwS (by (repeat (first | exact Below.refl _ _ | assumption | refine Below.drew ?_ | refine Below.drewN ?_ _ | refine blT ?_ | refine blU ?_))) (by first | (simp; done) | (simp; omega)) hb2
      clear hb2
      cases hy : g k with
      | true =>
        have H0 := HY.out hy
        go_wp2
        go_ret
        exact ⟨by rw [HD.out, H0.out]; rfl, hBB⟩
      | false =>
        have H0 := HN.out hy
        go_wp2
        go_roundw
        case rel => exact ⟨k + 1, by omega, by go_num, by rw [HD.out, H0.out], hBB⟩
        case measure => simp [intOf]; omega
    · go_wp2
      go_ret
      have : n - k = 0 := by omega
      exact ⟨by rw [HD.out, this]; rfl, hB⟩
end Go.Proofs.YtdbiijldincoiaaGreat

namespace Go.Proofs.YtdbiijldincoiaaGreat
open Go.RowKit

theorem rowsC_len (x : Nat → Ic) (m : Nat) : (rowsC x m).length = m * 8 := by
  induction m with
  | zero => rfl
  | succ k ih => simp [rowsC, ih, ic8]; omega
theorem rowsC_at (x : Nat → Ic) (m i j : Nat) (h : i < m) (hj : j < 8) : (rowsC x m)[i * 8 + j]? = (ic8 (x (i + 1)))[j]? := by
  induction m with
  | zero => omega
  | succ k ih =>
    unfold rowsC
    by_cases hik : i < k
    · rw [List.getElem?_append_left (by rw [rowsC_len]; omega)]
      exact ih hik
    · have : i = k := by omega
      subst this
      rw [List.getElem?_append_right (by rw [rowsC_len]; omega), rowsC_len]
      congr 1
      omega

theorem ices_of_row {W : World} {base : Nat} {v : Value} {m : Nat} {x : Nat → Ic} (h : W.ownsRow base 28 8 v m (rowsC x m)) (h0 : 0 < m) : ∃ g cap, v = .slice (some ⟨g, 0, none⟩) m cap ∧ g < W.heap.size ∧ IcesAt W g 0 m (fun i => x (i + 1)) := by
  obtain ⟨_, h2⟩ := h
  rcases h2 with ⟨_, h2⟩ | ⟨g, cap, cur, hv, hg, hc, hn, hm, hs, ht⟩
  · omega
  refine ⟨g, cap, hv, (Array.getElem?_eq_some_iff.1 hc).1, fun i hi => ?_⟩
  have key : ∀ j, j < 8 → W.cell? ⟨g, 0 + i * 8 + j, none⟩ = (ic8 (x (i + 1)))[j]? := by
    intro j hj
    have e1 : cur[i * 8 + j]? = (rowsC x m)[i * 8 + j]? := by
      rw [← ht, List.getElem?_take_of_lt (by omega)]
      simp
    rw [← rowsC_at x m i j hi hj, ← e1, Nat.zero_add]
    have h' : W.heap[g]? = some (.cells cur 28 (0, 0)) := hc
    simp [World.cell?, h']
  exact ⟨key 0 (by omega), key 1 (by omega), key 2 (by omega), key 3 (by omega), key 4 (by omega), key 5 (by omega), key 6 (by omega), key 7 (by omega)⟩
theorem IcesAt.call {W W' : World} {b o n : Nat} {x : Nat → Ic} (h : IcesAt W b o n x) (hb : Below W.heap.size W W') : IcesAt W' b o n x := fun i hi =>
  have q := h i hi
  ⟨cell_later hb q.1, cell_later hb q.2.1, cell_later hb q.2.2.1, cell_later hb q.2.2.2.1, cell_later hb q.2.2.2.2.1, cell_later hb q.2.2.2.2.2.1, cell_later hb q.2.2.2.2.2.2.1, cell_later hb q.2.2.2.2.2.2.2⟩

structure Ic.Fit (x : Ic) : Prop where
  b0 : 0 ≤ x.b0 ∧ x.b0 ≤ 1000000000
  b1 : 0 ≤ x.b1 ∧ x.b1 ≤ 1000000000
  w0 : 0 ≤ x.w0 ∧ x.w0 ≤ 1000000000
  w1 : 0 ≤ x.w1 ∧ x.w1 ≤ 1000000000

def rdyS (need h0 : Int) (y : Ic) : Bool := decide (soundI y.q0 y.q1 = 1) && decide (need ≤ bearL y.b0 y.w0 h0)
def rdyP (need h1 : Int) (y : Ic) : Bool := !decide (soundI y.q0 y.q1 = 2) && decide (need ≤ bearH y.b1 y.w1 h1)

theorem rdy1_any (gr la : Int) (va : Option Addr) (nc vcap : Nat) (m0 m1 so h0 h1 : Int) (y : Ic) (need : Int) (bl bn : Nat) (w : World) (kl : Blk w bl #[.int .i64 gr, .int .i64 la, .slice va nc vcap, .int .i64 m0, .int .i64 m1, .int .i64 so, .int .i64 h0, .int .i64 h1] 26) (kn : Blk w bn #[.int .i64 need] 3) (f : y.Fit) (k1 : 0 ≤ h0) (k2 : h0 ≤ 1000000) (k3 : 0 ≤ h1) (k4 : h1 ≤ 1000000) :
    Calls Tryz.prog 50 #[.agg #[.int .i64 (y).b0, .int .i64 (y).b1, .int .i64 (y).w0, .int .i64 (y).w1, .int .i64 (y).q0, .int .i64 (y).q1, .int .i64 (y).s0, .int .i64 (y).s1], .pointer (some ⟨bl, 0, none⟩), .pointer (some ⟨bn, 0, none⟩)] w fun e w' => e = .returned (.bool (rdyS need h0 y)) ∧ Below w.heap.size w w' := by
  by_cases h : soundI y.q0 y.q1 = 1
  · rw [show rdyS need h0 y = decide (need ≤ bearL y.b0 y.w0 h0) by simp [rdyS, h]]
    exact rdy1_yes gr la va nc vcap m0 m1 so h0 h1 y.b0 y.b1 y.w0 y.w1 y.q0 y.q1 y.s0 y.s1 need bl bn w kl kn f.b0.1 f.b0.2 f.b1.1 f.b1.2 f.w0.1 f.w0.2 f.w1.1 f.w1.2 k1 k2 k3 k4 h
  · rw [show rdyS need h0 y = false by simp [rdyS, h]]
    exact rdy1_no gr la va nc vcap m0 m1 so h0 h1 y.b0 y.b1 y.w0 y.w1 y.q0 y.q1 y.s0 y.s1 need bl bn w kl kn f.b0.1 f.b0.2 f.b1.1 f.b1.2 f.w0.1 f.w0.2 f.w1.1 f.w1.2 k1 k2 k3 k4 h

theorem rdy2_any (gr la : Int) (va : Option Addr) (nc vcap : Nat) (m0 m1 so h0 h1 : Int) (y : Ic) (need : Int) (bl bn : Nat) (w : World) (kl : Blk w bl #[.int .i64 gr, .int .i64 la, .slice va nc vcap, .int .i64 m0, .int .i64 m1, .int .i64 so, .int .i64 h0, .int .i64 h1] 26) (kn : Blk w bn #[.int .i64 need] 3) (f : y.Fit) (k1 : 0 ≤ h0) (k2 : h0 ≤ 1000000) (k3 : 0 ≤ h1) (k4 : h1 ≤ 1000000) :
    Calls Tryz.prog 51 #[.agg #[.int .i64 (y).b0, .int .i64 (y).b1, .int .i64 (y).w0, .int .i64 (y).w1, .int .i64 (y).q0, .int .i64 (y).q1, .int .i64 (y).s0, .int .i64 (y).s1], .pointer (some ⟨bl, 0, none⟩), .pointer (some ⟨bn, 0, none⟩)] w fun e w' => e = .returned (.bool (rdyP need h1 y)) ∧ Below w.heap.size w w' := by
  by_cases h : ¬ soundI y.q0 y.q1 = 2
  · rw [show rdyP need h1 y = decide (need ≤ bearH y.b1 y.w1 h1) by simp [rdyP, h]]
    exact rdy2_yes gr la va nc vcap m0 m1 so h0 h1 y.b0 y.b1 y.w0 y.w1 y.q0 y.q1 y.s0 y.s1 need bl bn w kl kn f.b0.1 f.b0.2 f.b1.1 f.b1.2 f.w0.1 f.w0.2 f.w1.1 f.w1.2 k1 k2 k3 k4 h
  · rw [show rdyP need h1 y = false by simp [rdyP, Decidable.not_not.1 h]]
    exact rdy2_no gr la va nc vcap m0 m1 so h0 h1 y.b0 y.b1 y.w0 y.w1 y.q0 y.q1 y.s0 y.s1 need bl bn w kl kn f.b0.1 f.b0.2 f.b1.1 f.b1.2 f.w0.1 f.w0.2 f.w1.1 f.w1.2 k1 k2 k3 k4 (Decidable.not_not.1 h)

set_option maxRecDepth 100000 in
set_option maxHeartbeats 2000000 in
theorem ready_ok (a : Option Addr) (b o cap : Nat) (gr la : Int) (va : Option Addr) (nc vcap : Nat) (m0 m1 so h0 h1 : Int) (need : Int) (d : Nat → Dy) (x : Nat → Ic) (w : World) (m : Nat) (hm : m ≤ 400) (hm0 : 0 < m) (ha : 0 < m → a = some ⟨b, o, none⟩) (hb : b < w.heap.size) (k1 : 0 ≤ h0) (k2 : h0 ≤ 1000000) (k3 : 0 ≤ h1) (k4 : h1 ≤ 1000000) (n1 : 0 ≤ need) (n2 : need ≤ 5000)
    (hF : ∀ i, i < m → (x (i + 1)).Fit)
    (hd : ∀ i, i < m → w.cell? ⟨b, o + i * 6, none⟩ = some (.int .i64 (d i).c0) ∧ w.cell? ⟨b, o + i * 6 + 1, none⟩ = some (.int .i64 (d i).c1) ∧ w.cell? ⟨b, o + i * 6 + 2, none⟩ = some (.int .i64 (d i).f0) ∧
      w.cell? ⟨b, o + i * 6 + 3, none⟩ = some (.int .i64 (d i).f1) ∧ w.cell? ⟨b, o + i * 6 + 4, none⟩ = some (.int .i64 (d i).wa) ∧ w.cell? ⟨b, o + i * 6 + 5, none⟩ = some (.bool (d i).cl))
    (hA : ∀ W, Below w.heap.size w W → Calls Tryz.prog 36 #[.agg #[.int .i64 gr, .int .i64 la, (.slice va nc vcap), .int .i64 m0, .int .i64 m1, .int .i64 so, .int .i64 h0, .int .i64 h1], .agg #[.int .i64 (x 0).b0, .int .i64 (x 0).b1, .int .i64 (x 0).w0, .int .i64 (x 0).w1, .int .i64 (x 0).q0, .int .i64 (x 0).q1, .int .i64 (x 0).s0, .int .i64 (x 0).s1], .slice a m cap] W fun e w' => e = .returned (.int .i64 0) ∧ Below W.heap.size W w')
    (hS : ∀ k W, k < m → Below w.heap.size w W → Calls Tryz.prog 55 #[.agg #[.int .i64 gr, .int .i64 la, (.slice va nc vcap), .int .i64 m0, .int .i64 m1, .int .i64 so, .int .i64 h0, .int .i64 h1], .agg #[.int .i64 (x k).b0, .int .i64 (x k).b1, .int .i64 (x k).w0, .int .i64 (x k).w1, .int .i64 (x k).q0, .int .i64 (x k).q1, .int .i64 (x k).s0, .int .i64 (x k).s1], .agg #[.int .i64 (d k).c0, .int .i64 (d k).c1, .int .i64 (d k).f0, .int .i64 (d k).f1, .int .i64 (d k).wa, .bool (d k).cl]] W
      fun e w' => e = .returned (.agg #[.int .i64 (x (k + 1)).b0, .int .i64 (x (k + 1)).b1, .int .i64 (x (k + 1)).w0, .int .i64 (x (k + 1)).w1, .int .i64 (x (k + 1)).q0, .int .i64 (x (k + 1)).q1, .int .i64 (x (k + 1)).s0, .int .i64 (x (k + 1)).s1]) ∧ Below W.heap.size W w') :
    Calls Tryz.prog 23 #[.agg #[.int .i64 gr, .int .i64 la, (.slice va nc vcap), .int .i64 m0, .int .i64 m1, .int .i64 so, .int .i64 h0, .int .i64 h1], .agg #[.int .i64 (x 0).b0, .int .i64 (x 0).b1, .int .i64 (x 0).w0, .int .i64 (x 0).w1, .int .i64 (x 0).q0, .int .i64 (x 0).q1, .int .i64 (x 0).s0, .int .i64 (x 0).s1], .slice a m cap, .int .i64 need] w
      fun e w' => e = .returned (.tuple #[.int .i64 (firstI (fun i => rdyS need h0 (x (i + 1))) 0 m), .int .i64 (firstI (fun i => rdyP need h1 (x (i + 1))) 0 m), .int .i64 0]) ∧ Below w.heap.size w w' := by
  obtain rfl := ha hm0
  clear ha
  have HR : Hid (∀ W, Below w.heap.size w W → Calls Tryz.prog 12 #[.agg #[.int .i64 gr, .int .i64 la, (.slice va nc vcap), .int .i64 m0, .int .i64 m1, .int .i64 so, .int .i64 h0, .int .i64 h1], .agg #[.int .i64 (x 0).b0, .int .i64 (x 0).b1, .int .i64 (x 0).w0, .int .i64 (x 0).w1, .int .i64 (x 0).q0, .int .i64 (x 0).q1, .int .i64 (x 0).s0, .int .i64 (x 0).s1], .slice (some ⟨b, o, none⟩) m cap] W fun e w' => ∃ v, e = .returned (.tuple #[v, .int .i64 0]) ∧ w'.ownsRow W.heap.size 28 8 v m (rowsC x m) ∧ Below W.heap.size W w') := fun W hW =>
    run_ok (some ⟨b, o, none⟩) b o cap gr la va nc vcap m0 m1 so h0 h1 d x W m hm (fun _ => rfl) (Nat.lt_of_lt_of_le hb hW.size) (fun i hi => ⟨cell_later hW (hd i hi).1, cell_later hW (hd i hi).2.1, cell_later hW (hd i hi).2.2.1, cell_later hW (hd i hi).2.2.2.1, cell_later hW (hd i hi).2.2.2.2.1, cell_later hW (hd i hi).2.2.2.2.2⟩)
      (fun V hV => hA V (bwS hW (Nat.le_refl _) hV)) (fun k V hk hV => hS k V hk (bwS hW (Nat.le_refl _) hV))
  clear hd hA hS
  have HN : Hid (∀ W, Calls Tryz.prog 48 #[.int .i64 need, .int .i64 0, .int .i64 5000] W fun e w' => e = .returned (.int .i64 0) ∧ W = w') := fun W => by
    have e0 : eN need 0 5000 = 0 := by unfold eN; rw [if_neg (by omega)]
    exact (number_any need 0 5000 W).mono fun e w' ⟨he, hw⟩ => ⟨by rw [he, e0], hw⟩
  have HF := Lib.hid hF
  clear hF
  generalize hR1 : firstI (fun i => rdyS need h0 (x (i + 1))) 0 m = R1
  generalize hR2 : firstI (fun i => rdyP need h1 (x (i + 1))) 0 m = R2
  have HR1 := Lib.hid hR1
  have HR2 := Lib.hid hR2
  clear hR1 hR2
  go_enter Tryz.func23, Tryz.ntmps23
  go_wp2_with fail
  refine (HR.out _ ?_).mono ?_
  · (repeat (first | exact Below.refl _ _ | assumption | refine Below.drew ?_ | refine Below.drewN ?_ _ | refine blT ?_ | refine blU ?_))
  rintro e w1 ⟨v, rfl, hrow, hb1⟩
  have jL := (((Blk.new w #[.int .i64 gr, .int .i64 la, .slice va nc vcap, .int .i64 m0, .int .i64 m1, .int .i64 so, .int .i64 h0, .int .i64 h1] 26).alloc (.cells #[.int .i64 (x 0).b0, .int .i64 (x 0).b1, .int .i64 (x 0).w0, .int .i64 (x 0).w1, .int .i64 (x 0).q0, .int .i64 (x 0).q1, .int .i64 (x 0).s0, .int .i64 (x 0).s1] 28)).alloc (.cells #[.int .i64 need] 3)).call hb1
  have jN := (Blk.new2 w (.cells #[.int .i64 gr, .int .i64 la, .slice va nc vcap, .int .i64 m0, .int .i64 m1, .int .i64 so, .int .i64 h0, .int .i64 h1] 26) (.cells #[.int .i64 (x 0).b0, .int .i64 (x 0).b1, .int .i64 (x 0).w0, .int .i64 (x 0).w1, .int .i64 (x 0).q0, .int .i64 (x 0).q1, .int .i64 (x 0).s0, .int .i64 (x 0).s1] 28) #[.int .i64 need] 3).call hb1
  have jB : Below w.heap.size w w1 := bwS (by (repeat (first | exact Below.refl _ _ | assumption | refine Below.drew ?_ | refine Below.drewN ?_ _ | refine blT ?_ | refine blU ?_))) (Nat.le_refl _) hb1
  obtain ⟨g, gc, rfl, hg, hI⟩ := ices_of_row hrow hm0
  have HI := Lib.hid hI
  clear hI hrow hb1
  have cN := jN.cell1
  go_wp2_with fail
  refine (HN.out _).mono ?_
  rintro e w2 ⟨rfl, rfl⟩
  go_wp2_with fail
  refine (first1_some _ _ g 0 m gc (fun i => x (i + 1)) (fun i => rdyS need h0 (x (i + 1))) _ (by omega) HI.out (fun i hi V hV => rdy1_any gr la va nc vcap m0 m1 so h0 h1 _ need _ _ V (jL.call hV) (jN.call hV) (HF.out i hi) k1 k2 k3 k4)).mono ?_
  rintro e w3 ⟨he3, hb3⟩
  rw [HR1.out] at he3
  subst he3
  replace jB := bwS jB (Nat.le_refl _) hb3
  replace jL := jL.call hb3
  replace jN := jN.call hb3
  have HI3 := Lib.hid (HI.out.call hb3)
  clear hb3 HI
  go_wp2_with fail
  refine (first2_some _ _ g 0 m gc (fun i => x (i + 1)) (fun i => rdyP need h1 (x (i + 1))) _ (by omega) HI3.out (fun i hi V hV => rdy2_any gr la va nc vcap m0 m1 so h0 h1 _ need _ _ V (jL.call hV) (jN.call hV) (HF.out i hi) k1 k2 k3 k4)).mono ?_
  rintro e w4 ⟨he4, hb4⟩
  rw [HR2.out] at he4
  subst he4
  replace jB := bwS jB (Nat.le_refl _) hb4
  clear hb4
  go_wp2
  exact bodyPost_ret (v := .tuple #[.int .i64 R1, .int .i64 R2, .int .i64 0]) (by simp [results, Tryz.results23, go_sem]) rfl ⟨rfl, jB⟩
end Go.Proofs.YtdbiijldincoiaaGreat
