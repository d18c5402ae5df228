/-
  A truth of a book is a circulation (mathematics).
-/
import Derived.Test.YtpeogfcfiabcfaaLsg
import Derived.Test.YtpeogfcfiabcfaaKno
set_option linter.unusedVariables false
set_option linter.unusedSimpArgs false
namespace Go.Proofs.Ytpeogfcfiabcfaa
open Go.RowKit

theorem pk_net (S : Nat → Bool) (e : Fl) (x : Int) : pk (cIn S e) x - pk (cOut S e) x = pk (S e.b) x - pk (S e.a) x := by
  unfold cIn cOut
  cases S e.a <;> cases S e.b <;> simp [pk]
theorem pk_sub (c : Bool) (x y : Int) : pk c (x - y) = pk c x - pk c y := by cases c <;> simp [pk]
theorem sumT_sub {f g : Nat → Int} : ∀ m, sumT (fun i => f i - g i) m = sumT f m - sumT g m
  | 0 => rfl
  | m + 1 => by rw [sumT, sumT, sumT, sumT_sub m]; omega
theorem sumT_pk (c : Bool) (f : Nat → Int) : ∀ m, sumT (fun i => pk c (f i)) m = pk c (sumT f m)
  | 0 => by cases c <;> rfl
  | m + 1 => by rw [sumT, sumT, sumT_pk c f m]; cases c <;> simp [pk]
theorem sumT_app (f : Nat → Int) (a : Nat) : ∀ b, sumT f (a + b) = sumT f a + sumT (fun i => f (a + i)) b
  | 0 => by simp [sumT]
  | b + 1 => by
    show sumT f (a + b) + f (a + b) = _ + (sumT (fun i => f (a + i)) b + f (a + b))
    rw [sumT_app f a b]; omega
theorem sumT_two (f : Nat → Int) : ∀ n, sumT f (2 * n) = sumT (fun k => f (2 * k) + f (2 * k + 1)) n
  | 0 => rfl
  | n + 1 => by
    rw [show 2 * (n + 1) = 2 * n + 1 + 1 by omega]
    show sumT f (2 * n) + f (2 * n) + f (2 * n + 1) = sumT (fun k => f (2 * k) + f (2 * k + 1)) n + (f (2 * n) + f (2 * n + 1))
    rw [sumT_two f n]; omega
theorem sumP_up (S : Nat → Bool) (l : Nat → Int) (j : Nat) (v : Int) (n : Nat) (hj : j < n) : sumT (fun i => pk (S i) (upF l j v i)) n = sumT (fun i => pk (S i) (l i)) n + pk (S j) (v - l j) := by
  rw [sumT_at j n hj, sumT_at (f := fun i => pk (S i) (l i)) j n hj]
  have e : sumT (fun i => if i = j then 0 else pk (S i) (upF l j v i)) n = sumT (fun i => if i = j then 0 else pk (S i) (l i)) n := sumT_congr n (fun i _ => by
    by_cases h : i = j
    · rw [if_pos h, if_pos h]
    · rw [if_neg h, if_neg h]; unfold upF; rw [if_neg h])
  rw [e, pk_sub]
  have e2 : upF l j v j = v := if_pos rfl
  simp only [e2]
  omega
theorem lsn_set (S : Nat → Bool) (O C : Nat → Int) (M : Nat → Mv) (X : Nat → Int) (n : Nat) : ∀ m, (∀ i, i < m → (M i).fr.toNat < n ∧ (M i).tt.toNat < n) → sumT (fun i => pk (S i) (lsn O C M X m i)) n = sumT (fun i => pk (S i) (O i - C i)) n + sumT (fun j => pk (S (M j).tt.toNat) (X j) - pk (S (M j).fr.toNat) (X j)) m
  | 0, _ => by show _ = _ + (0 : Int); rw [Int.add_zero]; rfl
  | m + 1, h => by
    have h1 := lsn_set S O C M X n m (fun i hi => h i (by omega))
    obtain ⟨hf, ht⟩ := h m (by omega)
    show sumT (fun i => pk (S i) (upF (upF (lsn O C M X m) (M m).fr.toNat (lsn O C M X m (M m).fr.toNat - X m)) (M m).tt.toNat (upF (lsn O C M X m) (M m).fr.toNat (lsn O C M X m (M m).fr.toNat - X m) (M m).tt.toNat + X m) i)) n = _ + (sumT (fun j => pk (S (M j).tt.toNat) (X j) - pk (S (M j).fr.toNat) (X j)) m + (pk (S (M m).tt.toNat) (X m) - pk (S (M m).fr.toNat) (X m)))
    rw [sumP_up S _ _ _ n ht, sumP_up S _ _ _ n hf, h1, show ∀ a b : Int, a + b - a = b by intros; omega, show ∀ a b : Int, a - b - a = 0 - b by intros; omega, pk_sub]
    have e : pk (S (M m).fr.toNat) 0 = 0 := by cases S (M m).fr.toNat <;> rfl
    rw [e]
    omega
theorem lsn_sum (O C : Nat → Int) (M : Nat → Mv) (X : Nat → Int) (n m : Nat) (h : ∀ i, i < m → (M i).fr.toNat < n ∧ (M i).tt.toNat < n) : sumT (lsn O C M X m) n = sumT (fun i => O i - C i) n := by
  have q := lsn_set (fun _ => true) O C M X n m h
  simp only [pk_t] at q
  have z : sumT (fun j => X j - X j) m = 0 := by
    rw [sumT_sub]; omega
  rw [z, Int.add_zero] at q
  exact q
def flX (n m : Nat) (O C X l : Nat → Int) (i : Nat) : Int :=
  if i < 2 * n then (if i % 2 = 0 then O (i / 2) else C (i / 2)) else if i < 2 * n + m then X (i - 2 * n) else if i < 2 * n + m + n then l (i - (2 * n + m)) else sumT l n
theorem truth_circ (n m : Nat) (A : Nat → Ac) (M : Nat → Mv) (O C X : Nat → Int) (hn : n ≤ 8)
    (hA1 : ∀ i, i < n → (A i).o0 ≤ O i ∧ O i ≤ (A i).o1 ∧ (A i).c0 ≤ C i ∧ C i ≤ (A i).c1) (hM1 : ∀ i, i < m → (M i).lo ≤ X i ∧ X i ≤ (M i).hi)
    (hM : ∀ i, i < m → (M i).fr.toNat < n ∧ (M i).tt.toNat < n) (hl : ∀ i, i < n → 0 ≤ lsn O C M X m i ∧ lsn O C M X m i ≤ losH (A i).ki) (hs : 0 ≤ sumT (lsn O C M X m) n ∧ sumT (lsn O C M X m) n ≤ 46000000000) :
    Circ (flE n A m M) (flN n m) (flX n m O C X (lsn O C M X m)) := by
  have hset := fun S => lsn_set S O C M X n m hM
  have hsum := lsn_sum O C M X n m hM
  generalize lsn O C M X m = l at *
  refine ⟨fun i hi => ?_, fun S => ?_⟩
  · unfold flN at hi
    unfold flE flX
    by_cases h1 : i < 2 * n
    · rw [if_pos h1, if_pos h1]
      have a := hA1 (i / 2) (by omega)
      by_cases h2 : i % 2 = 0
      · rw [if_pos h2, if_pos h2]; exact ⟨a.1, a.2.1⟩
      · rw [if_neg h2, if_neg h2]; exact a.2.2
    · rw [if_neg h1, if_neg h1]
      by_cases h2 : i < 2 * n + m
      · rw [if_pos h2, if_pos h2]; exact hM1 _ (by omega)
      · rw [if_neg h2, if_neg h2]
        by_cases h3 : i < 2 * n + m + n
        · rw [if_pos h3, if_pos h3]; exact hl _ (by omega)
        · rw [if_neg h3, if_neg h3]; exact hs
  · have key : sumT (fun i => pk (cIn S (flE n A m M i)) (flX n m O C X l i) - pk (cOut S (flE n A m M i)) (flX n m O C X l i)) (flN n m) = 0 := by
      rw [sumT_congr (flN n m) (g := fun i => pk (S (flE n A m M i).b) (flX n m O C X l i) - pk (S (flE n A m M i).a) (flX n m O C X l i)) (fun i _ => pk_net S _ _)]
      show sumT _ (2 * n + m + n) + _ = 0
      rw [sumT_app _ (2 * n + m) n, sumT_app _ (2 * n) m, sumT_two]
      have p1 : sumT (fun k => (pk (S (flE n A m M (2 * k)).b) (flX n m O C X l (2 * k)) - pk (S (flE n A m M (2 * k)).a) (flX n m O C X l (2 * k))) + (pk (S (flE n A m M (2 * k + 1)).b) (flX n m O C X l (2 * k + 1)) - pk (S (flE n A m M (2 * k + 1)).a) (flX n m O C X l (2 * k + 1)))) n = sumT (fun k => pk (S k) (O k - C k) - pk (S (n + 1)) (O k - C k)) n := sumT_congr n (fun k hk => by
        have x0 : flX n m O C X l (2 * k) = O k := by unfold flX; rw [if_pos (by omega), if_pos (by omega), show 2 * k / 2 = k by omega]
        have x1 : flX n m O C X l (2 * k + 1) = C k := by unfold flX; rw [if_pos (by omega), if_neg (by omega), show (2 * k + 1) / 2 = k by omega]
        rw [x0, x1, flE_o n A m M k hk, flE_c n A m M k hk]
        simp only [pk_sub]
        omega)
      have p2 : sumT (fun j => pk (S (flE n A m M (2 * n + j)).b) (flX n m O C X l (2 * n + j)) - pk (S (flE n A m M (2 * n + j)).a) (flX n m O C X l (2 * n + j))) m = sumT (fun j => pk (S (M j).tt.toNat) (X j) - pk (S (M j).fr.toNat) (X j)) m := sumT_congr m (fun j hj => by
        have x0 : flX n m O C X l (2 * n + j) = X j := by unfold flX; rw [if_neg (by omega), if_pos (by omega), show 2 * n + j - 2 * n = j by omega]
        have x1 : flE n A m M (2 * n + j) = ⟨(M j).fr.toNat, (M j).tt.toNat, (M j).lo, (M j).hi⟩ := by unfold flE; rw [if_neg (by omega), if_pos (by omega), show 2 * n + j - 2 * n = j by omega]
        rw [x0, x1])
      have p3 : sumT (fun j => pk (S (flE n A m M (2 * n + m + j)).b) (flX n m O C X l (2 * n + m + j)) - pk (S (flE n A m M (2 * n + m + j)).a) (flX n m O C X l (2 * n + m + j))) n = sumT (fun j => pk (S n) (l j) - pk (S j) (l j)) n := sumT_congr n (fun j hj => by
        have x0 : flX n m O C X l (2 * n + m + j) = l j := by unfold flX; rw [if_neg (by omega), if_neg (by omega), if_pos (by omega), show 2 * n + m + j - (2 * n + m) = j by omega]
        have x1 : flE n A m M (2 * n + m + j) = ⟨j, n, 0, losH (A j).ki⟩ := by unfold flE; rw [if_neg (by omega), if_neg (by omega), if_pos (by omega), show 2 * n + m + j - (2 * n + m) = j by omega]
        rw [x0, x1])
      have x4 : flX n m O C X l (2 * n + m + n) = sumT l n := by unfold flX; rw [if_neg (by omega), if_neg (by omega), if_neg (by omega)]
      have x5 : flE n A m M (2 * n + m + n) = ⟨n, n + 1, 0, 46000000000⟩ := by unfold flE; rw [if_neg (by omega), if_neg (by omega), if_neg (by omega)]
      rw [p1, p2, p3]
      show _ + _ + _ + (pk (S (flE n A m M (2 * n + m + n)).b) (flX n m O C X l (2 * n + m + n)) - pk (S (flE n A m M (2 * n + m + n)).a) (flX n m O C X l (2 * n + m + n))) = 0
      have q := hset S
      rw [x4, x5, sumT_sub (f := fun k => pk (S k) (O k - C k)), sumT_sub (f := fun j => pk (S n) (l j)), sumT_pk, sumT_pk, hsum]
      show _ + _ + _ + (pk (S (n + 1)) (sumT (fun i => O i - C i) n) - pk (S n) (sumT (fun i => O i - C i) n)) = 0
      rw [q]
      omega
    rw [sumT_sub] at key
    omega
theorem truth_cut {n m : Nat} {A : Nat → Ac} {M : Nat → Mv} {x : Nat → Int} (h : Circ (flE n A m M) (flN n m) x) (s : Nat) : CutS (flE n A m M) (flN n m) s := fun t _ => ⟨h.cut.2 (bS t), h.cut.other (bS t)⟩
end Go.Proofs.Ytpeogfcfiabcfaa
