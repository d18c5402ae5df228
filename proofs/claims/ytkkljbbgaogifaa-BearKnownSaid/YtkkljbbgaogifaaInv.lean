/-
  What has no error is valid. Speaks of no program.
-/
import Derived.Test.YtkkljbbgaogifaaOkB
import Derived.Test.YtkkljbbgaogifaaRB1
set_option linter.unusedVariables false
set_option linter.unusedSimpArgs false
namespace Go.Proofs.Ytkkljbbgaogifaa
open Go.RowKit

theorem orE_inv {a b : Int} (h : orE a b = 0) : a = 0 ∧ b = 0 := by
  unfold orE at h
  by_cases e : a = 0
  · rw [if_pos e] at h; exact ⟨e, h⟩
  · rw [if_neg e] at h; exact absurd h e
theorem eN_inv {n lo hi : Int} (h : eN n lo hi = 0) : lo ≤ n ∧ n ≤ hi := by
  unfold eN at h
  by_cases e : n < lo ∨ hi < n
  · rw [if_pos e] at h; omega
  · omega
theorem eO_inv {b : Bool} (h : eO b = 0) : b = true := by
  cases b with
  | true => rfl
  | false => simp [eO] at h
theorem eF_inv {b : Bool} (h : eF b = 0) : b = true := by
  cases b with
  | true => rfl
  | false => simp [eF] at h
theorem eS_inv {a b lo hi : Int} (h : eS a b lo hi = 0) : lo ≤ a ∧ a ≤ b ∧ b ≤ hi := by
  obtain ⟨h1, h2⟩ := orE_inv h
  obtain ⟨h3, h4⟩ := orE_inv h1
  have h5 := eN_inv h3
  have h6 := eN_inv h4
  have h7 := eO_inv h2
  simp only [decide_eq_true_eq] at h7
  omega
theorem firstNZ_inv {x : Nat → Int} {n : Nat} (h : firstNZ x 0 n = 0) : ∀ i, i < n → x i = 0 := by
  have key : ∀ m, m ≤ n → ∀ i, i < m → x i = 0 := by
    intro m
    induction m with
    | zero => intro _ i hi; omega
    | succ m ih =>
      intro hm i hi
      by_cases e : i = m
      · subst e
        by_cases z : x i = 0
        · exact z
        · rw [first_at x n i (by omega) (ih (by omega)) z] at h
          exact h
      · exact ih (by omega) i (by omega)
  exact key n (Nat.le_refl _)
theorem eTab_inv {t : Tab} (h : eTab t.n t.F t.P = 0) : t.Ok := by
  obtain ⟨h1, h2⟩ := orE_inv h
  have n1 : 1 ≤ t.n := by
    unfold eSm at h1
    by_cases e : (t.n : Int) < 1
    · rw [if_pos e] at h1; omega
    · omega
  have n20 : t.n ≤ 20 := by
    unfold eTs at h2
    by_cases e : 20 < t.n
    · rw [if_pos e] at h2; omega
    · omega
  unfold eTs at h2
  rw [if_neg (by omega)] at h2
  have ha := firstNZ_inv h2
  have z := ha 0 (by omega)
  unfold tabErr at z
  rw [if_pos rfl] at z
  obtain ⟨z1, z2⟩ := orE_inv z
  obtain ⟨z2, z3⟩ := orE_inv z2
  obtain ⟨z3, z4⟩ := orE_inv z3
  have f0 := eO_inv z2
  have p0 := eF_inv z4
  simp only [beq_iff_eq] at f0 p0
  have hk : ∀ i, i + 1 < t.n → (0 ≤ t.F (i + 1) ∧ t.F (i + 1) ≤ 10000) ∧ t.F i < t.F (i + 1) ∧ (0 ≤ t.P (i + 1) ∧ t.P (i + 1) ≤ 1000000) ∧ t.P (i + 1) ≤ t.P i := fun i hi => by
    have q := ha (i + 1) hi
    unfold tabErr at q
    rw [if_neg (by omega), show i + 1 - 1 = i by omega] at q
    obtain ⟨q1, q2⟩ := orE_inv q
    obtain ⟨q2, q3⟩ := orE_inv q2
    obtain ⟨q3, q4⟩ := orE_inv q3
    have r2 := eO_inv q2
    have r4 := eO_inv q4
    simp only [decide_eq_true_eq] at r2 r4
    exact ⟨eN_inv q1, r2, eN_inv q3, r4⟩
  refine ⟨n1, n20, f0, p0, fun i hi => ?_, fun i hi => ⟨(hk i hi).2.1, (hk i hi).2.2.2⟩⟩
  by_cases e : i = 0
  · subst e
    have a := eN_inv z1
    have b := eN_inv z3
    exact ⟨a.1, a.2, b.1, b.2⟩
  · obtain ⟨m, rfl⟩ : ∃ m, i = m + 1 := ⟨i - 1, by omega⟩
    have q := hk m hi
    exact ⟨q.1.1, q.1.2, q.2.2.1.1, q.2.2.1.2⟩
theorem ePl_inv {p : Pl} (h : ePl p = 0) : p.Ok := by
  obtain ⟨h1, h⟩ := orE_inv h
  obtain ⟨h2, h⟩ := orE_inv h
  obtain ⟨h3, h⟩ := orE_inv h
  obtain ⟨h4, h⟩ := orE_inv h
  obtain ⟨h5, h⟩ := orE_inv h
  obtain ⟨h6, h⟩ := orE_inv h
  obtain ⟨h7, h⟩ := orE_inv h
  obtain ⟨h8, h9⟩ := orE_inv h
  have s := eS_inv h1
  have b := eS_inv h7
  have n := eN_inv h4
  have e := eN_inv h5
  have g := eN_inv h6
  have sh := eN_inv h8
  have wi := eN_inv h9
  exact ⟨s.1, s.2.1, s.2.2, eTab_inv h2, eTab_inv h3, n.1, n.2, e.1, e.2, g.1, g.2, b.1, b.2.1, b.2.2, sh.1, sh.2, wi.1, wi.2⟩
theorem eSps_inv {hi : Int} {n : Nat} {m : Int} {A B : Nat → Int} (h : eSps hi n m A B = 0) : (n : Int) ≤ m ∧ ∀ i, i < n → 0 ≤ A i ∧ A i ≤ B i ∧ B i ≤ hi := by
  unfold eSps at h
  by_cases e : m < (n : Int)
  · rw [if_pos e] at h; omega
  · rw [if_neg e] at h
    exact ⟨by omega, fun i hi => eS_inv (firstNZ_inv h i hi)⟩
theorem eRoad_inv {p : Pl} {ni : Nat} {I0 I1 : Nat → Int} {nc : Nat} {C0 C1 : Nat → Int} (h : eRoad p ni I0 I1 nc C0 C1 = 0) : p.Ok ∧ ni ≤ 1000 ∧ (∀ i, i < ni → 0 ≤ I0 i ∧ I0 i ≤ I1 i ∧ I1 i ≤ 5000) ∧ nc ≤ 50 ∧ ∀ i, i < nc → 0 ≤ C0 i ∧ C0 i ≤ C1 i ∧ C1 i ≤ 100000 := by
  obtain ⟨h1, h⟩ := orE_inv h
  obtain ⟨h2, h3⟩ := orE_inv h
  have a := eSps_inv h2
  have b := eSps_inv h3
  exact ⟨ePl_inv h1, by omega, a.2, by omega, b.2⟩
theorem eLds_inv {n : Nat} {L : Nat → Ld} {places : Nat} (h : eLds (100 * (places : Int)) n L = 0) : n ≤ 30 ∧ ∀ i, i < n → (L i).Ok places := by
  unfold eLds at h
  by_cases e : 30 < n
  · rw [if_pos e] at h; omega
  · rw [if_neg e] at h
    refine ⟨by omega, fun i hi => ?_⟩
    have q := firstNZ_inv h i hi
    obtain ⟨q1, q2⟩ := orE_inv q
    obtain ⟨q2, q3⟩ := orE_inv q2
    have s := eS_inv q2
    have t := eN_inv q3
    have m : 0 ≤ (L i).me ∧ (L i).me < 100 * (places : Int) := by
      unfold eI at q1
      by_cases z : (L i).me < 0 ∨ 100 * (places : Int) ≤ (L i).me
      · rw [if_pos z] at q1; omega
      · omega
    exact ⟨m.1, m.2, s.1, s.2.1, s.2.2, t.1, t.2⟩
end Go.Proofs.Ytkkljbbgaogifaa
