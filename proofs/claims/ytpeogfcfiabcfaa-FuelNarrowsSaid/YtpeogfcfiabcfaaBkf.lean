/-
  A book with a truth of it (mathematics): what BookOf makes.
  What is in memory while BookOf (sastrugikit) makes a book.
  BookOf (sastrugikit): a book with a truth of it.
-/
import Derived.Test.YtpeogfcfiabcfaaTail
import Derived.Test.YtpeogfcfiabcfaaTrm
import Derived.Test.YtpeogfcfiabcfaaIns
import Derived.Test.YtpeogfcfiabcfaaBok
import Derived.Test.YtpeogfcfiabcfaaBal
import Derived.Test.YtpeogfcfiabcfaaRfn
set_option linter.unusedVariables false
set_option linter.unusedSimpArgs false
namespace Go.Proofs.Ytpeogfcfiabcfaa
open Go.RowKit

def nmN (i : Nat) : ByteArray := [(⟨#[114, 97, 99, 107]⟩ : ByteArray), ⟨#[99, 97, 109, 112]⟩, ⟨#[103, 114, 111, 117, 110, 100]⟩, ⟨#[116, 114, 117, 99, 107]⟩, ⟨#[109, 105, 110, 101]⟩, ⟨#[97]⟩, ⟨#[97, 98, 99, 100, 101, 102, 103, 104]⟩, ⟨#[122]⟩].getD i ⟨#[]⟩
theorem nmN_ok : ∀ i, i < 8 → nmB (nmN i) = true := by decide +kernel
theorem nmN_sz : ∀ i, i < 8 → (nmN i).size ≤ maxLen := by decide +kernel
theorem nmN_ne : ∀ i, i < 8 → ∀ j, j < 8 → i ≠ j → ¬ (nmN i).data.toList = (nmN j).data.toList := by decide +kernel
theorem seen_no (A : Nat → Ac) (s : ByteArray) : ∀ k, (∀ i, i < k → ¬ (A i).nm.data.toList = s.data.toList) → seen A s k = false
  | 0, _ => rfl
  | k + 1, h => by
    rw [seen, seen_no A s k (fun i hi => h i (by omega)), decide_eq_false (h k (by omega))]
    rfl
theorem lsn_c (O C : Nat → Int) (M : Nat → Mv) (X : Nat → Int) : ∀ m i, lsn O C M X m i = lsn O (fun _ => 0) M X m i - C i
  | 0, i => by show O i - C i = O i - 0 - C i; omega
  | m + 1, i => by
    have h := lsn_c O C M X m
    unfold lsn upF
    by_cases h1 : i = (M m).tt.toNat
    · rw [if_pos h1, if_pos h1]
      by_cases h2 : (M m).tt.toNat = (M m).fr.toNat
      · rw [if_pos h2, if_pos h2, h, h1, h2]; omega
      · rw [if_neg h2, if_neg h2, h, h1]; omega
    · rw [if_neg h1, if_neg h1]
      by_cases h2 : i = (M m).fr.toNat
      · rw [if_pos h2, if_pos h2, h, h2]; omega
      · rw [if_neg h2, if_neg h2, h]
structure MvUp (n q : Nat) (T : Int) (M : Nat → Mv) (X : Nat → Int) : Prop where
  ok : ∀ i, i < q → 0 ≤ (M i).fr ∧ (M i).fr < n ∧ 0 ≤ (M i).tt ∧ (M i).tt < n ∧ (M i).fr ≠ (M i).tt ∧ 0 ≤ (M i).lo ∧ (M i).lo ≤ X i ∧ X i ≤ (M i).hi ∧ (M i).hi ≤ T
theorem MvUp.nat {n q : Nat} {T : Int} {M : Nat → Mv} {X : Nat → Int} (h : MvUp n q T M X) : ∀ i, i < q → (M i).fr.toNat < n ∧ (M i).tt.toNat < n := fun i hi => by
  have := h.ok i hi
  omega
def upM (M : Nat → Mv) (j : Nat) (x : Mv) (i : Nat) : Mv := if i = j then x else M i
def upAc (A : Nat → Ac) (j : Nat) (x : Ac) (i : Nat) : Ac := if i = j then x else A i
theorem upM_at (M : Nat → Mv) (j : Nat) (x : Mv) : upM M j x j = x := if_pos rfl
theorem upAc_at (A : Nat → Ac) (j : Nat) (x : Ac) : upAc A j x j = x := if_pos rfl
theorem upF_at (M : Nat → Int) (j : Nat) (x : Int) : upF M j x j = x := if_pos rfl
theorem upM_ne (M : Nat → Mv) (j : Nat) (x : Mv) (i : Nat) (h : i ≠ j) : upM M j x i = M i := if_neg h
theorem upAc_ne (A : Nat → Ac) (j : Nat) (x : Ac) (i : Nat) (h : i ≠ j) : upAc A j x i = A i := if_neg h
theorem upF_ne (M : Nat → Int) (j : Nat) (x : Int) (i : Nat) (h : i ≠ j) : upF M j x i = M i := if_neg h
theorem cat_upM (A : Nat → Mv) (j : Nat) (x : Mv) : catC (mvC (upM A j x)) (j + 1) = catC (mvC A) j ++ [.int .i64 x.fr, .int .i64 x.tt, .int .i64 x.lo, .int .i64 x.hi] := by
  rw [catC, catC_congr j (C := mvC (upM A j x)) (D := mvC A) (fun i hi => by unfold mvC; rw [upM_ne _ _ _ _ (by omega)])]
  unfold mvC
  rw [upM_at]
theorem cat_upA (A : Nat → Ac) (j : Nat) (x : Ac) : catC (acC (upAc A j x)) (j + 1) = catC (acC A) j ++ [.string x.nm, .int .i64 x.ki, .int .i64 x.o0, .int .i64 x.o1, .int .i64 x.c0, .int .i64 x.c1] := by
  rw [catC, catC_congr j (C := acC (upAc A j x)) (D := acC A) (fun i hi => by unfold acC; rw [upAc_ne _ _ _ _ (by omega)])]
  unfold acC
  rw [upAc_at]
theorem MvUp.more {n q : Nat} {T : Int} {M : Nat → Mv} {X : Nat → Int} (h : MvUp n q T M X) (f t lo hi x : Int) (hf : 0 ≤ f ∧ f < n) (ht : 0 ≤ t ∧ t < n) (hne : f ≠ t) (h1 : 0 ≤ lo ∧ lo ≤ x) (h2 : x ≤ hi ∧ hi ≤ T) : MvUp n (q + 1) T (upM M q ⟨f, t, lo, hi⟩) (upF X q x) := by
  refine ⟨fun i hi => ?_⟩
  by_cases e : i = q
  · subst e
    rw [upM_at, upF_at]
    exact ⟨hf.1, hf.2, ht.1, ht.2, hne, h1.1, h1.2, h2.1, h2.2⟩
  · rw [upM_ne _ _ _ _ e, upF_ne _ _ _ _ e]
    exact h.ok i (by omega)
theorem lsn_congr {O C : Nat → Int} {M N : Nat → Mv} {X Y : Nat → Int} : ∀ q, (∀ i, i < q → M i = N i ∧ X i = Y i) → lsn O C M X q = lsn O C N Y q
  | 0, _ => rfl
  | q + 1, h => by
    have a := lsn_congr (O := O) (C := C) q (fun i hi => h i (by omega))
    have b := h q (by omega)
    rw [lsn, lsn, a, b.1, b.2]
theorem lsn_step (O : Nat → Int) (M : Nat → Mv) (X : Nat → Int) (q f t : Nat) (lo hi x : Int) (hne : f ≠ t) : lsn O (fun _ => 0) (upM M q ⟨f, t, lo, hi⟩) (upF X q x) (q + 1) = upF (upF (lsn O (fun _ => 0) M X q) f (lsn O (fun _ => 0) M X q f - x)) t (lsn O (fun _ => 0) M X q t + x) := by
  rw [lsn, upM_at, upF_at, lsn_congr q (N := M) (Y := X) (fun i hi => ⟨upM_ne _ _ _ _ (by omega), upF_ne _ _ _ _ (by omega)⟩)]
  simp only [Int.toNat_natCast]
  rw [upF_ne _ f _ t (by omega)]
theorem sumT_ge {f : Nat → Int} (i : Nat) : ∀ n, (∀ j, j < n → 0 ≤ f j) → i < n → f i ≤ sumT f n
  | 0, _, h => by omega
  | n + 1, h0, h => by
    have hs : ∀ k, k ≤ n → 0 ≤ sumT f k := fun k => by
      induction k with
      | zero => intro _; exact Int.le_refl _
      | succ k ih => intro hk; have := ih (by omega); have := h0 k (by omega); show 0 ≤ sumT f k + f k; omega
    show f i ≤ sumT f n + f n
    by_cases e : i = n
    · subst e; have := hs i (Nat.le_refl _); omega
    · have := sumT_ge i n (fun j hj => h0 j (by omega)) (by omega); have := h0 n (by omega); omega
theorem have_bd {O : Nat → Int} {n : Nat} {L : Int} (hO : ∀ i, 0 ≤ O i ∧ O i ≤ L) : 0 ≤ sumT O n ∧ sumT O n ≤ n * L := by
  induction n with
  | zero => exact ⟨Int.le_refl _, by show (0 : Int) ≤ ((0 : Nat) : Int) * L; simp⟩
  | succ n ih =>
    have := hO n
    refine ⟨by show 0 ≤ sumT O n + O n; omega, ?_⟩
    show sumT O n + O n ≤ ((n + 1 : Nat) : Int) * L
    rw [Int.natCast_add, Int.add_mul]
    simp only [Int.natCast_one, Int.one_mul]
    omega
structure BkUp (n m : Nat) (A : Nat → Ac) (M : Nat → Mv) (O C X : Nat → Int) : Prop where
  n1 : 1 ≤ n
  n8 : n ≤ 8
  m30 : m ≤ 30
  nm : ∀ i, i < n → (A i).nm = nmN i
  ki : ∀ i, i < n → (A i).ki = 1 ∨ (A i).ki = 2
  ob : ∀ i, 0 ≤ O i ∧ O i ≤ 1000000000
  cb : ∀ i, 0 ≤ C i ∧ C i ≤ 1000000000
  a : ∀ i, i < n → 0 ≤ (A i).o0 ∧ (A i).o0 ≤ O i ∧ O i ≤ (A i).o1 ∧ (A i).o1 ≤ 1000000000 ∧ 0 ≤ (A i).c0 ∧ (A i).c0 ≤ C i ∧ C i ≤ (A i).c1 ∧ (A i).c1 ≤ 1000000000
  mv : MvUp n m 1000000000 M X
  ls : ∀ i, i < n → 0 ≤ lsn O C M X m i ∧ lsn O C M X m i ≤ losH (A i).ki
theorem nz_no (x : Nat → Int) : ∀ m i, (∀ j, i ≤ j → j < i + m → x j = 0) → firstNZ x i m = 0
  | 0, _, _ => rfl
  | m + 1, i, h => by
    show orE (x i) (firstNZ x (i + 1) m) = 0
    unfold orE
    rw [if_pos (h i (by omega) (by omega))]
    exact nz_no x m (i + 1) (fun j h1 h2 => h j (by omega) (by omega))
theorem lit_ok {lo hi : Int} (h1 : 0 ≤ lo) (h2 : lo ≤ hi) (h3 : hi ≤ 1000000000) : eLit lo hi = 0 := by
  have e1 : eN lo 0 1000000000 = 0 := if_neg (by omega)
  have e2 : eN hi 0 1000000000 = 0 := if_neg (by omega)
  have e3 : decide (lo ≤ hi) = true := decide_eq_true h2
  unfold eLit eS eR
  rw [e1, e2, e3]
  rfl
theorem rows_zero {n m : Nat} {A : Nat → Ac} {M : Nat → Mv} {X : Nat → Int} {T : Int} (n1 : 1 ≤ n) (n8 : n ≤ 8) (m30 : m ≤ 30) (hT : T ≤ 1000000000) (nm : ∀ i, i < n → (A i).nm = nmN i) (ki : ∀ i, i < n → (A i).ki = 1 ∨ (A i).ki = 2) (a : ∀ i, i < n → 0 ≤ (A i).o0 ∧ (A i).o0 ≤ (A i).o1 ∧ (A i).o1 ≤ 1000000000 ∧ 0 ≤ (A i).c0 ∧ (A i).c0 ≤ (A i).c1 ∧ (A i).c1 ≤ 1000000000) (mv : MvUp n m T M X) : eRows n A m M = 0 := by
  have e1 : eSm n = 0 := if_neg (by omega)
  have e2 : eAcs n A = 0 := by
    unfold eAcs eL
    rw [if_neg (by omega)]
    refine nz_no _ _ _ (fun j _ hj => ?_)
    have b := a j (by omega)
    have c := ki j (by omega)
    have d : seen A (A j).nm j = false := seen_no A _ j (fun i hi => by rw [nm i (by omega), nm j (by omega)]; exact nmN_ne i (by omega) j (by omega) (by omega))
    have e : eK (A j).ki 2 = 0 := if_neg (by omega)
    unfold eAc eAcc
    rw [d, nm j (by omega), nmN_ok j (by omega), e, lit_ok b.1 b.2.1 b.2.2.1, lit_ok b.2.2.2.1 b.2.2.2.2.1 b.2.2.2.2.2]
    rfl
  have e3 : eL 30 m (fun i => eMv (M i) n) = 0 := by
    unfold eL
    rw [if_neg (by omega)]
    refine nz_no _ _ _ (fun j _ hj => ?_)
    have b := mv.ok j (by omega)
    have i1 : eI (M j).fr n = 0 := if_neg (by omega)
    have i2 : eI (M j).tt n = 0 := if_neg (by omega)
    have i3 : ((M j).fr != (M j).tt) = true := by simp; omega
    show eMv (M j) n = 0
    unfold eMv
    rw [i1, i2, i3, lit_ok (by omega) (by omega) (by omega)]
    rfl
  unfold eRows
  rw [e1, e2, e3]
  rfl
theorem flOk_of {n m : Nat} {A : Nat → Ac} {M : Nat → Mv} (n8 : n ≤ 8) (m30 : m ≤ 30) (a : ∀ i, i < n → 0 ≤ (A i).o0 ∧ (A i).o0 ≤ (A i).o1 ∧ (A i).o1 ≤ 1000000000 ∧ 0 ≤ (A i).c0 ∧ (A i).c0 ≤ (A i).c1 ∧ (A i).c1 ≤ 1000000000) (mv : ∀ i, i < m → 0 ≤ (M i).fr ∧ (M i).fr < n ∧ 0 ≤ (M i).tt ∧ (M i).tt < n ∧ 0 ≤ (M i).lo ∧ (M i).lo ≤ (M i).hi ∧ (M i).hi ≤ 1000000000) : FlOk (flE n A m M) (flN n m) := by
  refine ⟨by unfold flN; omega, fun i hi => ?_⟩
  unfold flN at hi
  unfold flE
  by_cases h1 : i < 2 * n
  · rw [if_pos h1]
    have b := a (i / 2) (by omega)
    by_cases h2 : i % 2 = 0
    · rw [if_pos h2]; show n + 1 ≤ 20 ∧ i / 2 ≤ 20 ∧ 0 ≤ (A (i / 2)).o0 ∧ (A (i / 2)).o0 ≤ 46000000000 ∧ 0 ≤ (A (i / 2)).o1 ∧ (A (i / 2)).o1 ≤ 46000000000; omega
    · rw [if_neg h2]; show i / 2 ≤ 20 ∧ n + 1 ≤ 20 ∧ 0 ≤ (A (i / 2)).c0 ∧ (A (i / 2)).c0 ≤ 46000000000 ∧ 0 ≤ (A (i / 2)).c1 ∧ (A (i / 2)).c1 ≤ 46000000000; omega
  · rw [if_neg h1]
    by_cases h2 : i < 2 * n + m
    · rw [if_pos h2]
      have b := mv (i - 2 * n) (by omega)
      show (M (i - 2 * n)).fr.toNat ≤ 20 ∧ (M (i - 2 * n)).tt.toNat ≤ 20 ∧ 0 ≤ (M (i - 2 * n)).lo ∧ (M (i - 2 * n)).lo ≤ 46000000000 ∧ 0 ≤ (M (i - 2 * n)).hi ∧ (M (i - 2 * n)).hi ≤ 46000000000
      omega
    · rw [if_neg h2]
      by_cases h3 : i < 2 * n + m + n
      · rw [if_pos h3]
        have b : 0 ≤ losH (A (i - (2 * n + m))).ki ∧ losH (A (i - (2 * n + m))).ki ≤ 46000000000 := by
          unfold losH
          by_cases e : (A (i - (2 * n + m))).ki = 2
          · rw [if_pos e]; omega
          · rw [if_neg e]; omega
        show i - (2 * n + m) ≤ 20 ∧ n ≤ 20 ∧ (0 : Int) ≤ 0 ∧ (0 : Int) ≤ 46000000000 ∧ 0 ≤ losH (A (i - (2 * n + m))).ki ∧ losH (A (i - (2 * n + m))).ki ≤ 46000000000
        omega
      · rw [if_neg h3]
        show n ≤ 20 ∧ n + 1 ≤ 20 ∧ (0 : Int) ≤ 0 ∧ (0 : Int) ≤ 46000000000 ∧ (0 : Int) ≤ 46000000000 ∧ (46000000000 : Int) ≤ 46000000000
        omega
theorem BkUp.as {n m : Nat} {A : Nat → Ac} {M : Nat → Mv} {O C X : Nat → Int} (h : BkUp n m A M O C X) : ∀ i, i < n → 0 ≤ (A i).o0 ∧ (A i).o0 ≤ (A i).o1 ∧ (A i).o1 ≤ 1000000000 ∧ 0 ≤ (A i).c0 ∧ (A i).c0 ≤ (A i).c1 ∧ (A i).c1 ≤ 1000000000 := fun i hi => by have := h.a i hi; omega
theorem BkUp.rows {n m : Nat} {A : Nat → Ac} {M : Nat → Mv} {O C X : Nat → Int} (h : BkUp n m A M O C X) : eRows n A m M = 0 := rows_zero h.n1 h.n8 h.m30 (Int.le_refl _) h.nm h.ki h.as h.mv
theorem BkUp.names {n m : Nat} {A : Nat → Ac} {M : Nat → Mv} {O C X : Nat → Int} (h : BkUp n m A M O C X) : NmOk n A := fun i hi => by rw [h.nm i hi]; exact nmN_sz i (by have := h.n8; omega)
theorem BkUp.flok {n m : Nat} {A : Nat → Ac} {M : Nat → Mv} {O C X : Nat → Int} (h : BkUp n m A M O C X) : FlOk (flE n A m M) (flN n m) := flOk_of h.n8 h.m30 h.as (fun i hi => by have := h.mv.ok i hi; omega)
theorem BkUp.sum {n m : Nat} {A : Nat → Ac} {M : Nat → Mv} {O C X : Nat → Int} (h : BkUp n m A M O C X) : 0 ≤ sumT (lsn O C M X m) n ∧ sumT (lsn O C M X m) n ≤ 46000000000 := by
  have e := lsn_sum O C M X n m h.mv.nat
  have z : 0 ≤ sumT (lsn O C M X m) n := by
    have q : ∀ k, k ≤ n → 0 ≤ sumT (lsn O C M X m) k := fun k => by
      induction k with
      | zero => intro _; exact Int.le_refl _
      | succ k ih => intro hk; have := ih (by omega); have := h.ls k (by omega); show 0 ≤ sumT _ k + lsn O C M X m k; omega
    exact q n (Nat.le_refl _)
  have u : ∀ k, k ≤ n → sumT (fun i => O i - C i) k ≤ 1000000000 * k := fun k => by
    induction k with
    | zero => intro _; show (0 : Int) ≤ 1000000000 * ((0 : Nat) : Int); simp
    | succ k ih => intro hk; have := ih (by omega); have := h.ob k; have := h.cb k; show sumT _ k + (O k - C k) ≤ _; omega
  have := u n (Nat.le_refl _)
  have := h.n8
  exact ⟨z, by rw [e]; omega⟩
theorem BkUp.circ {n m : Nat} {A : Nat → Ac} {M : Nat → Mv} {O C X : Nat → Int} (h : BkUp n m A M O C X) : Circ (flE n A m M) (flN n m) (flX n m O C X (lsn O C M X m)) :=
  truth_circ n m A M O C X h.n8 (fun i hi => by have := h.a i hi; omega) (fun i hi => by have := h.mv.ok i hi; omega) h.mv.nat h.ls h.sum
theorem BkUp.cut {n m : Nat} {A : Nat → Ac} {M : Nat → Mv} {O C X : Nat → Int} (h : BkUp n m A M O C X) (s : Nat) : CutS (flE n A m M) (flN n m) s := truth_cut h.circ s
end Go.Proofs.Ytpeogfcfiabcfaa

namespace Go.Proofs.Ytpeogfcfiabcfaa
open Go.RowKit

structure St where
  sA : Value
  sM : Value
  sO : Value
  sC : Value
  sX : Value
  vA : Value
  vM : Value
  vO : Value
  vC : Value
  vX : Value
  vH : Value
  nA : Nat
  nM : Nat
  nO : Nat
  nC : Nat
  nX : Nat
  nH : Nat
  A : Nat → Ac
  M : Nat → Mv
  O : Nat → Int
  C : Nat → Int
  X : Nat → Int
  H : Nat → Int
def Fx (w : World) (bs : Nat) (W : World) : Prop := Blk W w.heap.size #[.slice none 0 0, .slice none 0 0] 44 ∧ Blk W (w.heap.size + 1) #[.slice none 0 0, .slice none 0 0, .slice none 0 0] 46 ∧ Blk W (w.heap.size + 1 + 1 + 1 + 1) #[.string ⟨#[114, 97, 99, 107]⟩, .string ⟨#[99, 97, 109, 112]⟩, .string ⟨#[103, 114, 111, 117, 110, 100]⟩, .string ⟨#[116, 114, 117, 99, 107]⟩, .string ⟨#[109, 105, 110, 101]⟩, .string ⟨#[97]⟩, .string ⟨#[97, 98, 99, 100, 101, 102, 103, 104]⟩, .string ⟨#[122]⟩] 9 ∧ Drawn bs w W
theorem Fx.grown {w W W' : World} {bs : Nat} {r : Option Nat} (h : Fx w bs W) (hbs : bs < w.heap.size) (g : W.grownBy W' r) (hr : ∀ k, r = some k → w.heap.size + 5 ≤ k) : Fx w bs W' :=
  ⟨h.1.grown3 g (fun k e => by have := hr k e; omega), h.2.1.grown3 g (fun k e => by have := hr k e; omega), h.2.2.1.grown3 g (fun k e => by have := hr k e; omega), h.2.2.2.grown g (fun k e => by have := hr k e; omega) hbs⟩
theorem Fx.drawn {w W W' : World} {bs : Nat} (h : Fx w bs W) (hbs : bs < w.heap.size) (g : Drawn bs W W') : Fx w bs W' :=
  ⟨g.blk h.1 (by omega), g.blk h.2.1 (by omega), g.blk h.2.2.1 (by omega), h.2.2.2.trans g⟩
theorem Fx.set {w W : World} {bs : Nat} (h : Fx w bs W) (hbs : bs < w.heap.size) (b o : Nat) (u : Value) (hb : w.heap.size + 2 ≤ b) (hb2 : b ≠ w.heap.size + 1 + 1 + 1 + 1) : Fx w bs (W.setCell ⟨b, o, none⟩ u) :=
  ⟨h.1.other _ _ (by show _ ≠ b; omega), h.2.1.other _ _ (by show _ ≠ b; omega), h.2.2.1.other _ _ (by show _ ≠ b; omega), h.2.2.2.set (p := ⟨b, o, none⟩) (by show _ ≤ b; omega) hbs u⟩
theorem row_apart {W : World} {b1 b2 s1 s2 n1 n2 : Nat} {t1 t2 : TypeId} {v1 v2 : Value} {x1 x2 : List Value} (h : W.ownsRow b1 t1 s1 v1 n1 x1) (k : W.ownsRow b2 t2 s2 v2 n2 x2) (ht : t1 ≠ t2) : v1.ownBlock = none ∨ v1.ownBlock ≠ v2.ownBlock := by
  obtain ⟨_, h2⟩ := h
  obtain ⟨_, k2⟩ := k
  rcases h2 with ⟨e1, _⟩ | ⟨g, c, cur, e1, _, hc, _⟩
  · exact .inl (by rw [e1]; rfl)
  · rcases k2 with ⟨e2, _⟩ | ⟨g2, c2, cur2, e2, _, hc2, _⟩
    · right; rw [e1, e2]; simp [Value.ownBlock]
    · right
      rw [e1, e2]
      intro e
      have e : g = g2 := by simpa [Value.ownBlock] using e
      rw [e, hc2] at hc
      simp at hc
      exact ht hc.2.symm
def Apt (u v : Value) : Prop := u.ownBlock = none ∨ u.ownBlock ≠ v.ownBlock
theorem Apt.symm {u v : Value} (h : Apt u v) : Apt v u := by
  rcases h with h | h
  · by_cases e : v.ownBlock = none
    · exact .inl e
    · exact .inr (by rw [h]; exact e)
  · exact .inr (fun e => h e.symm)
theorem Apt.nil (v : Value) (c : Nat) : Apt (.slice none 0 c) v := .inl rfl
theorem Apt.more {W : World} {b2 s2 n2 g n c : Nat} {t2 : TypeId} {v u : Value} {x2 : List Value} (h : Apt v u) (hg : v.ownBlock = some g ∨ g = W.heap.size) (r : W.ownsRow b2 t2 s2 u n2 x2) : Apt (.slice (some ⟨g, 0, none⟩) n c) u := by
  right
  intro e
  have e : some g = u.ownBlock := e
  rcases hg with hg | hg
  · rcases h with h | h
    · rw [hg] at h; simp at h
    · exact h (hg.trans e)
  · have := (r.lt g e.symm).2
    omega
structure Ap (s : St) : Prop where
  oc : Apt s.vO s.vC
  ox : Apt s.vO s.vX
  oh : Apt s.vO s.vH
  cx : Apt s.vC s.vX
  ch : Apt s.vC s.vH
  xh : Apt s.vX s.vH
structure Kb (w : World) (bs : Nat) (s : St) (W : World) : Prop where
  fx : Fx w bs W
  jb : Blk W (w.heap.size + 1 + 1) #[s.sA, s.sM] 44
  jt : Blk W (w.heap.size + 1 + 1 + 1) #[s.sO, s.sC, s.sX] 46
  rA : W.ownsRow (w.heap.size + 5) 87 6 s.vA s.nA (catC (acC s.A) s.nA)
  rM : W.ownsRow (w.heap.size + 5) 68 4 s.vM s.nM (catC (mvC s.M) s.nM)
  rO : W.ownsRow (w.heap.size + 5) 3 1 s.vO s.nO (catC (inC s.O) s.nO)
  rC : W.ownsRow (w.heap.size + 5) 3 1 s.vC s.nC (catC (inC s.C) s.nC)
  rX : W.ownsRow (w.heap.size + 5) 3 1 s.vX s.nX (catC (inC s.X) s.nX)
  rH : W.ownsRow (w.heap.size + 5) 3 1 s.vH s.nH (catC (inC s.H) s.nH)
theorem row_free' {W : World} {base s : Nat} {t : TypeId} {b n cap : Nat} {xs : List Value} (h : W.ownsRow base t s (.slice (some ⟨b, 0, none⟩) n cap) n xs) : base ≤ b ∧ b < W.heap.size ∧ ∀ j, W.frozen? ⟨b, j, none⟩ = false := by
  obtain ⟨hl, h2⟩ := h
  rcases h2 with ⟨hv, _⟩ | ⟨g, cap', cur, hv, hg, hc, hn, hm, hz, ht⟩
  · simp at hv
  · simp only [Value.slice.injEq, Option.some.injEq, Addr.mk.injEq, and_true, true_and] at hv
    obtain ⟨rfl, rfl⟩ := hv
    have k : Blk W b cur t := hc
    exact ⟨hg, k.lt, k.free⟩
variable {w W W' : World} {bs : Nat} {s : St}
theorem Kb.hs (h : Kb w bs s W) : SeedAt bs W := h.fx.2.2.2.seed
theorem Kb.sz (h : Kb w bs s W) : w.heap.size + 5 ≤ W.heap.size := by have := h.fx.2.2.1.lt; omega
theorem Kb.grown {r : Option Nat} (h : Kb w bs s W) (hbs : bs < w.heap.size) (g : W.grownBy W' r) (hr : ∀ k, r = some k → w.heap.size + 5 ≤ k) (ht : ∀ k, r = some k → w.heap.size + 5 ≤ k)
    (aA : s.vA.ownBlock = none ∨ s.vA.ownBlock ≠ r) (aM : s.vM.ownBlock = none ∨ s.vM.ownBlock ≠ r) (aO : s.vO.ownBlock = none ∨ s.vO.ownBlock ≠ r) (aC : s.vC.ownBlock = none ∨ s.vC.ownBlock ≠ r) (aX : s.vX.ownBlock = none ∨ s.vX.ownBlock ≠ r) (aH : s.vH.ownBlock = none ∨ s.vH.ownBlock ≠ r) : Kb w bs s W' :=
  ⟨h.fx.grown hbs g hr, h.jb.grown3 g (fun k e => by have := ht k e; omega), h.jt.grown3 g (fun k e => by have := ht k e; omega), h.rA.kept g aA, h.rM.kept g aM, h.rO.kept g aO, h.rC.kept g aC, h.rX.kept g aX, h.rH.kept g aH⟩
theorem Kb.drawn (h : Kb w bs s W) (hbs : bs < w.heap.size) (g : Drawn bs W W') : Kb w bs s W' :=
  ⟨h.fx.drawn hbs g, g.blk h.jb (by omega), g.blk h.jt (by omega), g.row h.rA (by omega), g.row h.rM (by omega), g.row h.rO (by omega), g.row h.rC (by omega), g.row h.rX (by omega), g.row h.rH (by omega)⟩
theorem Kb.alloc (h : Kb w bs s W) (hbs : bs < w.heap.size) (o : Obj) : Kb w bs s (W.alloc o) := h.drawn hbs (Drawn.alloc h.hs o)
theorem Kb.drew (h : Kb w bs s W) (hbs : bs < w.heap.size) : Kb w bs s W.drew := h.drawn hbs (Drawn.drew h.hs)
theorem Kb.growA (h : Kb w bs s W) (hbs : bs < w.heap.size) (g : W.grownBy W' s.vA.ownBlock) {v : Value} {n : Nat} {D : Nat → Ac} (r : W'.ownsRow (w.heap.size + 5) 87 6 v n (catC (acC D) n)) : Kb w bs { s with vA := v, nA := n, A := D } W' :=
  have hr : ∀ k, s.vA.ownBlock = some k → w.heap.size + 5 ≤ k := fun k e => (h.rA.lt k e).1
  ⟨h.fx.grown hbs g hr, h.jb.grown3 g (fun k e => by have := hr k e; omega), h.jt.grown3 g (fun k e => by have := hr k e; omega), r, h.rM.kept g (row_apart h.rM h.rA (by decide)), h.rO.kept g (row_apart h.rO h.rA (by decide)), h.rC.kept g (row_apart h.rC h.rA (by decide)), h.rX.kept g (row_apart h.rX h.rA (by decide)), h.rH.kept g (row_apart h.rH h.rA (by decide))⟩
theorem Kb.growM (h : Kb w bs s W) (hbs : bs < w.heap.size) (g : W.grownBy W' s.vM.ownBlock) {v : Value} {n : Nat} {D : Nat → Mv} (r : W'.ownsRow (w.heap.size + 5) 68 4 v n (catC (mvC D) n)) : Kb w bs { s with vM := v, nM := n, M := D } W' :=
  have hr : ∀ k, s.vM.ownBlock = some k → w.heap.size + 5 ≤ k := fun k e => (h.rM.lt k e).1
  ⟨h.fx.grown hbs g hr, h.jb.grown3 g (fun k e => by have := hr k e; omega), h.jt.grown3 g (fun k e => by have := hr k e; omega), h.rA.kept g (row_apart h.rA h.rM (by decide)), r, h.rO.kept g (row_apart h.rO h.rM (by decide)), h.rC.kept g (row_apart h.rC h.rM (by decide)), h.rX.kept g (row_apart h.rX h.rM (by decide)), h.rH.kept g (row_apart h.rH h.rM (by decide))⟩
theorem Kb.growO (h : Kb w bs s W) (ha : Ap s) (hbs : bs < w.heap.size) (g : W.grownBy W' s.vO.ownBlock) {v : Value} {n : Nat} {D : Nat → Int} (r : W'.ownsRow (w.heap.size + 5) 3 1 v n (catC (inC D) n)) : Kb w bs { s with vO := v, nO := n, O := D } W' :=
  have hr : ∀ k, s.vO.ownBlock = some k → w.heap.size + 5 ≤ k := fun k e => (h.rO.lt k e).1
  ⟨h.fx.grown hbs g hr, h.jb.grown3 g (fun k e => by have := hr k e; omega), h.jt.grown3 g (fun k e => by have := hr k e; omega), h.rA.kept g (row_apart h.rA h.rO (by decide)), h.rM.kept g (row_apart h.rM h.rO (by decide)), r, h.rC.kept g (ha.oc.symm), h.rX.kept g (ha.ox.symm), h.rH.kept g (ha.oh.symm)⟩
theorem Kb.apO (h : Kb w bs s W) (ha : Ap s) {g n c : Nat} {D : Nat → Int} (hg : s.vO.ownBlock = some g ∨ g = W.heap.size) : Ap { s with vO := .slice (some ⟨g, 0, none⟩) n c, nO := n, O := D } := ⟨Apt.more ha.oc hg h.rC, Apt.more ha.ox hg h.rX, Apt.more ha.oh hg h.rH, ha.cx, ha.ch, ha.xh⟩
theorem Kb.growC (h : Kb w bs s W) (ha : Ap s) (hbs : bs < w.heap.size) (g : W.grownBy W' s.vC.ownBlock) {v : Value} {n : Nat} {D : Nat → Int} (r : W'.ownsRow (w.heap.size + 5) 3 1 v n (catC (inC D) n)) : Kb w bs { s with vC := v, nC := n, C := D } W' :=
  have hr : ∀ k, s.vC.ownBlock = some k → w.heap.size + 5 ≤ k := fun k e => (h.rC.lt k e).1
  ⟨h.fx.grown hbs g hr, h.jb.grown3 g (fun k e => by have := hr k e; omega), h.jt.grown3 g (fun k e => by have := hr k e; omega), h.rA.kept g (row_apart h.rA h.rC (by decide)), h.rM.kept g (row_apart h.rM h.rC (by decide)), h.rO.kept g (ha.oc), r, h.rX.kept g (ha.cx.symm), h.rH.kept g (ha.ch.symm)⟩
theorem Kb.apC (h : Kb w bs s W) (ha : Ap s) {g n c : Nat} {D : Nat → Int} (hg : s.vC.ownBlock = some g ∨ g = W.heap.size) : Ap { s with vC := .slice (some ⟨g, 0, none⟩) n c, nC := n, C := D } := ⟨(Apt.more ha.oc.symm hg h.rO).symm, ha.ox, ha.oh, Apt.more ha.cx hg h.rX, Apt.more ha.ch hg h.rH, ha.xh⟩
theorem Kb.growX (h : Kb w bs s W) (ha : Ap s) (hbs : bs < w.heap.size) (g : W.grownBy W' s.vX.ownBlock) {v : Value} {n : Nat} {D : Nat → Int} (r : W'.ownsRow (w.heap.size + 5) 3 1 v n (catC (inC D) n)) : Kb w bs { s with vX := v, nX := n, X := D } W' :=
  have hr : ∀ k, s.vX.ownBlock = some k → w.heap.size + 5 ≤ k := fun k e => (h.rX.lt k e).1
  ⟨h.fx.grown hbs g hr, h.jb.grown3 g (fun k e => by have := hr k e; omega), h.jt.grown3 g (fun k e => by have := hr k e; omega), h.rA.kept g (row_apart h.rA h.rX (by decide)), h.rM.kept g (row_apart h.rM h.rX (by decide)), h.rO.kept g (ha.ox), h.rC.kept g (ha.cx), r, h.rH.kept g (ha.xh.symm)⟩
theorem Kb.apX (h : Kb w bs s W) (ha : Ap s) {g n c : Nat} {D : Nat → Int} (hg : s.vX.ownBlock = some g ∨ g = W.heap.size) : Ap { s with vX := .slice (some ⟨g, 0, none⟩) n c, nX := n, X := D } := ⟨ha.oc, (Apt.more ha.ox.symm hg h.rO).symm, ha.oh, (Apt.more ha.cx.symm hg h.rC).symm, ha.ch, Apt.more ha.xh hg h.rH⟩
theorem Kb.growH (h : Kb w bs s W) (ha : Ap s) (hbs : bs < w.heap.size) (g : W.grownBy W' s.vH.ownBlock) {v : Value} {n : Nat} {D : Nat → Int} (r : W'.ownsRow (w.heap.size + 5) 3 1 v n (catC (inC D) n)) : Kb w bs { s with vH := v, nH := n, H := D } W' :=
  have hr : ∀ k, s.vH.ownBlock = some k → w.heap.size + 5 ≤ k := fun k e => (h.rH.lt k e).1
  ⟨h.fx.grown hbs g hr, h.jb.grown3 g (fun k e => by have := hr k e; omega), h.jt.grown3 g (fun k e => by have := hr k e; omega), h.rA.kept g (row_apart h.rA h.rH (by decide)), h.rM.kept g (row_apart h.rM h.rH (by decide)), h.rO.kept g (ha.oh), h.rC.kept g (ha.ch), h.rX.kept g (ha.xh), r⟩
theorem Kb.apH (h : Kb w bs s W) (ha : Ap s) {g n c : Nat} {D : Nat → Int} (hg : s.vH.ownBlock = some g ∨ g = W.heap.size) : Ap { s with vH := .slice (some ⟨g, 0, none⟩) n c, nH := n, H := D } := ⟨ha.oc, ha.ox, (Apt.more ha.oh.symm hg h.rO).symm, ha.cx, (Apt.more ha.ch.symm hg h.rC).symm, (Apt.more ha.xh.symm hg h.rX).symm⟩
theorem Kb.setA (h : Kb w bs s W) (hbs : bs < w.heap.size) (u : Value) : Kb w bs { s with sA := u } (W.setCell ⟨w.heap.size + 1 + 1, 0, none⟩ u) :=
  ⟨h.fx.set hbs _ _ u (by omega) (by omega), h.jb.set 0 u, h.jt.other _ _ (by show _ ≠ w.heap.size + 1 + 1; omega), row_store h.rA (b := w.heap.size + 1 + 1) (fun e => by have := (h.rA.lt _ e).1; omega), row_store h.rM (b := w.heap.size + 1 + 1) (fun e => by have := (h.rM.lt _ e).1; omega), row_store h.rO (b := w.heap.size + 1 + 1) (fun e => by have := (h.rO.lt _ e).1; omega), row_store h.rC (b := w.heap.size + 1 + 1) (fun e => by have := (h.rC.lt _ e).1; omega), row_store h.rX (b := w.heap.size + 1 + 1) (fun e => by have := (h.rX.lt _ e).1; omega), row_store h.rH (b := w.heap.size + 1 + 1) (fun e => by have := (h.rH.lt _ e).1; omega)⟩
theorem Kb.setM (h : Kb w bs s W) (hbs : bs < w.heap.size) (u : Value) : Kb w bs { s with sM := u } (W.setCell ⟨w.heap.size + 1 + 1, 1, none⟩ u) :=
  ⟨h.fx.set hbs _ _ u (by omega) (by omega), h.jb.set 1 u, h.jt.other _ _ (by show _ ≠ w.heap.size + 1 + 1; omega), row_store h.rA (b := w.heap.size + 1 + 1) (fun e => by have := (h.rA.lt _ e).1; omega), row_store h.rM (b := w.heap.size + 1 + 1) (fun e => by have := (h.rM.lt _ e).1; omega), row_store h.rO (b := w.heap.size + 1 + 1) (fun e => by have := (h.rO.lt _ e).1; omega), row_store h.rC (b := w.heap.size + 1 + 1) (fun e => by have := (h.rC.lt _ e).1; omega), row_store h.rX (b := w.heap.size + 1 + 1) (fun e => by have := (h.rX.lt _ e).1; omega), row_store h.rH (b := w.heap.size + 1 + 1) (fun e => by have := (h.rH.lt _ e).1; omega)⟩
theorem Kb.setO (h : Kb w bs s W) (hbs : bs < w.heap.size) (u : Value) : Kb w bs { s with sO := u } (W.setCell ⟨w.heap.size + 1 + 1 + 1, 0, none⟩ u) :=
  ⟨h.fx.set hbs _ _ u (by omega) (by omega), h.jb.other _ _ (by show _ ≠ w.heap.size + 1 + 1 + 1; omega), h.jt.set 0 u, row_store h.rA (b := w.heap.size + 1 + 1 + 1) (fun e => by have := (h.rA.lt _ e).1; omega), row_store h.rM (b := w.heap.size + 1 + 1 + 1) (fun e => by have := (h.rM.lt _ e).1; omega), row_store h.rO (b := w.heap.size + 1 + 1 + 1) (fun e => by have := (h.rO.lt _ e).1; omega), row_store h.rC (b := w.heap.size + 1 + 1 + 1) (fun e => by have := (h.rC.lt _ e).1; omega), row_store h.rX (b := w.heap.size + 1 + 1 + 1) (fun e => by have := (h.rX.lt _ e).1; omega), row_store h.rH (b := w.heap.size + 1 + 1 + 1) (fun e => by have := (h.rH.lt _ e).1; omega)⟩
theorem Kb.setC (h : Kb w bs s W) (hbs : bs < w.heap.size) (u : Value) : Kb w bs { s with sC := u } (W.setCell ⟨w.heap.size + 1 + 1 + 1, 1, none⟩ u) :=
  ⟨h.fx.set hbs _ _ u (by omega) (by omega), h.jb.other _ _ (by show _ ≠ w.heap.size + 1 + 1 + 1; omega), h.jt.set 1 u, row_store h.rA (b := w.heap.size + 1 + 1 + 1) (fun e => by have := (h.rA.lt _ e).1; omega), row_store h.rM (b := w.heap.size + 1 + 1 + 1) (fun e => by have := (h.rM.lt _ e).1; omega), row_store h.rO (b := w.heap.size + 1 + 1 + 1) (fun e => by have := (h.rO.lt _ e).1; omega), row_store h.rC (b := w.heap.size + 1 + 1 + 1) (fun e => by have := (h.rC.lt _ e).1; omega), row_store h.rX (b := w.heap.size + 1 + 1 + 1) (fun e => by have := (h.rX.lt _ e).1; omega), row_store h.rH (b := w.heap.size + 1 + 1 + 1) (fun e => by have := (h.rH.lt _ e).1; omega)⟩
theorem Kb.setX (h : Kb w bs s W) (hbs : bs < w.heap.size) (u : Value) : Kb w bs { s with sX := u } (W.setCell ⟨w.heap.size + 1 + 1 + 1, 2, none⟩ u) :=
  ⟨h.fx.set hbs _ _ u (by omega) (by omega), h.jb.other _ _ (by show _ ≠ w.heap.size + 1 + 1 + 1; omega), h.jt.set 2 u, row_store h.rA (b := w.heap.size + 1 + 1 + 1) (fun e => by have := (h.rA.lt _ e).1; omega), row_store h.rM (b := w.heap.size + 1 + 1 + 1) (fun e => by have := (h.rM.lt _ e).1; omega), row_store h.rO (b := w.heap.size + 1 + 1 + 1) (fun e => by have := (h.rO.lt _ e).1; omega), row_store h.rC (b := w.heap.size + 1 + 1 + 1) (fun e => by have := (h.rC.lt _ e).1; omega), row_store h.rX (b := w.heap.size + 1 + 1 + 1) (fun e => by have := (h.rX.lt _ e).1; omega), row_store h.rH (b := w.heap.size + 1 + 1 + 1) (fun e => by have := (h.rH.lt _ e).1; omega)⟩
theorem row_setI {W : World} {base b n cap : Nat} {t : TypeId} {H : Nat → Int} (h : W.ownsRow base t 1 (.slice (some ⟨b, 0, none⟩) n cap) n (catC (inC H) n)) {i : Nat} (hi : i < n) (x : Int) : (W.setCell ⟨b, i, none⟩ (.int .i64 x)).ownsRow base t 1 (.slice (some ⟨b, 0, none⟩) n cap) n (catC (inC (upF H i x)) n) := by
  rw [← cat_set H i x n hi]
  exact row_at_set h i _
theorem ownB {g n c : Nat} : (Value.slice (some ⟨g, 0, none⟩) n c).ownBlock = some g := rfl
theorem apt_ne {u : Value} {g n c : Nat} (h : u.ownBlock = none ∨ u.ownBlock ≠ (Value.slice (some ⟨g, 0, none⟩) n c).ownBlock) : u.ownBlock ≠ some g := by
  rcases h with h | h
  · rw [h]; simp
  · exact h
theorem Kb.putH (h : Kb w bs s W) (ha : Ap s) (hbs : bs < w.heap.size) {g n c : Nat} (hv : s.vH = .slice (some ⟨g, 0, none⟩) n c) (hn : s.nH = n) {i : Nat} (hi : i < n) (x : Int) : Kb w bs { s with H := upF s.H i x } (W.setCell ⟨g, i, none⟩ (.int .i64 x)) := by
  have rH := h.rH
  rw [hv, hn] at rH
  have zg := (row_free' rH).1
  refine ⟨h.fx.set hbs _ _ _ (by omega) (by omega), h.jb.other _ _ (by show _ ≠ g; omega), h.jt.other _ _ (by show _ ≠ g; omega), row_store h.rA ?_, row_store h.rM ?_, row_store h.rO ?_, row_store h.rC ?_, row_store h.rX ?_, ?_⟩
  · exact apt_ne (row_apart h.rA rH (by decide))
  · exact apt_ne (row_apart h.rM rH (by decide))
  · have := ha.oh; rw [hv] at this; exact apt_ne this
  · have := ha.ch; rw [hv] at this; exact apt_ne this
  · have := ha.xh; rw [hv] at this; exact apt_ne this
  · show (W.setCell ⟨g, i, none⟩ (.int .i64 x)).ownsRow (w.heap.size + 5) 3 1 s.vH s.nH (catC (inC (upF s.H i x)) s.nH)
    rw [hv, hn]
    exact row_setI rH hi x
theorem Kb.putA (h : Kb w bs s W) (hbs : bs < w.heap.size) {g n c : Nat} (hv : s.vA = .slice (some ⟨g, 0, none⟩) n c) (hn : s.nA = n) {i : Nat} (hi : i < n) (x y : Int) : Kb w bs { s with A := upAc s.A i ⟨(s.A i).nm, (s.A i).ki, (s.A i).o0, (s.A i).o1, x, y⟩ } ((W.setCell ⟨g, i * 6 + 4, none⟩ (.int .i64 x)).setCell ⟨g, i * 6 + 4 + 1, none⟩ (.int .i64 y)) := by
  have rA := h.rA
  rw [hv, hn] at rA
  have zg := (row_free' rA).1
  have k : ∀ {b s2 n2 : Nat} {t2 : TypeId} {v2 : Value} {x2 : List Value}, W.ownsRow b t2 s2 v2 n2 x2 → t2 ≠ 87 → ((W.setCell ⟨g, i * 6 + 4, none⟩ (.int .i64 x)).setCell ⟨g, i * 6 + 4 + 1, none⟩ (.int .i64 y)).ownsRow b t2 s2 v2 n2 x2 := fun r ht => row_store (row_store r (apt_ne (row_apart r rA ht))) (apt_ne (row_apart r rA ht))
  refine ⟨(h.fx.set hbs _ _ _ (by omega) (by omega)).set hbs _ _ _ (by omega) (by omega), (h.jb.other _ _ (by show _ ≠ g; omega)).other _ _ (by show _ ≠ g; omega), (h.jt.other _ _ (by show _ ≠ g; omega)).other _ _ (by show _ ≠ g; omega), ?_, k h.rM (by decide), k h.rO (by decide), k h.rC (by decide), k h.rX (by decide), k h.rH (by decide)⟩
  show ((W.setCell ⟨g, i * 6 + 4, none⟩ (.int .i64 x)).setCell ⟨g, i * 6 + 4 + 1, none⟩ (.int .i64 y)).ownsRow (w.heap.size + 5) 87 6 s.vA s.nA (catC (acC (upAc s.A i ⟨(s.A i).nm, (s.A i).ki, (s.A i).o0, (s.A i).o1, x, y⟩)) s.nA)
  rw [hv, hn]
  exact row_put2 rA (fun _ => rfl) (fun _ => rfl) i 4 hi (by omega) _ _ (fun j hj => by unfold acC; rw [upAc_ne _ _ _ _ hj]) (by unfold acC; rw [upAc_at]; rfl)
end Go.Proofs.Ytpeogfcfiabcfaa

namespace Go.Proofs.Ytpeogfcfiabcfaa
open Go.RowKit

theorem nm_cell {W : World} {b : Nat} (h : Blk W b #[.string ⟨#[114, 97, 99, 107]⟩, .string ⟨#[99, 97, 109, 112]⟩, .string ⟨#[103, 114, 111, 117, 110, 100]⟩, .string ⟨#[116, 114, 117, 99, 107]⟩, .string ⟨#[109, 105, 110, 101]⟩, .string ⟨#[97]⟩, .string ⟨#[97, 98, 99, 100, 101, 102, 103, 104]⟩, .string ⟨#[122]⟩] 9) (k : Nat) (hk : k < 8) : W.cell? ⟨b, k, none⟩ = some (.string (nmN k)) := by
  refine h.cell k ?_
  match k, hk with
  | 0, _ => rfl
  | 1, _ => rfl
  | 2, _ => rfl
  | 3, _ => rfl
  | 4, _ => rfl
  | 5, _ => rfl
  | 6, _ => rfl
  | 7, _ => rfl
def nilV : Value := .slice none 0 0
def zM (_ : Nat) : Mv := ⟨0, 0, 0, 0⟩
def zI (_ : Nat) : Int := 0
def St1 (vA vO vH : Value) (nA nO : Nat) (A : Nat → Ac) (O H : Nat → Int) : St := ⟨vA, .slice none 0 0, vO, .slice none 0 0, .slice none 0 0, vA, .slice none 0 0, vO, .slice none 0 0, .slice none 0 0, vH, nA, 0, nO, 0, 0, nO, A, zM, O, zI, zI, H⟩
structure Bk1 (L wd : Int) (k : Nat) (A : Nat → Ac) (O : Nat → Int) : Prop where
  nm : ∀ i, i < k → (A i).nm = nmN i
  ki : ∀ i, i < k → (A i).ki = 1 ∨ (A i).ki = 2
  ob : ∀ i, 0 ≤ O i ∧ O i ≤ L
  a : ∀ i, i < k → 0 ≤ (A i).o0 ∧ (A i).o0 ≤ O i ∧ O i ≤ (A i).o1 ∧ (A i).o1 ≤ L + wd
theorem Bk1.more {L wd : Int} {k : Nat} {A : Nat → Ac} {O : Nat → Int} (h : Bk1 L wd k A O) (kd n x y c0 c1 : Int) (h1 : kd = 1 ∨ kd = 2) (h2 : 0 ≤ n ∧ n ≤ L) (h3 : 0 ≤ x ∧ x ≤ n) (h4 : n ≤ y ∧ y ≤ n + wd) : Bk1 L wd (k + 1) (upAc A k ⟨nmN k, kd, x, y, c0, c1⟩) (upF O k n) := by
  refine ⟨fun i hi => ?_, fun i hi => ?_, fun i => ?_, fun i hi => ?_⟩
  · by_cases e : i = k
    · subst e; rw [upAc_at]
    · rw [upAc_ne _ _ _ _ e]; exact h.nm i (by omega)
  · by_cases e : i = k
    · subst e; rw [upAc_at]; exact h1
    · rw [upAc_ne _ _ _ _ e]; exact h.ki i (by omega)
  · by_cases e : i = k
    · subst e; rw [upF_at]; exact h2
    · rw [upF_ne _ _ _ _ e]; exact h.ob i
  · by_cases e : i = k
    · subst e; rw [upAc_at, upF_at]; refine ⟨h3.1, h3.2, h4.1, ?_⟩; show y ≤ L + wd; omega
    · rw [upAc_ne _ _ _ _ e, upF_ne _ _ _ _ e]; exact h.a i (by omega)
theorem awK {w W V : World} {bs : Nat} {s : St} {o : Obj} (h : W.alloc o = V) (k : Kb w bs s W) (hbs : bs < w.heap.size) : Kb w bs s V := h ▸ k.alloc hbs o
theorem awK3 {w W V : World} {bs : Nat} {s : St} {o : Obj} (h : (W.alloc o).drew = V) (k : Kb w bs s W) (hbs : bs < w.heap.size) : Kb w bs s V := h ▸ (k.alloc hbs o).drew hbs
def Kb.wld {w W : World} {bs : Nat} {s : St} (_ : Kb w bs s W) : World := W
theorem news_six {W : World} {g : Nat} {a b c d e f : Value} {t : TypeId} (h : Blk W g #[a, b, c, d, e, f] t) : ∀ (j : Nat) (u : Value), [a, b, c, d, e, f][j]? = some u → W.cell? ((⟨g, 0, none⟩ : Addr).add j) = some u := by
  intro j u hj
  match j with
  | 0 => simp at hj; subst hj; exact h.cell 0 rfl
  | 1 => simp at hj; subst hj; exact h.cell 1 rfl
  | 2 => simp at hj; subst hj; exact h.cell 2 rfl
  | 3 => simp at hj; subst hj; exact h.cell 3 rfl
  | 4 => simp at hj; subst hj; exact h.cell 4 rfl
  | 5 => simp at hj; subst hj; exact h.cell 5 rfl
  | k + 6 => simp at hj
theorem news_four {W : World} {g : Nat} {a b c d : Value} {t : TypeId} (h : Blk W g #[a, b, c, d] t) : ∀ (j : Nat) (u : Value), [a, b, c, d][j]? = some u → W.cell? ((⟨g, 0, none⟩ : Addr).add j) = some u := by
  intro j u hj
  match j with
  | 0 => simp at hj; subst hj; exact h.cell 0 rfl
  | 1 => simp at hj; subst hj; exact h.cell 1 rfl
  | 2 => simp at hj; subst hj; exact h.cell 2 rfl
  | 3 => simp at hj; subst hj; exact h.cell 3 rfl
  | k + 4 => simp at hj
theorem wrap_move (f d n : Int) (hf : 0 ≤ f) (hf2 : f < n) (h1 : 1 ≤ d) (h2 : d ≤ n - 1) : 0 ≤ (f + d) % n ∧ (f + d) % n < n ∧ (f + d) % n ≠ f := by
  by_cases h : f + d < n
  · rw [Int.emod_eq_of_lt (by omega) h]; omega
  · have e : (f + d) % n = f + d - n := by
      rw [← Int.emod_eq_of_lt (a := f + d - n) (b := n) (by omega) (by omega)]
      simp
    rw [e]; omega
def St2 (vA vO vH vM vX : Value) (n q : Nat) (A : Nat → Ac) (M : Nat → Mv) (O X H : Nat → Int) : St := ⟨vA, vM, vO, .slice none 0 0, vX, vA, vM, vO, .slice none 0 0, vX, vH, n, q, n, 0, q, n, A, M, O, zI, X, H⟩
structure Bk2 (L wd : Int) (n q : Nat) (A : Nat → Ac) (M : Nat → Mv) (O X : Nat → Int) : Prop where
  b1 : Bk1 L wd n A O
  mv : MvUp n q (8 * L + wd) M X
  h0 : ∀ i, i < n → 0 ≤ lsn O (fun _ => 0) M X q i
theorem Bk2.bd {L wd : Int} {n q : Nat} {A : Nat → Ac} {M : Nat → Mv} {O X : Nat → Int} (h : Bk2 L wd n q A M O X) (hn : n ≤ 8) (hL : 0 ≤ L) (i : Nat) (hi : i < n) : 0 ≤ lsn O (fun _ => 0) M X q i ∧ lsn O (fun _ => 0) M X q i ≤ 8 * L := by
  refine ⟨h.h0 i hi, ?_⟩
  have a := sumT_ge i n h.h0 hi
  rw [lsn_sum O (fun _ => 0) M X n q h.mv.nat, sumT_congr n (g := O) (fun i _ => by omega)] at a
  have b := (have_bd (n := n) h.b1.ob).2
  have c : (n : Int) * L ≤ 8 * L := Int.mul_le_mul_of_nonneg_right (by omega) hL
  omega
theorem Bk2.more {L wd : Int} {n q : Nat} {A : Nat → Ac} {M : Nat → Mv} {O X : Nat → Int} (h : Bk2 L wd n q A M O X) (hn : n ≤ 8) (hL : 0 ≤ L) (f t : Nat) (x lo hi : Int) (hf : f < n) (ht : t < n) (hne : t ≠ f) (hx : 0 ≤ x ∧ x ≤ lsn O (fun _ => 0) M X q f) (h1 : 0 ≤ lo ∧ lo ≤ x) (h2 : x ≤ hi ∧ hi ≤ x + wd) : Bk2 L wd n (q + 1) A (upM M q ⟨f, t, lo, hi⟩) O (upF X q x) := by
  have b := h.bd hn hL f hf
  refine ⟨h.b1, h.mv.more f t lo hi x (by omega) (by omega) (by omega) h1 (by omega), fun i hi => ?_⟩
  rw [lsn_step O M X q f t lo _ x (by omega)]
  by_cases e : i = t
  · subst e; rw [upF_at]; have := h.h0 i hi; omega
  · rw [upF_ne _ _ _ _ e]
    by_cases e2 : i = f
    · subst e2; rw [upF_at]; omega
    · rw [upF_ne _ _ _ _ e2]; exact h.h0 i hi
def St3 (vA vO vH vM vX vC : Value) (n m k : Nat) (A : Nat → Ac) (M : Nat → Mv) (O X H C : Nat → Int) : St := ⟨vA, vM, vO, vC, vX, vA, vM, vO, vC, vX, vH, n, m, n, k, m, n, A, M, O, C, X, H⟩
structure Bk3 (L wd : Int) (n k : Nat) (A : Nat → Ac) (O H C : Nat → Int) : Prop where
  b1 : Bk1 L wd n A O
  c : ∀ i, i < k → 0 ≤ (A i).c0 ∧ (A i).c0 ≤ C i ∧ C i ≤ (A i).c1 ∧ (A i).c1 ≤ 8 * L + wd
  cb : ∀ i, 0 ≤ C i ∧ C i ≤ 8 * L
  l : ∀ i, i < k → C i ≤ H i ∧ ((A i).ki = 2 → C i = H i)
theorem Bk3.more {L wd : Int} {n k : Nat} {A : Nat → Ac} {O H C : Nat → Int} (h : Bk3 L wd n k A O H C) (hk : k < n) (c x y : Int) (hc : 0 ≤ c ∧ c ≤ H k) (hH : H k ≤ 8 * L) (h2 : (A k).ki = 2 → c = H k) (hx : 0 ≤ x ∧ x ≤ c) (hy : c ≤ y ∧ y ≤ c + wd) : Bk3 L wd n (k + 1) (upAc A k ⟨(A k).nm, (A k).ki, (A k).o0, (A k).o1, x, y⟩) O H (upF C k c) := by
  refine ⟨⟨fun i hi => ?_, fun i hi => ?_, h.b1.ob, fun i hi => ?_⟩, fun i hi => ?_, fun i => ?_, fun i hi => ?_⟩
  · by_cases e : i = k
    · subst e; rw [upAc_at]; exact h.b1.nm i hi
    · rw [upAc_ne _ _ _ _ e]; exact h.b1.nm i hi
  · by_cases e : i = k
    · subst e; rw [upAc_at]; exact h.b1.ki i hi
    · rw [upAc_ne _ _ _ _ e]; exact h.b1.ki i hi
  · by_cases e : i = k
    · subst e; rw [upAc_at]; exact h.b1.a i hi
    · rw [upAc_ne _ _ _ _ e]; exact h.b1.a i hi
  · by_cases e : i = k
    · subst e; rw [upAc_at, upF_at]; refine ⟨hx.1, hx.2, hy.1, ?_⟩; show y ≤ 8 * L + wd; omega
    · rw [upAc_ne _ _ _ _ e, upF_ne _ _ _ _ e]; exact h.c i (by omega)
  · by_cases e : i = k
    · subst e; rw [upF_at]; omega
    · rw [upF_ne _ _ _ _ e]; exact h.cb i
  · by_cases e : i = k
    · subst e; rw [upAc_at, upF_at]; exact ⟨hc.2, h2⟩
    · rw [upAc_ne _ _ _ _ e, upF_ne _ _ _ _ e]; exact h.l i (by omega)
theorem Bk3.up {L wd : Int} {n m : Nat} {A0 A : Nat → Ac} {M : Nat → Mv} {O X H C : Nat → Int} (h : Bk3 L wd n n A O H C) (h2 : Bk2 L wd n m A0 M O X) (hH : lsn O (fun _ => 0) M X m = H) (hn1 : 1 ≤ n) (hn8 : n ≤ 8) (hm : m ≤ 30) (hL : 0 ≤ L ∧ L ≤ 1000000) (hw : 0 ≤ wd ∧ wd ≤ 1000) : BkUp n m A M O C X := by
  refine ⟨hn1, hn8, hm, h.b1.nm, h.b1.ki, fun i => ?_, fun i => ?_, fun i hi => ?_, ⟨fun i hi => ?_⟩, fun i hi => ?_⟩
  · have := h.b1.ob i; omega
  · have := h.cb i; omega
  · have := h.b1.a i hi; have := h.c i hi; omega
  · have := h2.mv.ok i hi; omega
  · have a := h.l i hi
    have b := h2.bd hn8 hL.1 i hi
    have c := h.cb i
    have k := h.b1.ki i hi
    rw [lsn_c, hH]
    rw [hH] at b
    unfold losH
    by_cases e : (A i).ki = 2
    · rw [if_pos e]; have := a.2 e; omega
    · rw [if_neg e]; omega
theorem Kb.done {w W : World} {bs : Nat} {s : St} (h : Kb w bs s W) (hbs : bs < w.heap.size) (u0 u1 v0 v1 v2 : Value) :
    Blk (((((W.setCell ⟨w.heap.size, 0, none⟩ u0).setCell ⟨w.heap.size, 1, none⟩ u1).setCell ⟨w.heap.size + 1, 0, none⟩ v0).setCell ⟨w.heap.size + 1, 1, none⟩ v1).setCell ⟨w.heap.size + 1, 2, none⟩ v2) w.heap.size #[u0, u1] 44 ∧
    Blk (((((W.setCell ⟨w.heap.size, 0, none⟩ u0).setCell ⟨w.heap.size, 1, none⟩ u1).setCell ⟨w.heap.size + 1, 0, none⟩ v0).setCell ⟨w.heap.size + 1, 1, none⟩ v1).setCell ⟨w.heap.size + 1, 2, none⟩ v2) (w.heap.size + 1) #[v0, v1, v2] 46 ∧
    Drawn bs w (((((W.setCell ⟨w.heap.size, 0, none⟩ u0).setCell ⟨w.heap.size, 1, none⟩ u1).setCell ⟨w.heap.size + 1, 0, none⟩ v0).setCell ⟨w.heap.size + 1, 1, none⟩ v1).setCell ⟨w.heap.size + 1, 2, none⟩ v2) ∧
    ∀ (e : TypeId) (z n : Nat) (v : Value) (xs : List Value), W.ownsRow (w.heap.size + 5) e z v n xs → (((((W.setCell ⟨w.heap.size, 0, none⟩ u0).setCell ⟨w.heap.size, 1, none⟩ u1).setCell ⟨w.heap.size + 1, 0, none⟩ v0).setCell ⟨w.heap.size + 1, 1, none⟩ v1).setCell ⟨w.heap.size + 1, 2, none⟩ v2).ownsRow w.heap.size e z v n xs := by
  refine ⟨?_, ?_, ?_, fun e z n v xs r => ?_⟩
  · exact ((((h.fx.1.set 0 u0).set 1 u1).other _ _ (by show _ ≠ w.heap.size + 1; omega)).other _ _ (by show _ ≠ w.heap.size + 1; omega)).other _ _ (by show _ ≠ w.heap.size + 1; omega)
  · exact (((((h.fx.2.1.other _ _ (by show _ ≠ w.heap.size; omega)).other _ _ (by show _ ≠ w.heap.size; omega)).set 0 v0).set 1 v1).set 2 v2)
  · exact (((((h.fx.2.2.2.set (p := ⟨w.heap.size, 0, none⟩) (by show _ ≤ w.heap.size; omega) hbs u0).set (p := ⟨w.heap.size, 1, none⟩) (by show _ ≤ w.heap.size; omega) hbs u1).set (p := ⟨w.heap.size + 1, 0, none⟩) (by show _ ≤ w.heap.size + 1; omega) hbs v0).set (p := ⟨w.heap.size + 1, 1, none⟩) (by show _ ≤ w.heap.size + 1; omega) hbs v1).set (p := ⟨w.heap.size + 1, 2, none⟩) (by show _ ≤ w.heap.size + 1; omega) hbs v2)
  · have hb : ∀ b, b < w.heap.size + 5 → v.ownBlock ≠ some b := fun b hb e => by have := (r.lt _ e).1; omega
    exact ownsRow_base (row_store (row_store (row_store (row_store (row_store r (hb _ (by omega))) (hb _ (by omega))) (hb _ (by omega))) (hb _ (by omega))) (hb _ (by omega))) (by omega)
theorem row_at_world {W V : World} {base s n : Nat} {e : TypeId} {v : Value} {xs : List Value} (h : W.drew = V) (k : W.ownsRow base e s v n xs) : V.ownsRow base e s v n xs := h ▸ k
theorem row_ac {W : World} {base : Nat} {t : TypeId} {b n cap : Nat} {A : Nat → Ac} (h : W.ownsRow base t 6 (.slice (some ⟨b, 0, none⟩) n cap) n (catC (acC A) n)) {k : Nat} (hk : k < n) : W.cell? ⟨b, k * 6 + 1, none⟩ = some (.int .i64 (A k).ki) ∧ W.cell? ⟨b, k * 6 + 4, none⟩ = some (.int .i64 (A k).c0) ∧ W.cell? ⟨b, k * 6 + 4 + 1, none⟩ = some (.int .i64 (A k).c1) := by
  refine ⟨?_, ?_, ?_⟩
  · rw [h.cellAt (k * 6 + 1) (by omega), catC_at (acC A) 6 k 1 (by omega) n (fun _ _ => rfl) hk]; rfl
  · rw [h.cellAt (k * 6 + 4) (by omega), catC_at (acC A) 6 k 4 (by omega) n (fun _ _ => rfl) hk]; rfl
  · rw [h.cellAt (k * 6 + 4 + 1) (by omega), catC_at (acC A) 6 k 5 (by omega) n (fun _ _ => rfl) hk]; rfl
set_option maxRecDepth 100000 in
set_option maxHeartbeats 16000000 in
theorem bookof_in (na nm L wd : Int) (bs : Nat) (w : World) (hs : SeedAt bs w) (ha : 1 ≤ na ∧ na ≤ 8) (hm : 0 ≤ nm ∧ nm ≤ 30) (hL : 0 ≤ L ∧ L ≤ 1000000) (hw : 0 ≤ wd ∧ wd ≤ 1000) :
    Calls Try.prog 25 #[.pointer (some ⟨bs, 0, none⟩), .int .i64 na, .int .i64 nm, .int .i64 L, .int .i64 wd] w fun e w' => ∃ (n m : Nat) (A : Nat → Ac) (M : Nat → Mv) (O C X : Nat → Int) (vA vM vO vC vX : Value), e = .returned (.tuple #[.agg #[vA, vM], .agg #[vO, vC, vX]]) ∧ (n ≤ na ∧ m ≤ nm) ∧ BkUp n m A M O C X ∧
      (w'.ownsRow w.heap.size 87 6 vA n (catC (acC A) n) ∧ w'.ownsRow w.heap.size 68 4 vM m (catC (mvC M) m) ∧ w'.ownsRow w.heap.size 3 1 vO n (catC (inC O) n) ∧ w'.ownsRow w.heap.size 3 1 vC n (catC (inC C) n) ∧ w'.ownsRow w.heap.size 3 1 vX m (catC (inC X) m)) ∧ Drawn bs w w' := by
  have hbs : bs < w.heap.size := hs.choose_spec.lt
  obtain ⟨iA, hiA, hz0iA, hz1iA, hz2iA⟩ := info_parts Try.infoAccount
  obtain ⟨iM, hiM, hz0iM, hz1iM, hz2iM⟩ := info_parts Try.infoMove
  obtain ⟨iI, hiI, hz0iI, hz1iI, hz2iI⟩ := info_parts Try.infoInt
  have jR := (((Blk.new w #[.slice none 0 0, .slice none 0 0] 44).alloc (.cells #[.slice none 0 0, .slice none 0 0, .slice none 0 0] 46)).alloc (.cells #[.slice none 0 0, .slice none 0 0] 44)).alloc (.cells #[.slice none 0 0, .slice none 0 0, .slice none 0 0] 46) |>.alloc (.cells #[.string ⟨#[114, 97, 99, 107]⟩, .string ⟨#[99, 97, 109, 112]⟩, .string ⟨#[103, 114, 111, 117, 110, 100]⟩, .string ⟨#[116, 114, 117, 99, 107]⟩, .string ⟨#[109, 105, 110, 101]⟩, .string ⟨#[97]⟩, .string ⟨#[97, 98, 99, 100, 101, 102, 103, 104]⟩, .string ⟨#[122]⟩] 9)
  have jS := (((Blk.new1 w (.cells #[.slice none 0 0, .slice none 0 0] 44) #[.slice none 0 0, .slice none 0 0, .slice none 0 0] 46).alloc (.cells #[.slice none 0 0, .slice none 0 0] 44)).alloc (.cells #[.slice none 0 0, .slice none 0 0, .slice none 0 0] 46)).alloc (.cells #[.string ⟨#[114, 97, 99, 107]⟩, .string ⟨#[99, 97, 109, 112]⟩, .string ⟨#[103, 114, 111, 117, 110, 100]⟩, .string ⟨#[116, 114, 117, 99, 107]⟩, .string ⟨#[109, 105, 110, 101]⟩, .string ⟨#[97]⟩, .string ⟨#[97, 98, 99, 100, 101, 102, 103, 104]⟩, .string ⟨#[122]⟩] 9)
  have jb := ((Blk.new2 w (.cells #[.slice none 0 0, .slice none 0 0] 44) (.cells #[.slice none 0 0, .slice none 0 0, .slice none 0 0] 46) #[.slice none 0 0, .slice none 0 0] 44).alloc (.cells #[.slice none 0 0, .slice none 0 0, .slice none 0 0] 46)).alloc (.cells #[.string ⟨#[114, 97, 99, 107]⟩, .string ⟨#[99, 97, 109, 112]⟩, .string ⟨#[103, 114, 111, 117, 110, 100]⟩, .string ⟨#[116, 114, 117, 99, 107]⟩, .string ⟨#[109, 105, 110, 101]⟩, .string ⟨#[97]⟩, .string ⟨#[97, 98, 99, 100, 101, 102, 103, 104]⟩, .string ⟨#[122]⟩] 9)
  have jt := (Blk.new2 (w.alloc (.cells #[.slice none 0 0, .slice none 0 0] 44)) (.cells #[.slice none 0 0, .slice none 0 0, .slice none 0 0] 46) (.cells #[.slice none 0 0, .slice none 0 0] 44) #[.slice none 0 0, .slice none 0 0, .slice none 0 0] 46).alloc (.cells #[.string ⟨#[114, 97, 99, 107]⟩, .string ⟨#[99, 97, 109, 112]⟩, .string ⟨#[103, 114, 111, 117, 110, 100]⟩, .string ⟨#[116, 114, 117, 99, 107]⟩, .string ⟨#[109, 105, 110, 101]⟩, .string ⟨#[97]⟩, .string ⟨#[97, 98, 99, 100, 101, 102, 103, 104]⟩, .string ⟨#[122]⟩] 9)
  have jN := Blk.new2 ((w.alloc (.cells #[.slice none 0 0, .slice none 0 0] 44)).alloc (.cells #[.slice none 0 0, .slice none 0 0, .slice none 0 0] 46)) (.cells #[.slice none 0 0, .slice none 0 0] 44) (.cells #[.slice none 0 0, .slice none 0 0, .slice none 0 0] 46) #[.string ⟨#[114, 97, 99, 107]⟩, .string ⟨#[99, 97, 109, 112]⟩, .string ⟨#[103, 114, 111, 117, 110, 100]⟩, .string ⟨#[116, 114, 117, 99, 107]⟩, .string ⟨#[109, 105, 110, 101]⟩, .string ⟨#[97]⟩, .string ⟨#[97, 98, 99, 100, 101, 102, 103, 104]⟩, .string ⟨#[122]⟩] 9
  simp only [World.size_alloc] at jt jN
  have hD : Drawn bs w (((((w.alloc (.cells #[.slice none 0 0, .slice none 0 0] 44)).alloc (.cells #[.slice none 0 0, .slice none 0 0, .slice none 0 0] 46)).alloc (.cells #[.slice none 0 0, .slice none 0 0] 44)).alloc (.cells #[.slice none 0 0, .slice none 0 0, .slice none 0 0] 46)).alloc (.cells #[.string ⟨#[114, 97, 99, 107]⟩, .string ⟨#[99, 97, 109, 112]⟩, .string ⟨#[103, 114, 111, 117, 110, 100]⟩, .string ⟨#[116, 114, 117, 99, 107]⟩, .string ⟨#[109, 105, 110, 101]⟩, .string ⟨#[97]⟩, .string ⟨#[97, 98, 99, 100, 101, 102, 103, 104]⟩, .string ⟨#[122]⟩] 9)) := ((((Drawn.alloc hs _).new _).new _).new _).new _
  have hnil : ∀ {W : World} {b : Nat} {t : TypeId} {s : Nat}, W.ownsRow b t s (.slice none 0 0) 0 [] := ⟨by simp, .inl ⟨rfl, rfl⟩⟩
  have kb : Kb w bs (St1 (.slice none 0 0) (.slice none 0 0) (.slice none 0 0) 0 0 (fun _ => ⟨⟨#[]⟩, 0, 0, 0, 0, 0⟩) zI zI) _ := ⟨⟨jR, jS, jN, hD⟩, jb, jt, hnil, hnil, hnil, hnil, hnil, hnil⟩
  have ha0 : Ap (St1 (.slice none 0 0) (.slice none 0 0) (.slice none 0 0) 0 0 (fun _ => ⟨⟨#[]⟩, 0, 0, 0, 0, 0⟩) zI zI) := ⟨Apt.nil _ _, Apt.nil _ _, Apt.nil _ _, Apt.nil _ _, Apt.nil _ _, Apt.nil _ _⟩
  clear jR jS jb jt jN hD hnil
  have hmin : min na 8 = na := by omega
  go_enter Try.func25, Try.ntmps25
  go_wp2_with fail
  refine (from_in 1 na bs _ kb.hs (by omega) (by omega) (by omega) (by omega)).mono ?_
  rintro e w1 ⟨i, rfl, i0, i1, hd⟩
  replace kb := kb.drawn hbs hd
  clear hd hmin
  obtain ⟨j, rfl⟩ : ∃ j : Nat, i = j := ⟨i.toNat, by omega⟩
  replace i1 : (j : Int) ≤ na := by omega
  go_wp2_with fail
  go_loopw [15, 16] (fun s15 s16 wr => ∃ (k j : Nat) (aA : Option Addr) (cA : Nat) (aO : Option Addr) (cO : Nat) (aH : Option Addr) (cH : Nat) (A : Nat → Ac) (O : Nat → Int), s15 = .slice aH k cH ∧ s16 = .int .i64 j ∧ ((k : Int) + j ≤ na) ∧ k + j ≤ 8 ∧ 1 ≤ k + j ∧ Kb w bs (St1 (.slice aA k cA) (.slice aO k cO) (.slice aH k cH) k k A O O) wr ∧ Ap (St1 (.slice aA k cA) (.slice aO k cO) (.slice aH k cH) k k A O O) ∧ Bk1 L wd k A O) (fun _ i _ => (intOf i).toNat)
  case atStart => exact ⟨0, j, none, 0, none, 0, none, 0, (fun _ => ⟨⟨#[]⟩, 0, 0, 0, 0, 0⟩), zI, rfl, rfl, by omega, by omega, by omega, kb, ha0, ⟨fun i h => by omega, fun i h => by omega, fun i => by show (0 : Int) ≤ 0 ∧ (0 : Int) ≤ L; omega, fun i h => by omega⟩⟩
  case round =>
    clear kb ha0 i0 i1
    obtain ⟨k, j, aA, cA, aO, cO, aH, cH, A, O, rfl, rfl, hna, hk8', hk1, kb, ha, hB⟩ := hrel
    have HB := Lib.hid hB
    clear hB
    by_cases h0 : j = 0
    · subst h0
      have hn8 : k ≤ 8 := by omega
      have hk1' : 1 ≤ k := by omega
      obtain ⟨n, hkn⟩ : ∃ n, n = k := ⟨_, rfl⟩
      subst hkn
      have gH9 : ∃ gH, aH = some ⟨gH, 0, none⟩ := by
        obtain ⟨a9, c9, e9, _, _, h9⟩ := row_at kb.rH (by omega)
        obtain ⟨b9, h9, _⟩ := h9 hk1'
        simp only [St1, Value.slice.injEq] at e9
        exact ⟨b9, by rw [e9.1, h9]⟩
      obtain ⟨gH, rfl⟩ := gH9
      clear hk1 hk8'
      have e4 : IntKind.i64.wrap (nm + 1) = nm + 1 := IntWalk.i64_in _ (by omega)
      go_wp2_with fail
      refine (below_in (nm + 1) bs _ kb.hs (by omega)).mono ?_
      rintro e w2 ⟨i, rfl, i0, i1, hd⟩
      replace kb := kb.drawn hbs hd
      clear hd
      obtain ⟨j, rfl⟩ : ∃ j : Nat, i = j := ⟨i.toNat, by omega⟩
      replace i1 : (j : Int) ≤ nm := by omega
      go_wp2_with fail
      go_loopw [20] (fun s20 wr => ∃ (q j : Nat) (aM : Option Addr) (cM : Nat) (aX : Option Addr) (cX : Nat) (M : Nat → Mv) (X : Nat → Int), s20 = .int .i64 j ∧ (q : Int) + j ≤ nm ∧ Kb w bs (St2 (.slice aA n cA) (.slice aO n cO) (.slice (some ⟨gH, 0, none⟩) n cH) (.slice aM q cM) (.slice aX q cX) n q A M O X (lsn O (fun _ => 0) M X q)) wr ∧ Ap (St2 (.slice aA n cA) (.slice aO n cO) (.slice (some ⟨gH, 0, none⟩) n cH) (.slice aM q cM) (.slice aX q cX) n q A M O X (lsn O (fun _ => 0) M X q)) ∧ Bk2 L wd n q A M O X) (fun i _ => (intOf i).toNat)
      case atStart =>
        have e0 : lsn O (fun _ => 0) zM zI 0 = O := funext fun i => by show O i - 0 = O i; omega
        exact ⟨0, j, none, 0, none, 0, zM, zI, rfl, by omega, by rw [e0]; exact kb, by rw [e0]; exact ha, ⟨HB.out, ⟨fun i h => absurd h (by omega)⟩, fun i hi => by rw [e0]; exact (HB.out.ob i).1⟩⟩
      case round =>
        clear kb ha i0 i1 HB
        obtain ⟨q, j, aM, cM, aX, cX, M, X, rfl, hnm, kb, ha, hB⟩ := hrel
        have HB := Lib.hid hB
        clear hB
        obtain ⟨H, hH⟩ : ∃ H, lsn O (fun _ => 0) M X q = H := ⟨_, rfl⟩
        have HH := Lib.hid hH
        rw [hH] at kb ha
        clear hH
        go_upto_region 16 with fail
        go_cut [84] from 78 to 154 (fun s84 W => ∃ b : Bool, s84 = .bool b ∧ (b = true ↔ 0 < j ∧ 1 < n) ∧ W = wr)
        case first =>
          by_cases h1 : 0 < j
          · have h1I : (0 : Int) < (j : Int) := by omega
            by_cases h2 : 1 < n
            · have h2I : (1 : Int) < (n : Int) := by omega
              go_wp2_with fail
              go_meet
              exact ⟨true, rfl, by simp [h1, h2], rfl⟩
            · have h2I : ¬ (1 : Int) < (n : Int) := by omega
              have d2 : decide ((1 : Int) < (n : Int)) = false := decide_eq_false h2I
              have d3 : decide (1 < n) = false := decide_eq_false h2
              go_wp2_with fail
              go_meet
              exact ⟨false, rfl, by simp [h2], rfl⟩
          · have h1I : ¬ (0 : Int) < (j : Int) := by omega
            have d2 : decide ((0 : Int) < (j : Int)) = false := decide_eq_false h1I
            have d3 : decide (0 < j) = false := decide_eq_false h1
            go_wp2_with fail
            go_meet
            exact ⟨false, rfl, by simp [h1], rfl⟩
        case rest =>
        obtain ⟨b, rfl, hb9, rfl⟩ := hcut
        cases b
        · have hm30 : q ≤ 30 := by omega
          obtain ⟨m, hmq⟩ : ∃ m, m = q := ⟨_, rfl⟩
          subst hmq
          have gA9 : ∃ gA, aA = some ⟨gA, 0, none⟩ := by
            obtain ⟨a9, c9, e9, _, _, h9⟩ := row_at kb.rA (by omega)
            obtain ⟨b9, h9, _⟩ := h9 hk1'
            simp only [St2, Value.slice.injEq] at e9
            exact ⟨b9, by rw [e9.1, h9]⟩
          obtain ⟨gA, rfl⟩ := gA9
          clear hb9
          go_wp2_with fail
          go_loopw [24] (fun s24 wr => ∃ (k : Nat) (aC : Option Addr) (cC : Nat) (A : Nat → Ac) (C : Nat → Int), s24 = .int .i64 k ∧ k ≤ n ∧ Kb w bs (St3 (.slice (some ⟨gA, 0, none⟩) n cA) (.slice aO n cO) (.slice (some ⟨gH, 0, none⟩) n cH) (.slice aM m cM) (.slice aX m cX) (.slice aC k cC) n m k A M O X H C) wr ∧ Ap (St3 (.slice (some ⟨gA, 0, none⟩) n cA) (.slice aO n cO) (.slice (some ⟨gH, 0, none⟩) n cH) (.slice aM m cM) (.slice aX m cX) (.slice aC k cC) n m k A M O X H C) ∧ Bk3 L wd n k A O H C) (fun i _ => n - (intOf i).toNat)
          case atStart => exact ⟨0, none, 0, A, zI, rfl, by omega, kb, ha, ⟨HB.out.b1, fun i h => absurd h (by omega), fun i => by show (0 : Int) ≤ 0 ∧ (0 : Int) ≤ 8 * L; omega, fun i h => absurd h (by omega)⟩⟩
          case round =>
            clear kb ha
            obtain ⟨k, aC, cC, A9, C, rfl, hkn, kb, ha, hB3⟩ := hrel
            have HB3 := Lib.hid hB3
            have HB2 := HB
            clear hB3 HB
            have HQ := Lib.hid (fun i (hi : i < n) => (show 0 ≤ H i ∧ H i ≤ 8 * L by have := HB2.out.bd hn8 hL.1 i hi; rw [HH.out] at this; exact this))
            have HUP := Lib.hid (fun (A9 : Nat → Ac) (C : Nat → Int) (h : Bk3 L wd n n A9 O H C) => h.up HB2.out HH.out hk1' hn8 hm30 hL hw)
            clear HB2 HH
            obtain ⟨A, hA9⟩ : ∃ A, A = A9 := ⟨_, rfl⟩
            subst hA9
            by_cases hlt : k < n
            · have hltI : (k : Int) < n := by omega
              clear HUP
              obtain ⟨h, hh⟩ : ∃ z, H k = z := ⟨_, rfl⟩
              have hb0 := HQ.out k hlt
              rw [hh] at hb0
              have cH9 : wr.cell? ⟨gH, k, none⟩ = some (.int .i64 h) := by rw [← hh]; exact row_int kb.rH hlt
              obtain ⟨cK0, -, -⟩ := row_ac kb.rA hlt
              have hkd := HB3.out.b1.ki k hlt
              obtain ⟨kd, hkd9⟩ : ∃ z, (A k).ki = z := ⟨_, rfl⟩
              have cK : wr.cell? ⟨gA, k * 6 + 1, none⟩ = some (.int .i64 kd) := by rw [← hkd9]; exact cK0
              clear cK0
              rw [hkd9] at hkd
              have HKD := Lib.hid hkd9
              have Hh := Lib.hid hh
              clear hkd9 hh
              obtain ⟨t0, t1⟩ := kb.jb.c2
              simp only [St3] at t0 t1
              have zb := kb.jb.lt
              have yA := World.block_lt_of_cell? _ _ cK
              have yH := World.block_lt_of_cell? _ _ cH9
              go_upto_region 27 with fail
              go_cut [175] from 155 to 200 (fun s175 W => ∃ b : Bool, s175 = .bool b ∧ (b = true → kd = 1) ∧ Kb w bs (St3 (.slice (some ⟨gA, 0, none⟩) n cA) (.slice aO n cO) (.slice (some ⟨gH, 0, none⟩) n cH) (.slice aM m cM) (.slice aX m cX) (.slice aC k cC) n m k A M O X H C) W)
              case first =>
                by_cases hk1 : kd = 1
                · have d1 : (kd == 1) = true := by simp [hk1]
                  have d2 : decide (kd = 1) = true := decide_eq_true hk1
                  go_wp2_with fail
                  refine (yes_in 2 bs _ kb.hs (by omega)).mono ?_
                  rintro e w5 ⟨b, rfl, hd⟩
                  replace kb := kb.drawn hbs hd
                  go_wp2_with fail
                  go_meet
                  exact ⟨b, rfl, by simp [hk1], kb⟩
                · have d1 : (kd == 1) = false := by simp [hk1]
                  have d2 : decide (kd = 1) = false := decide_eq_false hk1
                  go_wp2_with fail
                  go_meet
                  exact ⟨false, rfl, fun e => by simp at e, kb⟩
              case rest =>
              clear kb cH9 cK t0 t1 zb yA yH
              obtain ⟨b, rfl, hb1, kb⟩ := hcut
              go_upto_if 175 with fail
              go_cut [25] from 155 to 200 (fun s25 W => ∃ c : Int, s25 = .int .i64 c ∧ (0 ≤ c ∧ c ≤ h) ∧ (kd = 2 → c = h) ∧ Kb w bs (St3 (.slice (some ⟨gA, 0, none⟩) n cA) (.slice aO n cO) (.slice (some ⟨gH, 0, none⟩) n cH) (.slice aM m cM) (.slice aX m cX) (.slice aC k cC) n m k A M O X H C) W)
              case first =>
                cases b
                · go_wp2_with fail
                  go_meet
                  exact ⟨h, rfl, ⟨hb0.1, Int.le_refl _⟩, fun _ => rfl, kb⟩
                · have hk1 := hb1 rfl
                  have p1 : IntKind.i64.wrap (2 * wd) = 2 * wd := IntWalk.i64_in _ (by omega)
                  have p2 : IntKind.i64.wrap (2 * wd + 1) = 2 * wd + 1 := IntWalk.i64_in _ (by omega)
                  obtain ⟨u, hu⟩ : ∃ u, min h (2 * wd + 1) = u := ⟨_, rfl⟩
                  have hu2 : 0 ≤ u ∧ u ≤ h := by omega
                  have p3 : IntKind.i64.wrap (u + 1) = u + 1 := IntWalk.i64_in _ (by omega)
                  go_wp2_with fail
                  refine (below_in (u + 1) bs _ kb.hs (by omega)).mono ?_
                  rintro e w5 ⟨v, rfl, v0, v1, hd⟩
                  replace kb := kb.drawn hbs hd
                  have v2 : v ≤ h := by omega
                  have p4 : IntKind.i64.wrap (h - v) = h - v := IntWalk.i64_in _ (by omega)
                  go_wp2_with fail
                  go_meet
                  exact ⟨h - v, rfl, ⟨by omega, by omega⟩, fun e => by omega, kb⟩
              case rest =>
              clear kb hb1
              obtain ⟨c, rfl, hc, hc2, kb⟩ := hcut
              go_upto_region 29 with fail
              go_cut [] from 155 to 200 (fun W => ∃ x y : Int, (0 ≤ x ∧ x ≤ c) ∧ (c ≤ y ∧ y ≤ c + wd) ∧ Kb w bs (St3 (.slice (some ⟨gA, 0, none⟩) n cA) (.slice aO n cO) (.slice (some ⟨gH, 0, none⟩) n cH) (.slice aM m cM) (.slice aX m cX) (.slice aC k cC) n m k (upAc A k ⟨(A k).nm, (A k).ki, (A k).o0, (A k).o1, x, y⟩) M O X H C) W)
              case first =>
                (
 refine region_phs (P1 := (fun W => Blk W (w.heap.size + 1 + 1) #[.slice (some ⟨gA, 0, none⟩) n cA, .slice aM m cM] 44)) (N1 := 9) (P2 := (fun _ => True)) (N2 := 9) (S2 := (fun W => Drawn bs w W)) (by kernel_rfl) ?_ (fun hH => ?_)
 · (try dsimp only); (exact ⟨(kb.drew hbs).jb, trivial, (kb.drew hbs).fx.2.2.2⟩)
 (try dsimp only at hH)
 refine tkX 0 (some 186) ?_ phC (ph0 hH) ?_ ?_
 rotate_left
 · intro w _; go_simp; (try with_reducible rfl)
 (try simp only [cq])
 refine tkX 1 (some 187) ?_ (phA (by kernel_rfl) (by kernel_rfl)) (ph0 hH) ?_ ?_
 rotate_left
 · intro w hS0; (try dsimp only at hS0); obtain ⟨kJ, _, _⟩ := hS0; have t0 := kJ.cell 0 rfl; have yJ := kJ.lt;go_simp; (try with_reducible rfl)
 (try simp only [cq])
 refine tkX 2 (some 188) ?_ phC (ph0 hH) ?_ ?_
 rotate_left
 · intro w _; go_simp; (try with_reducible rfl)
 (try simp only [cq])
 refine tkX 3 (some 189) ?_ phC (ph0 hH) ?_ ?_
 rotate_left
 · intro w _; go_simp; (try with_reducible rfl)
 (try simp only [cq])
 refine tkX 4 (some 190) ?_ phC (ph0 hH) ?_ ?_
 rotate_left
 · intro w _; go_simp; (try with_reducible rfl)
 (try simp only [cq])
 refine tkX 5 (some 191) ?_ phC (ph0 hH) ?_ ?_
 rotate_left
 · intro w _; go_simp; (try with_reducible rfl)
 (try simp only [cq])
 refine wpAnyP_ready (rs := [6]) (by kernel_rfl) (by simp) ?_
 refine arcP0 (some 192) (fun K hK => ?_) AllReadyP.nil
 go_simp
 (refine (around_in c wd bs _ hH.2.2.seed (by omega) (by omega) (by omega) (by omega)).mono ?_; rintro e w' ⟨x, y, rfl, a0, a1, a2, a3, hd⟩; replace kb := kb.drawn hbs (by first | exact hd | exact (Drawn.drew kb.hs).trans hd); clear hd)
 refine hK.out _ _ ?_ ?_
 · (try dsimp only); exact ⟨kb.jb, trivial, kb.fx.2.2.2⟩
 (try clear hH)
 intro hH
 (try dsimp only at hH)
 clear hK K
 (try simp only [cq])
 refine tkX 7 (some 193) ?_ phC (ph0 hH) ?_ ?_
 rotate_left
 · intro w _; go_simp; (try with_reducible rfl)
 (try simp only [cq])
 refine tkX 8 (some 194) ?_ phC (ph0 hH) ?_ ?_
 rotate_left
 · intro w _; go_simp; (try with_reducible rfl)
 (try simp only [cq])
 refine wpAnyP_ready (rs := [9]) (by kernel_rfl) (by simp) ?_
 refine arcP2 none (fun K hK => ?_) AllReadyP.nil
 obtain ⟨-, r0, r1⟩ := row_ac kb.rA hlt
 have f0 := (row_free' kb.rA).2.2 (k * 6 + 4)
 have f1 := (row_free' kb.rA).2.2 (k * 6 + 4 + 1)
 have zRA := (row_free' kb.rA).2.1
 have KB := Lib.hid (kb.putA hbs rfl rfl hlt x y)
 clear kb
 go_simp
 refine hK.out _ _ ?_ ?_
 · (try dsimp only); exact KB.out.fx.2.2.2
 (try clear hH)
 intro hH
 (try dsimp only at hH)
 clear hK K
 (try simp only [cq])
 refine wpAnyP_done (by kernel_rfl) ?_ _
 (try dsimp only [Act.put])
 (try simp only [cq])
 clear hH r0 r1 f0 f1 zRA
 go_wp2_with fail
 go_meet
 exact ⟨x, y, ⟨a0, a1⟩, ⟨a2, a3⟩, KB.out⟩ )
              case rest =>
              clear kb
              obtain ⟨x, y, hx, hy, kb⟩ := hcut
              replace ha : Ap (St3 (.slice (some ⟨gA, 0, none⟩) n cA) (.slice aO n cO) (.slice (some ⟨gH, 0, none⟩) n cH) (.slice aM m cM) (.slice aX m cX) (.slice aC k cC) n m k (upAc A k ⟨(A k).nm, (A k).ki, (A k).o0, (A k).o1, x, y⟩) M O X H C) := ⟨ha.oc, ha.ox, ha.oh, ha.cx, ha.ch, ha.xh⟩
              have r1 := kb.jt.cell 1 rfl
              simp only [St3] at r1
              have zt := kb.jt.lt
              have zkb := kb.sz
              go_wp2_with (at_builtin; refine wpList_append_lies _ rfl _ _ 22 rfl (w.heap.size + 5) 3 iI (.int .i64 0) 1 8 Try.underlying22 hiI hz0iI hz1iI hz2iI rfl (by decide) _ k _ rfl ((kb.alloc hbs (.cells #[.int .i64 c] 3)).rC) ⟨wc.heap.size, 0, none⟩ 1 1 [.int .i64 c] rfl rfl (newsN _ _ _) (one1 _) (by omega) (by unfold maxLen; omega) (by omega) (by simp; omega) _ rfl ?_; intro gC cC2 w9 hown hgrow hat hlt9; have ha2 := (kb.alloc hbs (.cells #[.int .i64 c] 3)).apC ha (n := k + 1) (c := cC2) (D := upF C k c) hat; have kb2 := (kb.alloc hbs (.cells #[.int .i64 c] 3)).growC ha hbs hgrow (D := upF C k c) (by rw [cat_upI]; exact hown); have q1 := kb2.jt.cell 1 rfl; have f1 := kb2.jt.free 1; have zt2 := kb2.jt.lt; have KB := Lib.hid (kb2.setC hbs (.slice (some ⟨gC, 0, none⟩) (k + 1) cC2)); clear kb2 hown hgrow hat hlt9)
              clear kb r1 zt zkb
              go_roundw
              case rel => exact ⟨k + 1, some ⟨gC, 0, none⟩, cC2, _, _, by go_num, by omega, KB.out, ⟨ha2.oc, ha2.ox, ha2.oh, ha2.cx, ha2.ch, ha2.xh⟩, HB3.out.more hlt c x y (by rw [Hh.out]; exact hc) (by rw [Hh.out]; exact hb0.2) (by rw [HKD.out, Hh.out]; exact hc2) hx hy⟩
              case measure => simp [intOf]; omega
            · obtain rfl : k = n := by omega
              have hU := HUP.out A C HB3.out
              have HU := Lib.hid hU
              clear hU HUP HQ HB3
              obtain ⟨t0, t1⟩ := kb.jb.c2
              simp only [St3] at t0 t1
              have s0 := kb.jt.cell 0 rfl
              have s1 := kb.jt.cell 1 rfl
              have s2 := kb.jt.cell 2 rfl
              simp only [St3] at s0 s1 s2
              have zb := kb.jb.lt
              have zt := kb.jt.lt
              go_upto_region 31 with fail
              (
 refine wp_region_held_drew (S := (fun W => Blk W (w.heap.size + 1 + 1) #[.slice (some ⟨gA, 0, none⟩) k cA, .slice aM m cM] 44 ∧ Blk W (w.heap.size + 1 + 1 + 1) #[.slice aO k cO, .slice aC k cC, .slice aX m cX] 46)) (by kernel_rfl) ?_ (fun hH => ?_)
 · (try dsimp only); (exact ⟨(kb.drew hbs).jb, (kb.drew hbs).jt⟩)
 refine tkY 0 (some 201) ?_ ?_ ?_
 rotate_left
 · intro w hS0; (try dsimp only at hS0); obtain ⟨kJ, kT⟩ := hS0; obtain ⟨t0, t1⟩ := kJ.c2; have s0 := kT.cell 0 rfl; have s1 := kT.cell 1 rfl; have s2 := kT.cell 2 rfl; have yJ := kJ.lt; have yT := kT.lt;go_simp; (try with_reducible rfl)
 (try simp only [cq])
 refine tkY 1 (some 202) ?_ ?_ ?_
 rotate_left
 · intro w hS0; (try dsimp only at hS0); obtain ⟨kJ, kT⟩ := hS0; obtain ⟨t0, t1⟩ := kJ.c2; have s0 := kT.cell 0 rfl; have s1 := kT.cell 1 rfl; have s2 := kT.cell 2 rfl; have yJ := kJ.lt; have yT := kT.lt;go_simp; (try with_reducible rfl)
 (try simp only [cq])
 refine wpAnyH_ready (rs := [2]) (by kernel_rfl) (by simp) ?_
 refine arc1 none fun K hK => ?_
 obtain ⟨r0, r1⟩ := kb.fx.1.c2
 have f0 := kb.fx.1.free 0
 have f1 := kb.fx.1.free 1
 have zR := kb.fx.1.lt
 have p0 := kb.fx.2.1.cell 0 rfl
 have p1 := kb.fx.2.1.cell 1 rfl
 have p2 := kb.fx.2.1.cell 2 rfl
 have h0 := kb.fx.2.1.free 0
 have h1 := kb.fx.2.1.free 1
 have h2 := kb.fx.2.1.free 2
 have zS := kb.fx.2.1.lt
 have kd9 := kb.drew hbs
 obtain ⟨r0', r1'⟩ := kd9.fx.1.c2
 have f0' := kd9.fx.1.free 0
 have f1' := kd9.fx.1.free 1
 have KD := Lib.hid (kb.done hbs (.slice (some ⟨gA, 0, none⟩) k cA) (.slice aM m cM) (.slice aO k cO) (.slice aC k cC) (.slice aX m cX))
 have HK := Lib.hid (And.intro kb.rA (And.intro kb.rM (And.intro kb.rO (And.intro kb.rC kb.rX))))
 have HJ := Lib.hid (And.intro ((kd9.jb.other ⟨w.heap.size, 0, none⟩ (.slice (some ⟨gA, 0, none⟩) k cA) (by show _ ≠ w.heap.size; omega)).other ⟨w.heap.size, 1, none⟩ (.slice aM m cM) (by show _ ≠ w.heap.size; omega)) ((kd9.jt.other ⟨w.heap.size, 0, none⟩ (.slice (some ⟨gA, 0, none⟩) k cA) (by show _ ≠ w.heap.size; omega)).other ⟨w.heap.size, 1, none⟩ (.slice aM m cM) (by show _ ≠ w.heap.size; omega)))
 go_simp
 refine hK.out _ _ ?_ ?_
 · exact HJ.out
 (try clear hH)
 intro hH
 clear hK K
 (try simp only [cq])
 refine wpAnyH_ready (rs := [3]) (by kernel_rfl) (by simp) ?_
 refine arc1 none fun K hK => ?_
 have HJ2 := Lib.hid (And.intro (((HJ.out.1.other ⟨w.heap.size + 1, 0, none⟩ (.slice aO k cO) (by show _ ≠ w.heap.size + 1; omega)).other ⟨w.heap.size + 1, 1, none⟩ (.slice aC k cC) (by show _ ≠ w.heap.size + 1; omega)).other ⟨w.heap.size + 1, 2, none⟩ (.slice aX m cX) (by show _ ≠ w.heap.size + 1; omega)) (((HJ.out.2.other ⟨w.heap.size + 1, 0, none⟩ (.slice aO k cO) (by show _ ≠ w.heap.size + 1; omega)).other ⟨w.heap.size + 1, 1, none⟩ (.slice aC k cC) (by show _ ≠ w.heap.size + 1; omega)).other ⟨w.heap.size + 1, 2, none⟩ (.slice aX m cX) (by show _ ≠ w.heap.size + 1; omega)))
 go_simp
 refine hK.out _ _ ?_ ?_
 · exact HJ2.out
 (try clear hH)
 intro hH
 clear hK K
 (try simp only [cq])
 refine wpAnyH_done (by kernel_rfl) ?_ _
 (try dsimp only [Act.put])
 (try simp only [cq])
 clear hH r0 r1 f0 f1 zR p0 p1 p2 h0 h1 h2 zS HJ HJ2 r0' r1' f0' f1'
 obtain ⟨d0, d1, d2, d3⟩ := KD.out
 clear KD
 replace d0 := d0.drew
 replace d1 := d1.drew
 replace d2 := d2.trans (Drawn.drew d2.seed)
 have e1 := d3 _ _ _ _ _ HK.out.1
 have e2 := d3 _ _ _ _ _ HK.out.2.1
 have e3 := d3 _ _ _ _ _ HK.out.2.2.1
 have e4 := d3 _ _ _ _ _ HK.out.2.2.2.1
 have e5 := d3 _ _ _ _ _ HK.out.2.2.2.2
 clear d3 HK
 obtain ⟨V, hV⟩ : ∃ V, Blk.wld d0 = V := ⟨_, rfl⟩
 simp only [Blk.wld] at hV
 replace e1 := row_at_world hV e1
 replace e2 := row_at_world hV e2
 replace e3 := row_at_world hV e3
 replace e4 := row_at_world hV e4
 replace e5 := row_at_world hV e5
 rw [hV] at d0 d1 d2 ⊢
 clear hV kb
 obtain ⟨z0, z1⟩ := d0.c2
 have z2 := d1.cell 0 rfl
 have z3 := d1.cell 1 rfl
 have z4 := d1.cell 2 rfl
 clear d0 d1
 go_wp2
 exact bodyPost_ret (v := .tuple #[.agg #[.slice (some ⟨gA, 0, none⟩) k cA, .slice aM m cM], .agg #[.slice aO k cO, .slice aC k cC, .slice aX m cX]]) (by simp [results, Try.results25, go_sem, z0, z1, z2, z3, z4]) rfl ⟨k, m, A, M, O, C, X, _, _, _, _, _, rfl, ⟨by omega, by omega⟩, HU.out, ⟨e1, e2, e3, e4, e5⟩, d2⟩ )

        · obtain ⟨hj, hn2⟩ := hb9.1 rfl
          clear hb9
          have e3 : IntKind.i64.wrap ((j : Int) - 1) = ((j - 1 : Nat) : Int) := by rw [show (j : Int) - 1 = ((j - 1 : Nat) : Int) by omega]; exact IntWalk.i64_in _ (by omega)
          have e5 : IntKind.i64.wrap ((n : Int) - 1) = (n : Int) - 1 := IntWalk.i64_in _ (by omega)
          go_wp2_with fail
          refine (below_in n bs _ kb.hs (by omega)).mono ?_
          rintro e w3 ⟨f9, rfl, f0, f1, hd⟩
          replace kb := kb.drawn hbs hd
          clear hd
          replace f1 : f9 < n := by omega
          go_wp2_with fail
          refine (from_in 1 ((n : Int) - 1) bs _ kb.hs (by omega) (by omega) (by omega) (by omega)).mono ?_
          rintro e w4 ⟨d9, rfl, d0, d1, hd⟩
          replace kb := kb.drawn hbs hd
          clear hd
          replace d1 : d9 ≤ (n : Int) - 1 := by omega
          have e6 : IntKind.i64.wrap (f9 + d9) = f9 + d9 := IntWalk.i64_in _ (by omega)
          go_wp2_with fail
          refine (wrap_any (f9 + d9) n (by omega) (by omega) (by omega) (by omega) _).mono ?_
          rintro e w5 ⟨rfl, rfl⟩
          obtain ⟨m0, m1, m2⟩ := wrap_move f9 d9 n f0 f1 d0 d1
          obtain ⟨f, rfl⟩ : ∃ f : Nat, f9 = f := ⟨f9.toNat, by omega⟩
          obtain ⟨t, ht9⟩ : ∃ t : Nat, ((f : Int) + d9) % n = t := ⟨(((f : Int) + d9) % n).toNat, by omega⟩
          rw [ht9] at m0 m1 m2 ⊢
          have hfN : f < n := by omega
          have htN : t < n := by omega
          have htf : t ≠ f := by omega
          clear f0 d0 d1 m0 m2 e6 ht9
          obtain ⟨h, hh⟩ : ∃ z, H f = z := ⟨_, rfl⟩
          obtain ⟨y, hy⟩ : ∃ z, H t = z := ⟨_, rfl⟩
          have hb0 := HB.out.bd hn8 hL.1 f hfN
          have hb1 := HB.out.bd hn8 hL.1 t htN
          rw [HH.out, hh] at hb0
          rw [HH.out, hy] at hb1
          have HHf := Lib.hid (show lsn O (fun _ => 0) M X q f = h by rw [HH.out, hh])
          have HCF := Lib.hid (fun (W : World) (r : W.ownsRow (w.heap.size + 5) 3 1 (.slice (some ⟨gH, 0, none⟩) n cH) n (catC (inC H) n)) => (show W.cell? ⟨gH, f, none⟩ = some (.int .i64 h) by rw [← hh]; exact row_int r hfN))
          have HCT := Lib.hid (fun (W : World) (r : W.ownsRow (w.heap.size + 5) 3 1 (.slice (some ⟨gH, 0, none⟩) n cH) n (catC (inC H) n)) => (show W.cell? ⟨gH, t, none⟩ = some (.int .i64 y) by rw [← hy]; exact row_int r htN))
          have hfI : (f : Int) < n := f1
          have htI : (t : Int) < n := m1
          have q1 : IntKind.i64.wrap (h + 1) = h + 1 := IntWalk.i64_in _ (by omega)
          have q2 : IntKind.i64.wrap (h / 2 + 1) = h / 2 + 1 := IntWalk.i64_in _ (by omega)
          have q3 : IntKind.i64.wrap (h / 2) = h / 2 := IntWalk.i64_in _ (by omega)
          have q4 : IntKind.i64.wrap (h.tdiv 2) = h / 2 := by rw [Int.tdiv_eq_ediv_of_nonneg (by omega)]; exact q3
          go_upto_region 20 with fail
          go_cut [23] from 78 to 154 (fun s23 W => ∃ x : Int, s23 = .int .i64 x ∧ (0 ≤ x ∧ x ≤ h) ∧ Kb w bs (St2 (.slice aA n cA) (.slice aO n cO) (.slice (some ⟨gH, 0, none⟩) n cH) (.slice aM q cM) (.slice aX q cX) n q A M O X H) W)
          case first =>
            (
 refine wp_region_held_drew (S := (fun W => Kb w bs (St2 (.slice aA n cA) (.slice aO n cO) (.slice (some ⟨gH, 0, none⟩) n cH) (.slice aM q cM) (.slice aX q cX) n q A M O X H) W)) (by kernel_rfl) ?_ (fun hH => ?_)
 · (try dsimp only); (exact kb.drew hbs)
 refine tkY 0 (some 101) ?_ ?_ ?_
 rotate_left
 · intro w _; go_simp; (try with_reducible rfl)
 (try simp only [cq])
 refine tkY 1 (some 102) ?_ ?_ ?_
 rotate_left
 · intro w _; go_simp; (try with_reducible rfl)
 (try simp only [cq])
 refine tkY 2 (some 103) ?_ ?_ ?_
 rotate_left
 · intro w _; go_simp; (try with_reducible rfl)
 (try simp only [cq])
 refine tkY 3 (some 104) ?_ ?_ ?_
 rotate_left
 · intro w _; go_simp; (try with_reducible rfl)
 (try simp only [cq])
 refine tkY 4 (some 105) ?_ ?_ ?_
 rotate_left
 · intro w hS0; (try dsimp only at hS0); have cF := HCF.out _ hS0.rH; have yF := World.block_lt_of_cell? _ _ cF;go_simp; (try with_reducible rfl)
 (try simp only [cq])
 refine tkY 5 (some 106) ?_ ?_ ?_
 rotate_left
 · intro w hS0; (try dsimp only at hS0); have cF := HCF.out _ hS0.rH; have yF := World.block_lt_of_cell? _ _ cF;go_simp; (try with_reducible rfl)
 (try simp only [cq])
 refine tkY 6 (some 107) ?_ ?_ ?_
 rotate_left
 · intro w _; go_simp; (try with_reducible rfl)
 (try simp only [cq])
 refine tkY 8 (some 109) ?_ ?_ ?_
 rotate_left
 · intro w _; go_simp; (try with_reducible rfl)
 (try simp only [cq])
 refine tkY 9 (some 110) ?_ ?_ ?_
 rotate_left
 · intro w _; go_simp; (try with_reducible rfl)
 (try simp only [cq])
 refine tkY 10 (some 111) ?_ ?_ ?_
 rotate_left
 · intro w _; go_simp; (try with_reducible rfl)
 (try simp only [cq])
 refine tkY 11 (some 112) ?_ ?_ ?_
 rotate_left
 · intro w hS0; (try dsimp only at hS0); have cF := HCF.out _ hS0.rH; have yF := World.block_lt_of_cell? _ _ cF;go_simp; (try with_reducible rfl)
 (try simp only [cq])
 refine tkY 12 (some 113) ?_ ?_ ?_
 rotate_left
 · intro w hS0; (try dsimp only at hS0); have cF := HCF.out _ hS0.rH; have yF := World.block_lt_of_cell? _ _ cF;go_simp; (try with_reducible rfl)
 (try simp only [cq])
 refine tkY 13 (some 114) ?_ ?_ ?_
 rotate_left
 · intro w _; go_simp; (try with_reducible rfl)
 (try simp only [cq])
 refine tkY 14 (some 115) ?_ ?_ ?_
 rotate_left
 · intro w _; go_simp; (try with_reducible rfl)
 (try simp only [cq])
 refine wpAnyH_ready (rs := [7]) (by kernel_rfl) (by simp) ?_
 refine arc1 (some 108) fun K hK => ?_
 go_simp
 (refine (below_in (h + 1) bs _ hH.hs (by omega)).mono ?_; rintro e w' ⟨v1, rfl, a1, a2, hd⟩; replace a2 : v1 ≤ h := by omega)
 refine hK.out _ _ ?_ ?_
 · (exact hH.drawn hbs hd)
 (try clear hH); (try clear hd)
 intro hH
 clear hK K
 (try simp only [cq])
 refine wpAnyH_ready (rs := [15]) (by kernel_rfl) (by simp) ?_
 refine arc1 (some 116) fun K hK => ?_
 go_simp
 (refine (below_in (h / 2 + 1) bs _ hH.hs (by omega)).mono ?_; rintro e w' ⟨v2, rfl, b1, b2, hd⟩; replace b2 : v2 ≤ h := by omega)
 refine hK.out _ _ ?_ ?_
 · (exact hH.drawn hbs hd)
 (try clear hH); (try clear hd)
 intro hH
 clear hK K
 (try simp only [cq])
 refine wpAnyH_ready (rs := [16]) (by kernel_rfl) (by simp) ?_
 refine arc1 (some 117) fun K hK => ?_
 go_simp
 first | refine oA hK ?_ (fun hH hA => ?_) | refine oD hK ?_ (fun hH hA => ?_)
 · (first | exact hH.alloc hbs _ | exact (hH.alloc hbs _).drew hbs)
 obtain ⟨bA, hbA⟩ : ∃ b, Blk.num hA = b := ⟨_, rfl⟩
 obtain ⟨V, hV⟩ : ∃ V, Blk.wld hA = V := ⟨_, rfl⟩
 simp only [Blk.num] at hbA
 simp only [Blk.wld] at hV
 rw [hV] at hH hA ⊢
 rw [hbA] at hA ⊢
 clear hV hbA
 have kA := hA
 clear hA
 clear hK K
 (try simp only [cq])
 refine wpAnyH_ready (rs := [17]) (by kernel_rfl) (by simp) ?_
 refine arc1 (some 118) fun K hK => ?_
 go_simp
 (refine (of_in bA 0 2 2 (fun i => [v1, v2].getD i 0) bs _ hH.hs (seed_ne kA hH.hs (by decide)) (by omega) (by omega) (cells2 kA)).mono ?_; rintro e w' ⟨i, hi, rfl, hd⟩; have hx := pick2 (m := h) ⟨a1, a2⟩ ⟨b1, b2⟩ i hi; obtain ⟨x, hx9⟩ : ∃ z, [v1, v2].getD i 0 = z := ⟨_, rfl⟩; rw [hx9] at hx ⊢; clear hx9)
 refine hK.out _ _ ?_ ?_
 · (exact hH.drawn hbs hd)
 (try clear hH); (try clear hd)
 intro hH
 clear hK K
 (try simp only [cq])
 refine tkY 18 (some 23) ?_ ?_ ?_
 rotate_left
 · intro w _; go_simp; (try with_reducible rfl)
 (try simp only [cq])
 refine wpAnyH_done (by kernel_rfl) ?_ _
 (try dsimp only [Act.put])
 (try simp only [cq])
 clear kA a1 a2 b1 b2 hi
 go_wp2_with fail
 go_meet
 exact ⟨x, rfl, hx, hH⟩ )
          case rest =>
          clear kb q1 q2 q3 q4
          obtain ⟨x, rfl, ⟨x0, x1⟩, kb⟩ := hcut
          have q1 : IntKind.i64.wrap (h - x) = h - x := IntWalk.i64_in _ (by omega)
          have q2 : IntKind.i64.wrap (y + x) = y + x := IntWalk.i64_in _ (by omega)
          have HCT2 := Lib.hid (fun (W : World) (r : W.ownsRow (w.heap.size + 5) 3 1 (.slice (some ⟨gH, 0, none⟩) n cH) n (catC (inC (upF H f (h - x))) n)) => (show W.cell? ⟨gH, t, none⟩ = some (.int .i64 y) by rw [← hy, ← upF_ne H f (h - x) t htf]; exact row_int r htN))
          have HST := Lib.hid (fun lo hi : Int => (show lsn O (fun _ => 0) (upM M q ⟨f, t, lo, hi⟩) (upF X q x) (q + 1) = upF (upF H f (h - x)) t (y + x) by rw [lsn_step O M X q f t lo hi x (by omega), HH.out, hh, hy]))
          clear hh hy
          go_upto_region 21 with fail
          go_cut [] from 78 to 154 (fun W => Kb w bs (St2 (.slice aA n cA) (.slice aO n cO) (.slice (some ⟨gH, 0, none⟩) n cH) (.slice aM q cM) (.slice aX q cX) n q A M O X (upF (upF H f (h - x)) t (y + x))) W)
          case first =>
            (
 refine region_phs (P1 := (fun W => W.ownsRow (w.heap.size + 5) 3 1 (.slice (some ⟨gH, 0, none⟩) n cH) n (catC (inC H) n))) (N1 := 17) (P2 := (fun _ => True)) (N2 := 17) (S2 := (fun W => Drawn bs w W)) (by kernel_rfl) ?_ (fun hH => ?_)
 · (try dsimp only); (exact ⟨(kb.drew hbs).rH, trivial, (kb.drew hbs).fx.2.2.2⟩)
 (try dsimp only at hH)
 refine tkX 0 (some 119) ?_ phC (ph0 hH) ?_ ?_
 rotate_left
 · intro w _; go_simp; (try with_reducible rfl)
 (try simp only [cq])
 refine tkX 1 (some 120) ?_ phC (ph0 hH) ?_ ?_
 rotate_left
 · intro w _; go_simp; (try with_reducible rfl)
 (try simp only [cq])
 refine tkX 2 (some 121) ?_ phC (ph0 hH) ?_ ?_
 rotate_left
 · intro w _; go_simp; (try with_reducible rfl)
 (try simp only [cq])
 refine tkX 3 (some 122) ?_ phC (ph0 hH) ?_ ?_
 rotate_left
 · intro w _; go_simp; (try with_reducible rfl)
 (try simp only [cq])
 refine tkX 4 (some 123) ?_ phC (ph0 hH) ?_ ?_
 rotate_left
 · intro w _; go_simp; (try with_reducible rfl)
 (try simp only [cq])
 refine tkX 5 (some 124) ?_ phC (ph0 hH) ?_ ?_
 rotate_left
 · intro w _; go_simp; (try with_reducible rfl)
 (try simp only [cq])
 refine tkX 6 (some 125) ?_ phC (ph0 hH) ?_ ?_
 rotate_left
 · intro w _; go_simp; (try with_reducible rfl)
 (try simp only [cq])
 refine tkX 7 (some 126) ?_ (phA (by kernel_rfl) (by kernel_rfl)) (ph0 hH) ?_ ?_
 rotate_left
 · intro w hS0; (try dsimp only at hS0); obtain ⟨kR, _, _⟩ := hS0; have cF := HCF.out _ kR; have cT := HCT.out _ kR; have yF := World.block_lt_of_cell? _ _ cF;go_simp; (try with_reducible rfl)
 (try simp only [cq])
 refine tkX 8 (some 127) ?_ phC (ph0 hH) ?_ ?_
 rotate_left
 · intro w _; go_simp; (try with_reducible rfl)
 (try simp only [cq])
 refine tkX 9 (some 128) ?_ phC (ph0 hH) ?_ ?_
 rotate_left
 · intro w _; go_simp; (try with_reducible rfl)
 (try simp only [cq])
 refine tkX 10 (some 129) ?_ phC (ph0 hH) ?_ ?_
 rotate_left
 · intro w _; go_simp; (try with_reducible rfl)
 (try simp only [cq])
 refine tkX 11 (some 130) ?_ phC (ph0 hH) ?_ ?_
 rotate_left
 · intro w _; go_simp; (try with_reducible rfl)
 (try simp only [cq])
 refine tkX 12 (some 131) ?_ phC (ph0 hH) ?_ ?_
 rotate_left
 · intro w _; go_simp; (try with_reducible rfl)
 (try simp only [cq])
 refine tkX 13 (some 132) ?_ (phA (by kernel_rfl) (by kernel_rfl)) (ph0 hH) ?_ ?_
 rotate_left
 · intro w hS0; (try dsimp only at hS0); obtain ⟨kR, _, _⟩ := hS0; have cF := HCF.out _ kR; have cT := HCT.out _ kR; have yF := World.block_lt_of_cell? _ _ cF;go_simp; (try with_reducible rfl)
 (try simp only [cq])
 refine tkX 14 (some 133) ?_ phC (ph0 hH) ?_ ?_
 rotate_left
 · intro w _; go_simp; (try with_reducible rfl)
 (try simp only [cq])
 refine tkX 15 (some 134) ?_ phC (ph0 hH) ?_ ?_
 rotate_left
 · intro w _; go_simp; (try with_reducible rfl)
 (try simp only [cq])
 refine tkX 16 (some 135) ?_ phC (ph0 hH) ?_ ?_
 rotate_left
 · intro w _; go_simp; (try with_reducible rfl)
 (try simp only [cq])
 refine wpAnyP_ready (rs := [17]) (by kernel_rfl) (by simp) ?_
 refine arcP2 none (fun K hK => ?_) AllReadyP.nil
 have cF := HCF.out _ hH.1
 have fF := (row_free' hH.1).2.2 f
 have yF := World.block_lt_of_cell? _ _ cF
 have cT := HCT.out _ kb.rH
 have fT := (row_free' kb.rH).2.2 t
 have KB := Lib.hid ((kb.drew hbs).putH ha hbs rfl rfl hfN (h - x))
 go_simp
 refine hK.out _ _ ?_ ?_
 · (try dsimp only); exact KB.out.fx.2.2.2
 (try clear hH)
 intro hH
 (try dsimp only at hH)
 clear hK K
 (try simp only [cq])
 refine tkX 18 (some 136) ?_ phC (ph2 hH (by kernel_rfl) (by kernel_rfl)) ?_ ?_
 rotate_left
 · intro w _; go_simp; (try with_reducible rfl)
 (try simp only [cq])
 refine wpAnyP_ready (rs := [19]) (by kernel_rfl) (by simp) ?_
 refine arcP2 none (fun K hK => ?_) AllReadyP.nil
 clear cF fF
 have KB2 := Lib.hid (KB.out.putH ⟨ha.oc, ha.ox, ha.oh, ha.cx, ha.ch, ha.xh⟩ hbs rfl rfl htN (y + x))
 go_simp
 refine hK.out _ _ ?_ ?_
 · (try dsimp only); exact KB2.out.fx.2.2.2
 (try clear hH)
 intro hH
 (try dsimp only at hH)
 clear hK K
 (try simp only [cq])
 refine wpAnyP_done (by kernel_rfl) ?_ _
 (try dsimp only [Act.put])
 (try simp only [cq])
 clear cT fT yF hH KB
 go_wp2_with fail
 go_meet
 exact KB2.out )
          case rest =>
          clear kb q1 q2 HCF HCT HCT2 hfI htI
          have kb := hcut
          clear hcut
          replace ha : Ap (St2 (.slice aA n cA) (.slice aO n cO) (.slice (some ⟨gH, 0, none⟩) n cH) (.slice aM q cM) (.slice aX q cX) n q A M O X (upF (upF H f (h - x)) t (y + x))) := ⟨ha.oc, ha.ox, ha.oh, ha.cx, ha.ch, ha.xh⟩
          go_upto_region 22 with fail
          (
 refine region_phs (P1 := (fun W => Blk W (w.heap.size + 1 + 1) #[.slice aA n cA, .slice aM q cM] 44)) (N1 := 17) (P2 := (fun W => Blk W (w.heap.size + 1 + 1 + 1) #[.slice aO n cO, .slice none 0 0, .slice aX q cX] 46)) (N2 := 19) (S2 := (fun W => Drawn bs w W)) (by kernel_rfl) ?_ (fun hH => ?_)
 · (try dsimp only); (exact ⟨(kb.drew hbs).jb, (kb.drew hbs).jt, (kb.drew hbs).fx.2.2.2⟩)
 (try dsimp only at hH)
 refine tkX 0 (some 137) ?_ phC (ph0 hH) ?_ ?_
 rotate_left
 · intro w _; go_simp; (try with_reducible rfl)
 (try simp only [cq])
 refine tkX 1 (some 138) ?_ (phA (by kernel_rfl) (by kernel_rfl)) (ph0 hH) ?_ ?_
 rotate_left
 · intro w hS0; (try dsimp only at hS0); obtain ⟨kJ, _, _⟩ := hS0; have t1 := kJ.cell 1 rfl; have yJ := kJ.lt;go_simp; (try with_reducible rfl)
 (try simp only [cq])
 refine tkX 2 (some 139) ?_ phC (ph0 hH) ?_ ?_
 rotate_left
 · intro w _; go_simp; (try with_reducible rfl)
 (try simp only [cq])
 refine tkX 3 (some 140) ?_ phC (ph0 hH) ?_ ?_
 rotate_left
 · intro w _; go_simp; (try with_reducible rfl)
 (try simp only [cq])
 refine tkX 4 (some 141) ?_ phC (ph0 hH) ?_ ?_
 rotate_left
 · intro w _; go_simp; (try with_reducible rfl)
 (try simp only [cq])
 refine tkX 5 (some 142) ?_ phC (ph0 hH) ?_ ?_
 rotate_left
 · intro w _; go_simp; (try with_reducible rfl)
 (try simp only [cq])
 refine tkX 6 (some 143) ?_ phC (ph0 hH) ?_ ?_
 rotate_left
 · intro w _; go_simp; (try with_reducible rfl)
 (try simp only [cq])
 refine tkX 11 (some 148) ?_ phC (ph0 hH) ?_ ?_
 rotate_left
 · intro w _; go_simp; (try with_reducible rfl)
 (try simp only [cq])
 refine tkX 12 (some 149) ?_ (phB (by kernel_rfl)) (ph0 hH) ?_ ?_
 rotate_left
 · intro w hS0; (try dsimp only at hS0); obtain ⟨kJ, _⟩ := hS0; have t1 := kJ.cell 2 rfl; have yJ := kJ.lt;go_simp; (try with_reducible rfl)
 (try simp only [cq])
 refine tkX 13 (some 150) ?_ phC (ph0 hH) ?_ ?_
 rotate_left
 · intro w _; go_simp; (try with_reducible rfl)
 (try simp only [cq])
 refine wpAnyP_ready (rs := [7, 14]) (by kernel_rfl) (by simp) ?_
 refine arcP0 (some 144) (fun K hK => ?_) ?_
 {
 go_simp
 (refine (around_in x wd bs _ hH.2.2.seed (by omega) (by omega) (by omega) (by omega)).mono ?_; rintro e w' ⟨lo, hi, rfl, a0, a1, a2, a3, hd⟩; (try replace kb14 := hd.blk kb14 (seed_ne kb14 kb.hs (by decide))); replace kb := kb.drawn hbs (by first | exact hd | exact (Drawn.drew kb.hs).trans hd); clear hd)
 refine hK.out _ _ ?_ ?_
 · (try dsimp only); exact ⟨kb.jb, kb.jt, kb.fx.2.2.2⟩
 (try clear hH)
 intro hH
 (try dsimp only at hH)
 clear hK K
 (try simp only [cq])
 refine tkX 8 (some 145) ?_ phC (ph0 hH) ?_ ?_
 rotate_left
 · intro w _; go_simp; (try with_reducible rfl)
 (try simp only [cq])
 refine wpAnyP_ready (rs := [9, 14]) (by kernel_rfl) (by simp) ?_
 refine arcP0 (some 146) (fun K hK => ?_) ?_
 {
 go_simp
 first | refine oA hK ?_ (fun hH hA => ?_) | refine oD hK ?_ (fun hH hA => ?_)
 · (try dsimp only); (first | exact ⟨(kb.alloc hbs _).jb, (kb.alloc hbs _).jt, (kb.alloc hbs _).fx.2.2.2⟩ | exact ⟨((kb.alloc hbs _).drew hbs).jb, ((kb.alloc hbs _).drew hbs).jt, ((kb.alloc hbs _).drew hbs).fx.2.2.2⟩)
 (try dsimp only at hH)
 obtain ⟨b9, hbA⟩ : ∃ b, Blk.num hA = b := ⟨_, rfl⟩
 obtain ⟨V, hV⟩ : ∃ V, Blk.wld hA = V := ⟨_, rfl⟩
 simp only [Blk.num] at hbA
 simp only [Blk.wld] at hV
 first | replace kb := awK hV kb hbs | replace kb := awK3 hV kb hbs
 (try first | replace kb14 := awB hV kb14 | replace kb14 := awD hV kb14)
 rw [hV] at hH hA ⊢
 rw [hbA] at hA ⊢
 clear hV hbA
 have kb9 := hA
 clear hA
 clear hK K
 (try simp only [cq])
 refine wpAnyP_ready (rs := [10, 14]) (by kernel_rfl) (by simp) ?_
 refine arcP0 (some 147) (fun K hK => ?_) ?_
 {
 rw [if_pos (by rfl)]
 obtain ⟨gM, cM2, w8M, hr, hown, hgrow, hat, hlt⟩ := run_append_lies (P := Try.prog) _ 42 42 (w.heap.size + 5) 68 iM (.agg #[.int .i64 0, .int .i64 0, .int .i64 0, .int .i64 0]) 4 32 Try.underlying42 hiM hz0iM hz1iM hz2iM rfl (by decide) (.slice aM q cM) q _ kb.rM ⟨b9, 0, none⟩ 1 1 [.int .i64 f, .int .i64 t, .int .i64 lo, .int .i64 hi] rfl (news_four kb9) (one4 _ _ _ _) (by omega) (by unfold maxLen; omega) (by omega) (by have := kb.sz; omega) _ rfl
 simp only [Oper.wp, execOp, resolve, invoke, builtin, Sem.run_bind, Sem.run_pure, Result.andThen_ok, List.map_toArray, List.map_cons, List.map_nil]
 change Oper.upon _ _ _ _ _ ((Sem.run Try.prog (Builtin.append_ #[42, 42] 42 #[(.slice aM q cM), .slice (some ⟨b9, 0, none⟩) 1 1]) _).andThen _)
 rw [hr]
 
 (try replace kb14 := kb14.grown3 hgrow (blk_row_ne2 kb14 kb.rM (by decide)))
 replace kb := kb.growM hbs hgrow (D := upM M q ⟨f, t, lo, hi⟩) (by rw [cat_upM]; exact hown)
 clear hown hgrow hat hlt hr kb9
 simp only [Result.andThen_ok, Oper.upon]
 refine hK.out _ _ ?_ ?_
 · (try dsimp only); exact ⟨kb.jb, kb.jt, kb.fx.2.2.2⟩
 (try clear hH)
 intro hH
 (try dsimp only at hH)
 clear hK K
 (try simp only [cq])
 refine tkX 16 (some 153) ?_ phC (ph0 hH) ?_ ?_
 rotate_left
 · intro w _; go_simp; (try with_reducible rfl)
 (try simp only [cq])
 refine wpAnyP_ready (rs := [14]) (by kernel_rfl) (by simp) ?_
 refine arcP0 (some 151) (fun K hK => ?_) AllReadyP.nil
 go_simp
 first | refine oA hK ?_ (fun hH hA => ?_) | refine oD hK ?_ (fun hH hA => ?_)
 · (try dsimp only); (first | exact ⟨(kb.alloc hbs _).jb, (kb.alloc hbs _).jt, (kb.alloc hbs _).fx.2.2.2⟩ | exact ⟨((kb.alloc hbs _).drew hbs).jb, ((kb.alloc hbs _).drew hbs).jt, ((kb.alloc hbs _).drew hbs).fx.2.2.2⟩)
 (try dsimp only at hH)
 obtain ⟨b14, hbA⟩ : ∃ b, Blk.num hA = b := ⟨_, rfl⟩
 obtain ⟨V, hV⟩ : ∃ V, Blk.wld hA = V := ⟨_, rfl⟩
 simp only [Blk.num] at hbA
 simp only [Blk.wld] at hV
 first | replace kb := awK hV kb hbs | replace kb := awK3 hV kb hbs
 (try first | replace kb9 := awB hV kb9 | replace kb9 := awD hV kb9)
 rw [hV] at hH hA ⊢
 rw [hbA] at hA ⊢
 clear hV hbA
 have kb14 := hA
 clear hA
 clear hK K
 (try simp only [cq])
 refine wpAnyP_ready (rs := [15]) (by kernel_rfl) (by simp) ?_
 refine arcP0 (some 152) (fun K hK => ?_) AllReadyP.nil
 rw [if_pos (by rfl)]
 obtain ⟨gX, cX2, w8X, hr, hown, hgrow, hat, hlt⟩ := run_append_lies (P := Try.prog) _ 22 22 (w.heap.size + 5) 3 iI (.int .i64 0) 1 8 Try.underlying22 hiI hz0iI hz1iI hz2iI rfl (by decide) (.slice aX q cX) q _ kb.rX ⟨b14, 0, none⟩ 1 1 [.int .i64 x] rfl (news_one kb14) (one1 _) (by omega) (by unfold maxLen; omega) (by omega) (by have := kb.sz; omega) _ rfl
 simp only [Oper.wp, execOp, resolve, invoke, builtin, Sem.run_bind, Sem.run_pure, Result.andThen_ok, List.map_toArray, List.map_cons, List.map_nil]
 change Oper.upon _ _ _ _ _ ((Sem.run Try.prog (Builtin.append_ #[22, 22] 22 #[(.slice aX q cX), .slice (some ⟨b14, 0, none⟩) 1 1]) _).andThen _)
 rw [hr]
 
 have ha3 := kb.apX ⟨ha.oc, ha.ox, ha.oh, ha.cx, ha.ch, ha.xh⟩ (n := q + 1) (c := cX2) (D := upF X q x) hat
 replace kb := kb.growX ⟨ha.oc, ha.ox, ha.oh, ha.cx, ha.ch, ha.xh⟩ hbs hgrow (D := upF X q x) (by rw [cat_upI]; exact hown)
 clear hown hgrow hat hlt hr kb14
 simp only [Result.andThen_ok, Oper.upon]
 refine hK.out _ _ ?_ ?_
 · (try dsimp only); exact ⟨kb.jb, kb.jt, kb.fx.2.2.2⟩
 (try clear hH)
 intro hH
 (try dsimp only at hH)
 clear hK K
 (try simp only [cq])
 refine wpAnyP_ready (rs := [17]) (by kernel_rfl) (by simp) ?_
 refine arcP1 none (fun K hK => ?_) AllReadyP.nil
 have r1 := kb.jb.cell 1 rfl
 have f1 := kb.jb.free 1
 have zb := kb.jb.lt
 have KB := Lib.hid (kb.setM hbs (.slice (some ⟨gM, 0, none⟩) (q + 1) cM2))
 clear kb
 go_simp
 refine hK.out _ _ ?_ ?_
 · (try dsimp only); exact ⟨KB.out.jt, KB.out.fx.2.2.2⟩
 (try clear hH)
 intro hH
 (try dsimp only at hH)
 clear hK K
 (try simp only [cq])
 refine tkX 18 (some 154) ?_ phC (ph1 hH (by kernel_rfl)) ?_ ?_
 rotate_left
 · intro w _; go_simp; (try with_reducible rfl)
 (try simp only [cq])
 refine wpAnyP_ready (rs := [19]) (by kernel_rfl) (by simp) ?_
 refine arcP2 none (fun K hK => ?_) AllReadyP.nil
 clear r1 f1 zb
 have kb := KB.out
 have r2 := kb.jt.cell 2 rfl
 have f2 := kb.jt.free 2
 have zt := kb.jt.lt
 have KB2 := Lib.hid (kb.setX hbs (.slice (some ⟨gX, 0, none⟩) (q + 1) cX2))
 clear kb KB
 go_simp
 refine hK.out _ _ ?_ ?_
 · (try dsimp only); exact KB2.out.fx.2.2.2
 (try clear hH)
 intro hH
 (try dsimp only at hH)
 clear hK K
 (try simp only [cq])
 refine wpAnyP_done (by kernel_rfl) ?_ _
 (try dsimp only [Act.put])
 (try simp only [cq])
 clear hH r2 f2 zt
 go_wp2
 go_roundw
 case rel => exact ⟨q + 1, j - 1, some ⟨gM, 0, none⟩, cM2, some ⟨gX, 0, none⟩, cX2, upM M q ⟨f, t, lo, hi⟩, upF X q x, by rfl, by omega, by rw [HST.out lo hi]; exact KB2.out, ⟨ha3.oc, ha3.ox, ha3.oh, ha3.cx, ha3.ch, ha3.xh⟩, HB.out.more hn8 hL.1 f t x lo hi hfN htN htf ⟨x0, by rw [HHf.out]; exact x1⟩ ⟨a0, a1⟩ ⟨a2, a3⟩⟩
 case measure => simp [intOf]; omega
 }
 refine arcP0 (some 151) (fun K hK => ?_) ?_
 {
 go_simp
 first | refine oA hK ?_ (fun hH hA => ?_) | refine oD hK ?_ (fun hH hA => ?_)
 · (try dsimp only); (first | exact ⟨(kb.alloc hbs _).jb, (kb.alloc hbs _).jt, (kb.alloc hbs _).fx.2.2.2⟩ | exact ⟨((kb.alloc hbs _).drew hbs).jb, ((kb.alloc hbs _).drew hbs).jt, ((kb.alloc hbs _).drew hbs).fx.2.2.2⟩)
 (try dsimp only at hH)
 obtain ⟨b14, hbA⟩ : ∃ b, Blk.num hA = b := ⟨_, rfl⟩
 obtain ⟨V, hV⟩ : ∃ V, Blk.wld hA = V := ⟨_, rfl⟩
 simp only [Blk.num] at hbA
 simp only [Blk.wld] at hV
 first | replace kb := awK hV kb hbs | replace kb := awK3 hV kb hbs
 (try first | replace kb9 := awB hV kb9 | replace kb9 := awD hV kb9)
 rw [hV] at hH hA ⊢
 rw [hbA] at hA ⊢
 clear hV hbA
 have kb14 := hA
 clear hA
 clear hK K
 (try simp only [cq])
 refine wpAnyP_ready (rs := [10]) (by kernel_rfl) (by simp) ?_
 refine arcP0 (some 147) (fun K hK => ?_) AllReadyP.nil
 rw [if_pos (by rfl)]
 obtain ⟨gM, cM2, w8M, hr, hown, hgrow, hat, hlt⟩ := run_append_lies (P := Try.prog) _ 42 42 (w.heap.size + 5) 68 iM (.agg #[.int .i64 0, .int .i64 0, .int .i64 0, .int .i64 0]) 4 32 Try.underlying42 hiM hz0iM hz1iM hz2iM rfl (by decide) (.slice aM q cM) q _ kb.rM ⟨b9, 0, none⟩ 1 1 [.int .i64 f, .int .i64 t, .int .i64 lo, .int .i64 hi] rfl (news_four kb9) (one4 _ _ _ _) (by omega) (by unfold maxLen; omega) (by omega) (by have := kb.sz; omega) _ rfl
 simp only [Oper.wp, execOp, resolve, invoke, builtin, Sem.run_bind, Sem.run_pure, Result.andThen_ok, List.map_toArray, List.map_cons, List.map_nil]
 change Oper.upon _ _ _ _ _ ((Sem.run Try.prog (Builtin.append_ #[42, 42] 42 #[(.slice aM q cM), .slice (some ⟨b9, 0, none⟩) 1 1]) _).andThen _)
 rw [hr]
 
 (try replace kb14 := kb14.grown3 hgrow (blk_row_ne2 kb14 kb.rM (by decide)))
 replace kb := kb.growM hbs hgrow (D := upM M q ⟨f, t, lo, hi⟩) (by rw [cat_upM]; exact hown)
 clear hown hgrow hat hlt hr kb9
 simp only [Result.andThen_ok, Oper.upon]
 refine hK.out _ _ ?_ ?_
 · (try dsimp only); exact ⟨kb.jb, kb.jt, kb.fx.2.2.2⟩
 (try clear hH)
 intro hH
 (try dsimp only at hH)
 clear hK K
 (try simp only [cq])
 refine tkX 16 (some 153) ?_ phC (ph0 hH) ?_ ?_
 rotate_left
 · intro w _; go_simp; (try with_reducible rfl)
 (try simp only [cq])
 refine wpAnyP_ready (rs := [15]) (by kernel_rfl) (by simp) ?_
 refine arcP0 (some 152) (fun K hK => ?_) AllReadyP.nil
 rw [if_pos (by rfl)]
 obtain ⟨gX, cX2, w8X, hr, hown, hgrow, hat, hlt⟩ := run_append_lies (P := Try.prog) _ 22 22 (w.heap.size + 5) 3 iI (.int .i64 0) 1 8 Try.underlying22 hiI hz0iI hz1iI hz2iI rfl (by decide) (.slice aX q cX) q _ kb.rX ⟨b14, 0, none⟩ 1 1 [.int .i64 x] rfl (news_one kb14) (one1 _) (by omega) (by unfold maxLen; omega) (by omega) (by have := kb.sz; omega) _ rfl
 simp only [Oper.wp, execOp, resolve, invoke, builtin, Sem.run_bind, Sem.run_pure, Result.andThen_ok, List.map_toArray, List.map_cons, List.map_nil]
 change Oper.upon _ _ _ _ _ ((Sem.run Try.prog (Builtin.append_ #[22, 22] 22 #[(.slice aX q cX), .slice (some ⟨b14, 0, none⟩) 1 1]) _).andThen _)
 rw [hr]
 
 have ha3 := kb.apX ⟨ha.oc, ha.ox, ha.oh, ha.cx, ha.ch, ha.xh⟩ (n := q + 1) (c := cX2) (D := upF X q x) hat
 replace kb := kb.growX ⟨ha.oc, ha.ox, ha.oh, ha.cx, ha.ch, ha.xh⟩ hbs hgrow (D := upF X q x) (by rw [cat_upI]; exact hown)
 clear hown hgrow hat hlt hr kb14
 simp only [Result.andThen_ok, Oper.upon]
 refine hK.out _ _ ?_ ?_
 · (try dsimp only); exact ⟨kb.jb, kb.jt, kb.fx.2.2.2⟩
 (try clear hH)
 intro hH
 (try dsimp only at hH)
 clear hK K
 (try simp only [cq])
 refine wpAnyP_ready (rs := [17]) (by kernel_rfl) (by simp) ?_
 refine arcP1 none (fun K hK => ?_) AllReadyP.nil
 have r1 := kb.jb.cell 1 rfl
 have f1 := kb.jb.free 1
 have zb := kb.jb.lt
 have KB := Lib.hid (kb.setM hbs (.slice (some ⟨gM, 0, none⟩) (q + 1) cM2))
 clear kb
 go_simp
 refine hK.out _ _ ?_ ?_
 · (try dsimp only); exact ⟨KB.out.jt, KB.out.fx.2.2.2⟩
 (try clear hH)
 intro hH
 (try dsimp only at hH)
 clear hK K
 (try simp only [cq])
 refine tkX 18 (some 154) ?_ phC (ph1 hH (by kernel_rfl)) ?_ ?_
 rotate_left
 · intro w _; go_simp; (try with_reducible rfl)
 (try simp only [cq])
 refine wpAnyP_ready (rs := [19]) (by kernel_rfl) (by simp) ?_
 refine arcP2 none (fun K hK => ?_) AllReadyP.nil
 clear r1 f1 zb
 have kb := KB.out
 have r2 := kb.jt.cell 2 rfl
 have f2 := kb.jt.free 2
 have zt := kb.jt.lt
 have KB2 := Lib.hid (kb.setX hbs (.slice (some ⟨gX, 0, none⟩) (q + 1) cX2))
 clear kb KB
 go_simp
 refine hK.out _ _ ?_ ?_
 · (try dsimp only); exact KB2.out.fx.2.2.2
 (try clear hH)
 intro hH
 (try dsimp only at hH)
 clear hK K
 (try simp only [cq])
 refine wpAnyP_done (by kernel_rfl) ?_ _
 (try dsimp only [Act.put])
 (try simp only [cq])
 clear hH r2 f2 zt
 go_wp2
 go_roundw
 case rel => exact ⟨q + 1, j - 1, some ⟨gM, 0, none⟩, cM2, some ⟨gX, 0, none⟩, cX2, upM M q ⟨f, t, lo, hi⟩, upF X q x, by rfl, by omega, by rw [HST.out lo hi]; exact KB2.out, ⟨ha3.oc, ha3.ox, ha3.oh, ha3.cx, ha3.ch, ha3.xh⟩, HB.out.more hn8 hL.1 f t x lo hi hfN htN htf ⟨x0, by rw [HHf.out]; exact x1⟩ ⟨a0, a1⟩ ⟨a2, a3⟩⟩
 case measure => simp [intOf]; omega
 }
 exact AllReadyP.nil
 }
 refine arcP0 (some 151) (fun K hK => ?_) ?_
 {
 go_simp
 first | refine oA hK ?_ (fun hH hA => ?_) | refine oD hK ?_ (fun hH hA => ?_)
 · (try dsimp only); (first | exact ⟨(kb.alloc hbs _).jb, (kb.alloc hbs _).jt, (kb.alloc hbs _).fx.2.2.2⟩ | exact ⟨((kb.alloc hbs _).drew hbs).jb, ((kb.alloc hbs _).drew hbs).jt, ((kb.alloc hbs _).drew hbs).fx.2.2.2⟩)
 (try dsimp only at hH)
 obtain ⟨b14, hbA⟩ : ∃ b, Blk.num hA = b := ⟨_, rfl⟩
 obtain ⟨V, hV⟩ : ∃ V, Blk.wld hA = V := ⟨_, rfl⟩
 simp only [Blk.num] at hbA
 simp only [Blk.wld] at hV
 first | replace kb := awK hV kb hbs | replace kb := awK3 hV kb hbs
 (try first | replace kb9 := awB hV kb9 | replace kb9 := awD hV kb9)
 rw [hV] at hH hA ⊢
 rw [hbA] at hA ⊢
 clear hV hbA
 have kb14 := hA
 clear hA
 clear hK K
 (try simp only [cq])
 refine wpAnyP_ready (rs := [9]) (by kernel_rfl) (by simp) ?_
 refine arcP0 (some 146) (fun K hK => ?_) AllReadyP.nil
 go_simp
 first | refine oA hK ?_ (fun hH hA => ?_) | refine oD hK ?_ (fun hH hA => ?_)
 · (try dsimp only); (first | exact ⟨(kb.alloc hbs _).jb, (kb.alloc hbs _).jt, (kb.alloc hbs _).fx.2.2.2⟩ | exact ⟨((kb.alloc hbs _).drew hbs).jb, ((kb.alloc hbs _).drew hbs).jt, ((kb.alloc hbs _).drew hbs).fx.2.2.2⟩)
 (try dsimp only at hH)
 obtain ⟨b9, hbA⟩ : ∃ b, Blk.num hA = b := ⟨_, rfl⟩
 obtain ⟨V, hV⟩ : ∃ V, Blk.wld hA = V := ⟨_, rfl⟩
 simp only [Blk.num] at hbA
 simp only [Blk.wld] at hV
 first | replace kb := awK hV kb hbs | replace kb := awK3 hV kb hbs
 (try first | replace kb14 := awB hV kb14 | replace kb14 := awD hV kb14)
 rw [hV] at hH hA ⊢
 rw [hbA] at hA ⊢
 clear hV hbA
 have kb9 := hA
 clear hA
 clear hK K
 (try simp only [cq])
 refine wpAnyP_ready (rs := [10]) (by kernel_rfl) (by simp) ?_
 refine arcP0 (some 147) (fun K hK => ?_) AllReadyP.nil
 rw [if_pos (by rfl)]
 obtain ⟨gM, cM2, w8M, hr, hown, hgrow, hat, hlt⟩ := run_append_lies (P := Try.prog) _ 42 42 (w.heap.size + 5) 68 iM (.agg #[.int .i64 0, .int .i64 0, .int .i64 0, .int .i64 0]) 4 32 Try.underlying42 hiM hz0iM hz1iM hz2iM rfl (by decide) (.slice aM q cM) q _ kb.rM ⟨b9, 0, none⟩ 1 1 [.int .i64 f, .int .i64 t, .int .i64 lo, .int .i64 hi] rfl (news_four kb9) (one4 _ _ _ _) (by omega) (by unfold maxLen; omega) (by omega) (by have := kb.sz; omega) _ rfl
 simp only [Oper.wp, execOp, resolve, invoke, builtin, Sem.run_bind, Sem.run_pure, Result.andThen_ok, List.map_toArray, List.map_cons, List.map_nil]
 change Oper.upon _ _ _ _ _ ((Sem.run Try.prog (Builtin.append_ #[42, 42] 42 #[(.slice aM q cM), .slice (some ⟨b9, 0, none⟩) 1 1]) _).andThen _)
 rw [hr]
 
 (try replace kb14 := kb14.grown3 hgrow (blk_row_ne2 kb14 kb.rM (by decide)))
 replace kb := kb.growM hbs hgrow (D := upM M q ⟨f, t, lo, hi⟩) (by rw [cat_upM]; exact hown)
 clear hown hgrow hat hlt hr kb9
 simp only [Result.andThen_ok, Oper.upon]
 refine hK.out _ _ ?_ ?_
 · (try dsimp only); exact ⟨kb.jb, kb.jt, kb.fx.2.2.2⟩
 (try clear hH)
 intro hH
 (try dsimp only at hH)
 clear hK K
 (try simp only [cq])
 refine tkX 16 (some 153) ?_ phC (ph0 hH) ?_ ?_
 rotate_left
 · intro w _; go_simp; (try with_reducible rfl)
 (try simp only [cq])
 refine wpAnyP_ready (rs := [15]) (by kernel_rfl) (by simp) ?_
 refine arcP0 (some 152) (fun K hK => ?_) AllReadyP.nil
 rw [if_pos (by rfl)]
 obtain ⟨gX, cX2, w8X, hr, hown, hgrow, hat, hlt⟩ := run_append_lies (P := Try.prog) _ 22 22 (w.heap.size + 5) 3 iI (.int .i64 0) 1 8 Try.underlying22 hiI hz0iI hz1iI hz2iI rfl (by decide) (.slice aX q cX) q _ kb.rX ⟨b14, 0, none⟩ 1 1 [.int .i64 x] rfl (news_one kb14) (one1 _) (by omega) (by unfold maxLen; omega) (by omega) (by have := kb.sz; omega) _ rfl
 simp only [Oper.wp, execOp, resolve, invoke, builtin, Sem.run_bind, Sem.run_pure, Result.andThen_ok, List.map_toArray, List.map_cons, List.map_nil]
 change Oper.upon _ _ _ _ _ ((Sem.run Try.prog (Builtin.append_ #[22, 22] 22 #[(.slice aX q cX), .slice (some ⟨b14, 0, none⟩) 1 1]) _).andThen _)
 rw [hr]
 
 have ha3 := kb.apX ⟨ha.oc, ha.ox, ha.oh, ha.cx, ha.ch, ha.xh⟩ (n := q + 1) (c := cX2) (D := upF X q x) hat
 replace kb := kb.growX ⟨ha.oc, ha.ox, ha.oh, ha.cx, ha.ch, ha.xh⟩ hbs hgrow (D := upF X q x) (by rw [cat_upI]; exact hown)
 clear hown hgrow hat hlt hr kb14
 simp only [Result.andThen_ok, Oper.upon]
 refine hK.out _ _ ?_ ?_
 · (try dsimp only); exact ⟨kb.jb, kb.jt, kb.fx.2.2.2⟩
 (try clear hH)
 intro hH
 (try dsimp only at hH)
 clear hK K
 (try simp only [cq])
 refine wpAnyP_ready (rs := [17]) (by kernel_rfl) (by simp) ?_
 refine arcP1 none (fun K hK => ?_) AllReadyP.nil
 have r1 := kb.jb.cell 1 rfl
 have f1 := kb.jb.free 1
 have zb := kb.jb.lt
 have KB := Lib.hid (kb.setM hbs (.slice (some ⟨gM, 0, none⟩) (q + 1) cM2))
 clear kb
 go_simp
 refine hK.out _ _ ?_ ?_
 · (try dsimp only); exact ⟨KB.out.jt, KB.out.fx.2.2.2⟩
 (try clear hH)
 intro hH
 (try dsimp only at hH)
 clear hK K
 (try simp only [cq])
 refine tkX 18 (some 154) ?_ phC (ph1 hH (by kernel_rfl)) ?_ ?_
 rotate_left
 · intro w _; go_simp; (try with_reducible rfl)
 (try simp only [cq])
 refine wpAnyP_ready (rs := [19]) (by kernel_rfl) (by simp) ?_
 refine arcP2 none (fun K hK => ?_) AllReadyP.nil
 clear r1 f1 zb
 have kb := KB.out
 have r2 := kb.jt.cell 2 rfl
 have f2 := kb.jt.free 2
 have zt := kb.jt.lt
 have KB2 := Lib.hid (kb.setX hbs (.slice (some ⟨gX, 0, none⟩) (q + 1) cX2))
 clear kb KB
 go_simp
 refine hK.out _ _ ?_ ?_
 · (try dsimp only); exact KB2.out.fx.2.2.2
 (try clear hH)
 intro hH
 (try dsimp only at hH)
 clear hK K
 (try simp only [cq])
 refine wpAnyP_done (by kernel_rfl) ?_ _
 (try dsimp only [Act.put])
 (try simp only [cq])
 clear hH r2 f2 zt
 go_wp2
 go_roundw
 case rel => exact ⟨q + 1, j - 1, some ⟨gM, 0, none⟩, cM2, some ⟨gX, 0, none⟩, cX2, upM M q ⟨f, t, lo, hi⟩, upF X q x, by rfl, by omega, by rw [HST.out lo hi]; exact KB2.out, ⟨ha3.oc, ha3.ox, ha3.oh, ha3.cx, ha3.ch, ha3.xh⟩, HB.out.more hn8 hL.1 f t x lo hi hfN htN htf ⟨x0, by rw [HHf.out]; exact x1⟩ ⟨a0, a1⟩ ⟨a2, a3⟩⟩
 case measure => simp [intOf]; omega
 }
 exact AllReadyP.nil
 }
 refine arcP0 (some 151) (fun K hK => ?_) ?_
 {
 go_simp
 first | refine oA hK ?_ (fun hH hA => ?_) | refine oD hK ?_ (fun hH hA => ?_)
 · (try dsimp only); (first | exact ⟨(kb.alloc hbs _).jb, (kb.alloc hbs _).jt, (kb.alloc hbs _).fx.2.2.2⟩ | exact ⟨((kb.alloc hbs _).drew hbs).jb, ((kb.alloc hbs _).drew hbs).jt, ((kb.alloc hbs _).drew hbs).fx.2.2.2⟩)
 (try dsimp only at hH)
 obtain ⟨b14, hbA⟩ : ∃ b, Blk.num hA = b := ⟨_, rfl⟩
 obtain ⟨V, hV⟩ : ∃ V, Blk.wld hA = V := ⟨_, rfl⟩
 simp only [Blk.num] at hbA
 simp only [Blk.wld] at hV
 first | replace kb := awK hV kb hbs | replace kb := awK3 hV kb hbs
 (try first | replace kb9 := awB hV kb9 | replace kb9 := awD hV kb9)
 rw [hV] at hH hA ⊢
 rw [hbA] at hA ⊢
 clear hV hbA
 have kb14 := hA
 clear hA
 clear hK K
 (try simp only [cq])
 refine wpAnyP_ready (rs := [7]) (by kernel_rfl) (by simp) ?_
 refine arcP0 (some 144) (fun K hK => ?_) AllReadyP.nil
 go_simp
 (refine (around_in x wd bs _ hH.2.2.seed (by omega) (by omega) (by omega) (by omega)).mono ?_; rintro e w' ⟨lo, hi, rfl, a0, a1, a2, a3, hd⟩; (try replace kb14 := hd.blk kb14 (seed_ne kb14 kb.hs (by decide))); replace kb := kb.drawn hbs (by first | exact hd | exact (Drawn.drew kb.hs).trans hd); clear hd)
 refine hK.out _ _ ?_ ?_
 · (try dsimp only); exact ⟨kb.jb, kb.jt, kb.fx.2.2.2⟩
 (try clear hH)
 intro hH
 (try dsimp only at hH)
 clear hK K
 (try simp only [cq])
 refine tkX 8 (some 145) ?_ phC (ph0 hH) ?_ ?_
 rotate_left
 · intro w _; go_simp; (try with_reducible rfl)
 (try simp only [cq])
 refine wpAnyP_ready (rs := [9]) (by kernel_rfl) (by simp) ?_
 refine arcP0 (some 146) (fun K hK => ?_) AllReadyP.nil
 go_simp
 first | refine oA hK ?_ (fun hH hA => ?_) | refine oD hK ?_ (fun hH hA => ?_)
 · (try dsimp only); (first | exact ⟨(kb.alloc hbs _).jb, (kb.alloc hbs _).jt, (kb.alloc hbs _).fx.2.2.2⟩ | exact ⟨((kb.alloc hbs _).drew hbs).jb, ((kb.alloc hbs _).drew hbs).jt, ((kb.alloc hbs _).drew hbs).fx.2.2.2⟩)
 (try dsimp only at hH)
 obtain ⟨b9, hbA⟩ : ∃ b, Blk.num hA = b := ⟨_, rfl⟩
 obtain ⟨V, hV⟩ : ∃ V, Blk.wld hA = V := ⟨_, rfl⟩
 simp only [Blk.num] at hbA
 simp only [Blk.wld] at hV
 first | replace kb := awK hV kb hbs | replace kb := awK3 hV kb hbs
 (try first | replace kb14 := awB hV kb14 | replace kb14 := awD hV kb14)
 rw [hV] at hH hA ⊢
 rw [hbA] at hA ⊢
 clear hV hbA
 have kb9 := hA
 clear hA
 clear hK K
 (try simp only [cq])
 refine wpAnyP_ready (rs := [10]) (by kernel_rfl) (by simp) ?_
 refine arcP0 (some 147) (fun K hK => ?_) AllReadyP.nil
 rw [if_pos (by rfl)]
 obtain ⟨gM, cM2, w8M, hr, hown, hgrow, hat, hlt⟩ := run_append_lies (P := Try.prog) _ 42 42 (w.heap.size + 5) 68 iM (.agg #[.int .i64 0, .int .i64 0, .int .i64 0, .int .i64 0]) 4 32 Try.underlying42 hiM hz0iM hz1iM hz2iM rfl (by decide) (.slice aM q cM) q _ kb.rM ⟨b9, 0, none⟩ 1 1 [.int .i64 f, .int .i64 t, .int .i64 lo, .int .i64 hi] rfl (news_four kb9) (one4 _ _ _ _) (by omega) (by unfold maxLen; omega) (by omega) (by have := kb.sz; omega) _ rfl
 simp only [Oper.wp, execOp, resolve, invoke, builtin, Sem.run_bind, Sem.run_pure, Result.andThen_ok, List.map_toArray, List.map_cons, List.map_nil]
 change Oper.upon _ _ _ _ _ ((Sem.run Try.prog (Builtin.append_ #[42, 42] 42 #[(.slice aM q cM), .slice (some ⟨b9, 0, none⟩) 1 1]) _).andThen _)
 rw [hr]
 
 (try replace kb14 := kb14.grown3 hgrow (blk_row_ne2 kb14 kb.rM (by decide)))
 replace kb := kb.growM hbs hgrow (D := upM M q ⟨f, t, lo, hi⟩) (by rw [cat_upM]; exact hown)
 clear hown hgrow hat hlt hr kb9
 simp only [Result.andThen_ok, Oper.upon]
 refine hK.out _ _ ?_ ?_
 · (try dsimp only); exact ⟨kb.jb, kb.jt, kb.fx.2.2.2⟩
 (try clear hH)
 intro hH
 (try dsimp only at hH)
 clear hK K
 (try simp only [cq])
 refine tkX 16 (some 153) ?_ phC (ph0 hH) ?_ ?_
 rotate_left
 · intro w _; go_simp; (try with_reducible rfl)
 (try simp only [cq])
 refine wpAnyP_ready (rs := [15]) (by kernel_rfl) (by simp) ?_
 refine arcP0 (some 152) (fun K hK => ?_) AllReadyP.nil
 rw [if_pos (by rfl)]
 obtain ⟨gX, cX2, w8X, hr, hown, hgrow, hat, hlt⟩ := run_append_lies (P := Try.prog) _ 22 22 (w.heap.size + 5) 3 iI (.int .i64 0) 1 8 Try.underlying22 hiI hz0iI hz1iI hz2iI rfl (by decide) (.slice aX q cX) q _ kb.rX ⟨b14, 0, none⟩ 1 1 [.int .i64 x] rfl (news_one kb14) (one1 _) (by omega) (by unfold maxLen; omega) (by omega) (by have := kb.sz; omega) _ rfl
 simp only [Oper.wp, execOp, resolve, invoke, builtin, Sem.run_bind, Sem.run_pure, Result.andThen_ok, List.map_toArray, List.map_cons, List.map_nil]
 change Oper.upon _ _ _ _ _ ((Sem.run Try.prog (Builtin.append_ #[22, 22] 22 #[(.slice aX q cX), .slice (some ⟨b14, 0, none⟩) 1 1]) _).andThen _)
 rw [hr]
 
 have ha3 := kb.apX ⟨ha.oc, ha.ox, ha.oh, ha.cx, ha.ch, ha.xh⟩ (n := q + 1) (c := cX2) (D := upF X q x) hat
 replace kb := kb.growX ⟨ha.oc, ha.ox, ha.oh, ha.cx, ha.ch, ha.xh⟩ hbs hgrow (D := upF X q x) (by rw [cat_upI]; exact hown)
 clear hown hgrow hat hlt hr kb14
 simp only [Result.andThen_ok, Oper.upon]
 refine hK.out _ _ ?_ ?_
 · (try dsimp only); exact ⟨kb.jb, kb.jt, kb.fx.2.2.2⟩
 (try clear hH)
 intro hH
 (try dsimp only at hH)
 clear hK K
 (try simp only [cq])
 refine wpAnyP_ready (rs := [17]) (by kernel_rfl) (by simp) ?_
 refine arcP1 none (fun K hK => ?_) AllReadyP.nil
 have r1 := kb.jb.cell 1 rfl
 have f1 := kb.jb.free 1
 have zb := kb.jb.lt
 have KB := Lib.hid (kb.setM hbs (.slice (some ⟨gM, 0, none⟩) (q + 1) cM2))
 clear kb
 go_simp
 refine hK.out _ _ ?_ ?_
 · (try dsimp only); exact ⟨KB.out.jt, KB.out.fx.2.2.2⟩
 (try clear hH)
 intro hH
 (try dsimp only at hH)
 clear hK K
 (try simp only [cq])
 refine tkX 18 (some 154) ?_ phC (ph1 hH (by kernel_rfl)) ?_ ?_
 rotate_left
 · intro w _; go_simp; (try with_reducible rfl)
 (try simp only [cq])
 refine wpAnyP_ready (rs := [19]) (by kernel_rfl) (by simp) ?_
 refine arcP2 none (fun K hK => ?_) AllReadyP.nil
 clear r1 f1 zb
 have kb := KB.out
 have r2 := kb.jt.cell 2 rfl
 have f2 := kb.jt.free 2
 have zt := kb.jt.lt
 have KB2 := Lib.hid (kb.setX hbs (.slice (some ⟨gX, 0, none⟩) (q + 1) cX2))
 clear kb KB
 go_simp
 refine hK.out _ _ ?_ ?_
 · (try dsimp only); exact KB2.out.fx.2.2.2
 (try clear hH)
 intro hH
 (try dsimp only at hH)
 clear hK K
 (try simp only [cq])
 refine wpAnyP_done (by kernel_rfl) ?_ _
 (try dsimp only [Act.put])
 (try simp only [cq])
 clear hH r2 f2 zt
 go_wp2
 go_roundw
 case rel => exact ⟨q + 1, j - 1, some ⟨gM, 0, none⟩, cM2, some ⟨gX, 0, none⟩, cX2, upM M q ⟨f, t, lo, hi⟩, upF X q x, by rfl, by omega, by rw [HST.out lo hi]; exact KB2.out, ⟨ha3.oc, ha3.ox, ha3.oh, ha3.cx, ha3.ch, ha3.xh⟩, HB.out.more hn8 hL.1 f t x lo hi hfN htN htf ⟨x0, by rw [HHf.out]; exact x1⟩ ⟨a0, a1⟩ ⟨a2, a3⟩⟩
 case measure => simp [intOf]; omega
 }
 exact AllReadyP.nil )
    · have hjI : (0 : Int) < (j : Int) := by omega
      have hk8 : k < 8 := by omega
      have hkI : (k : Int) < 8 := by omega
      have e3 : IntKind.i64.wrap ((j : Int) - 1) = ((j - 1 : Nat) : Int) := by rw [show (j : Int) - 1 = ((j - 1 : Nat) : Int) by omega]; exact IntWalk.i64_in _ (by omega)
      have e4 : IntKind.i64.wrap (L + 1) = L + 1 := IntWalk.i64_in _ (by omega)
      obtain ⟨t0, t1⟩ := kb.jb.c2
      simp only [St1] at t0 t1
      have zb := kb.jb.lt
      go_wp2_with fail
      clear t0 t1 zb
      refine (yes_in 3 bs _ kb.hs (by omega)).mono ?_
      rintro e w2 ⟨b, rfl, hd⟩
      replace kb := kb.drawn hbs hd
      clear hd
      go_upto_if 41 with fail
      go_cut [18] from 33 to 73 (fun s18 W => ∃ kd : Int, s18 = .int .i64 kd ∧ (kd = 1 ∨ kd = 2) ∧ W = w2)
      case first =>
        cases b
        · go_wp2_with fail
          go_meet
          exact ⟨1, rfl, .inl rfl, rfl⟩
        · go_wp2_with fail
          go_meet
          exact ⟨2, rfl, .inr rfl, rfl⟩
      case rest =>
      obtain ⟨kd, rfl, hkd, rfl⟩ := hcut
      go_wp2_with fail
      refine (below_in (L + 1) bs _ kb.hs (by omega)).mono ?_
      rintro e w3 ⟨v, rfl, v0, v1, hd⟩
      replace kb := kb.drawn hbs hd
      clear hd
      have kq := Blk.new w3 #[.int .i64 0, .int .i64 v] 3
      have zq := kb.sz
      replace kb := kb.alloc hbs (.cells #[.int .i64 0, .int .i64 v] 3)
      go_wp2_with fail
      obtain ⟨V, hV⟩ : ∃ V, Blk.wld kq = V := ⟨_, rfl⟩
      simp only [Blk.wld] at hV
      rw [hV] at kq kb ⊢
      clear hV
      refine (of_in w3.heap.size 0 2 2 (fun i => [0, v].getD i 0) bs _ kb.hs (by omega) (by omega) (by omega) (cells2 kq)).mono ?_
      rintro e w4 ⟨i, hi, rfl, hd⟩
      replace kb := kb.drawn hbs hd
      have hn := pick2 (x := 0) (y := v) (m := L) (by omega) (by omega) i hi
      obtain ⟨n, hn9⟩ : ∃ z, [0, v].getD i 0 = z := ⟨_, rfl⟩
      rw [hn9] at hn ⊢
      obtain ⟨n0, n1⟩ := hn
      clear hd kq zq hn9 v0 v1 hi
      go_upto_region 13 with fail
      go_cut [] from 33 to 73 (fun W => ∃ (gA cA2 : Nat) (x y : Int), (0 ≤ x ∧ x ≤ n) ∧ (n ≤ y ∧ y ≤ n + wd) ∧ Kb w bs (St1 (.slice (some ⟨gA, 0, none⟩) (k + 1) cA2) (.slice aO k cO) (.slice aH k cH) (k + 1) k (upAc A k ⟨nmN k, kd, x, y, 0, 0⟩) O O) W)
      case first =>
        (
 refine region_phs (P1 := (fun W => Blk W (w.heap.size + 1 + 1) #[.slice aA k cA, .slice none 0 0] 44 ∧ Blk W (w.heap.size + 1 + 1 + 1 + 1) #[.string ⟨#[114, 97, 99, 107]⟩, .string ⟨#[99, 97, 109, 112]⟩, .string ⟨#[103, 114, 111, 117, 110, 100]⟩, .string ⟨#[116, 114, 117, 99, 107]⟩, .string ⟨#[109, 105, 110, 101]⟩, .string ⟨#[97]⟩, .string ⟨#[97, 98, 99, 100, 101, 102, 103, 104]⟩, .string ⟨#[122]⟩] 9)) (N1 := 15) (P2 := (fun _ => True)) (N2 := 15) (S2 := (fun W => Drawn bs w W)) (by kernel_rfl) ?_ (fun hH => ?_)
 · (try dsimp only); (exact ⟨⟨(kb.drew hbs).jb, (kb.drew hbs).fx.2.2.1⟩, trivial, (kb.drew hbs).fx.2.2.2⟩)
 (try dsimp only at hH)
 refine tkX 0 (some 49) ?_ phC (ph0 hH) ?_ ?_
 rotate_left
 · intro w _; go_simp; (try with_reducible rfl)
 (try simp only [cq])
 refine tkX 1 (some 50) ?_ (phA (by kernel_rfl) (by kernel_rfl)) (ph0 hH) ?_ ?_
 rotate_left
 · intro w hS0; (try dsimp only at hS0); obtain ⟨⟨kJ, kN⟩, _, _⟩ := hS0; obtain ⟨t0, t1⟩ := kJ.c2; have cN := nm_cell kN k hk8; have yJ := kJ.lt; have yN := kN.lt;go_simp; (try with_reducible rfl)
 (try simp only [cq])
 refine tkX 2 (some 51) ?_ phC (ph0 hH) ?_ ?_
 rotate_left
 · intro w _; go_simp; (try with_reducible rfl)
 (try simp only [cq])
 refine tkX 3 (some 52) ?_ phC (ph0 hH) ?_ ?_
 rotate_left
 · intro w _; go_simp; (try with_reducible rfl)
 (try simp only [cq])
 refine tkX 4 (some 53) ?_ phC (ph0 hH) ?_ ?_
 rotate_left
 · intro w _; go_simp; (try with_reducible rfl)
 (try simp only [cq])
 refine tkX 5 (some 54) ?_ (phA (by kernel_rfl) (by kernel_rfl)) (ph0 hH) ?_ ?_
 rotate_left
 · intro w hS0; (try dsimp only at hS0); obtain ⟨⟨kJ, kN⟩, _, _⟩ := hS0; obtain ⟨t0, t1⟩ := kJ.c2; have cN := nm_cell kN k hk8; have yJ := kJ.lt; have yN := kN.lt;go_simp; (try with_reducible rfl)
 (try simp only [cq])
 refine tkX 6 (some 55) ?_ phC (ph0 hH) ?_ ?_
 rotate_left
 · intro w _; go_simp; (try with_reducible rfl)
 (try simp only [cq])
 refine tkX 7 (some 56) ?_ phC (ph0 hH) ?_ ?_
 rotate_left
 · intro w _; go_simp; (try with_reducible rfl)
 (try simp only [cq])
 refine tkX 8 (some 57) ?_ phC (ph0 hH) ?_ ?_
 rotate_left
 · intro w _; go_simp; (try with_reducible rfl)
 (try simp only [cq])
 refine tkX 9 (some 58) ?_ phC (ph0 hH) ?_ ?_
 rotate_left
 · intro w _; go_simp; (try with_reducible rfl)
 (try simp only [cq])
 refine wpAnyP_ready (rs := [10]) (by kernel_rfl) (by simp) ?_
 refine arcP0 (some 59) (fun K hK => ?_) AllReadyP.nil
 go_simp
 (refine (around_in n wd bs _ hH.2.2.seed (by omega) (by omega) (by omega) (by omega)).mono ?_; rintro e w' ⟨x, y, rfl, a0, a1, a2, a3, hd⟩; replace kb := kb.drawn hbs (by first | exact hd | exact (Drawn.drew kb.hs).trans hd); clear hd)
 refine hK.out _ _ ?_ ?_
 · (try dsimp only); exact ⟨⟨kb.jb, kb.fx.2.2.1⟩, trivial, kb.fx.2.2.2⟩
 (try clear hH)
 intro hH
 (try dsimp only at hH)
 clear hK K
 (try simp only [cq])
 refine tkX 11 (some 60) ?_ phC (ph0 hH) ?_ ?_
 rotate_left
 · intro w _; go_simp; (try with_reducible rfl)
 (try simp only [cq])
 refine wpAnyP_ready (rs := [12]) (by kernel_rfl) (by simp) ?_
 refine arcP0 (some 61) (fun K hK => ?_) AllReadyP.nil
 go_simp
 first | refine oA hK ?_ (fun hH hA => ?_) | refine oD hK ?_ (fun hH hA => ?_)
 · (try dsimp only); exact ⟨⟨(kb.alloc hbs _).jb, (kb.alloc hbs _).fx.2.2.1⟩, trivial, (kb.alloc hbs _).fx.2.2.2⟩
 (try dsimp only at hH)
 obtain ⟨bA, hbA⟩ : ∃ b, Blk.num hA = b := ⟨_, rfl⟩
 obtain ⟨V, hV⟩ : ∃ V, Blk.wld hA = V := ⟨_, rfl⟩
 simp only [Blk.num] at hbA
 simp only [Blk.wld] at hV
 first | replace kb := awK hV kb hbs | replace kb := awK3 hV kb hbs
 rw [hV] at hH hA ⊢
 rw [hbA] at hA ⊢
 clear hV hbA
 have kbA := hA
 clear hA
 clear hK K
 (try simp only [cq])
 refine wpAnyP_ready (rs := [13]) (by kernel_rfl) (by simp) ?_
 refine arcP0 (some 62) (fun K hK => ?_) AllReadyP.nil
 rw [if_pos (by rfl)]
 obtain ⟨gA, cA2, w8A, hr, hown, hgrow, hat, hlt⟩ := run_append_lies (P := Try.prog) _ 41 41 (w.heap.size + 5) 87 iA (.agg #[.string ⟨#[]⟩, .int .i64 0, .int .i64 0, .int .i64 0, .int .i64 0, .int .i64 0]) 6 56 Try.underlying41 hiA hz0iA hz1iA hz2iA rfl (by decide) (.slice aA k cA) k _ kb.rA ⟨bA, 0, none⟩ 1 1 [.string (nmN k), .int .i64 kd, .int .i64 x, .int .i64 y, .int .i64 0, .int .i64 0] rfl (news_six kbA) (one6 _ _ _ _ _ _) (by omega) (by unfold maxLen; omega) (by omega) (by have := kb.sz; omega) _ rfl
 simp only [Oper.wp, execOp, resolve, invoke, builtin, Sem.run_bind, Sem.run_pure, Result.andThen_ok, List.map_toArray, List.map_cons, List.map_nil]
 change Oper.upon _ _ _ _ _ ((Sem.run Try.prog (Builtin.append_ #[41, 41] 41 #[(.slice aA k cA), .slice (some ⟨bA, 0, none⟩) 1 1]) _).andThen _)
 rw [hr]
 
 replace kb := kb.growA hbs hgrow (D := upAc A k ⟨nmN k, kd, x, y, 0, 0⟩) (by rw [cat_upA]; exact hown)
 clear hown hgrow hat hlt hr kbA
 simp only [Result.andThen_ok, Oper.upon]
 refine hK.out _ _ ?_ ?_
 · (try dsimp only); exact ⟨⟨kb.jb, kb.fx.2.2.1⟩, trivial, kb.fx.2.2.2⟩
 (try clear hH)
 intro hH
 (try dsimp only at hH)
 clear hK K
 (try simp only [cq])
 refine tkX 14 (some 63) ?_ phC (ph0 hH) ?_ ?_
 rotate_left
 · intro w _; go_simp; (try with_reducible rfl)
 (try simp only [cq])
 refine wpAnyP_ready (rs := [15]) (by kernel_rfl) (by simp) ?_
 refine arcP2 none (fun K hK => ?_) AllReadyP.nil
 obtain ⟨r0, r1⟩ := kb.jb.c2
 have f0 := kb.jb.free 0
 have zb := kb.jb.lt
 have KB := Lib.hid (kb.setA hbs (.slice (some ⟨gA, 0, none⟩) (k + 1) cA2))
 clear kb
 go_simp
 refine hK.out _ _ ?_ ?_
 · (try dsimp only); exact KB.out.fx.2.2.2
 (try clear hH)
 intro hH
 (try dsimp only at hH)
 clear hK K
 (try simp only [cq])
 refine wpAnyP_done (by kernel_rfl) ?_ _
 (try dsimp only [Act.put])
 (try simp only [cq])
 clear hH r0 r1 f0 zb
 go_wp2_with fail
 go_meet
 exact ⟨gA, cA2, x, y, ⟨a0, a1⟩, ⟨a2, a3⟩, KB.out⟩ )
      case rest =>
      clear kb
      obtain ⟨gA, cA2, x, y, a0, a2, kb⟩ := hcut
      replace ha : Ap (St1 (.slice (some ⟨gA, 0, none⟩) (k + 1) cA2) (.slice aO k cO) (.slice aH k cH) (k + 1) k (upAc A k ⟨nmN k, kd, x, y, 0, 0⟩) O O) := ⟨ha.oc, ha.ox, ha.oh, ha.cx, ha.ch, ha.xh⟩
      go_upto_region 14 with fail
      (
 refine region_phs (P1 := (fun W => Blk W (w.heap.size + 1 + 1 + 1) #[.slice aO k cO, .slice none 0 0, .slice none 0 0] 46)) (N1 := 11) (P2 := (fun _ => True)) (N2 := 11) (S2 := (fun W => Drawn bs w W)) (by kernel_rfl) ?_ (fun hH => ?_)
 · (try dsimp only); (exact ⟨(kb.drew hbs).jt, trivial, (kb.drew hbs).fx.2.2.2⟩)
 (try dsimp only at hH)
 refine tkX 0 (some 64) ?_ phC (ph0 hH) ?_ ?_
 rotate_left
 · intro w _; go_simp; (try with_reducible rfl)
 (try simp only [cq])
 refine tkX 1 (some 65) ?_ phC (ph0 hH) ?_ ?_
 rotate_left
 · intro w _; go_simp; (try with_reducible rfl)
 (try simp only [cq])
 refine tkX 4 (some 68) ?_ phC (ph0 hH) ?_ ?_
 rotate_left
 · intro w _; go_simp; (try with_reducible rfl)
 (try simp only [cq])
 refine tkX 5 (some 69) ?_ (phA (by kernel_rfl) (by kernel_rfl)) (ph0 hH) ?_ ?_
 rotate_left
 · intro w hS0; (try dsimp only at hS0); obtain ⟨kJ, _, _⟩ := hS0; have t0 := kJ.cell 0 rfl; have yJ := kJ.lt;go_simp; (try with_reducible rfl)
 (try simp only [cq])
 refine tkX 6 (some 70) ?_ phC (ph0 hH) ?_ ?_
 rotate_left
 · intro w _; go_simp; (try with_reducible rfl)
 (try simp only [cq])
 refine wpAnyP_ready (rs := [2, 7]) (by kernel_rfl) (by simp) ?_
 refine arcP0 (some 66) (fun K hK => ?_) ?_
 {
 go_simp
 first | refine oA hK ?_ (fun hH hA => ?_) | refine oD hK ?_ (fun hH hA => ?_)
 · (try dsimp only); (first | exact ⟨(kb.alloc hbs _).jt, trivial, (kb.alloc hbs _).fx.2.2.2⟩ | exact ⟨((kb.alloc hbs _).drew hbs).jt, trivial, ((kb.alloc hbs _).drew hbs).fx.2.2.2⟩)
 (try dsimp only at hH)
 obtain ⟨b2, hbA⟩ : ∃ b, Blk.num hA = b := ⟨_, rfl⟩
 obtain ⟨V, hV⟩ : ∃ V, Blk.wld hA = V := ⟨_, rfl⟩
 simp only [Blk.num] at hbA
 simp only [Blk.wld] at hV
 first | replace kb := awK hV kb hbs | replace kb := awK3 hV kb hbs
 (try first | replace kb7 := awB hV kb7 | replace kb7 := awD hV kb7)
 rw [hV] at hH hA ⊢
 rw [hbA] at hA ⊢
 clear hV hbA
 have kb2 := hA
 clear hA
 clear hK K
 (try simp only [cq])
 refine wpAnyP_ready (rs := [3, 7]) (by kernel_rfl) (by simp) ?_
 refine arcP0 (some 67) (fun K hK => ?_) ?_
 {
 rw [if_pos (by rfl)]
 obtain ⟨gH, cH2, w8H, hr, hown, hgrow, hat, hlt⟩ := run_append_lies (P := Try.prog) _ 22 22 (w.heap.size + 5) 3 iI (.int .i64 0) 1 8 Try.underlying22 hiI hz0iI hz1iI hz2iI rfl (by decide) (.slice aH k cH) k _ kb.rH ⟨b2, 0, none⟩ 1 1 [.int .i64 n] rfl (news_one kb2) (one1 _) (by omega) (by unfold maxLen; omega) (by omega) (by have := kb.sz; omega) _ rfl
 simp only [Oper.wp, execOp, resolve, invoke, builtin, Sem.run_bind, Sem.run_pure, Result.andThen_ok, List.map_toArray, List.map_cons, List.map_nil]
 change Oper.upon _ _ _ _ _ ((Sem.run Try.prog (Builtin.append_ #[22, 22] 22 #[(.slice aH k cH), .slice (some ⟨b2, 0, none⟩) 1 1]) _).andThen _)
 rw [hr]
 
 (try replace kb7 := kb7.grown3 hgrow (fun q e => by have := z7 q e; omega))
 have ha2 := kb.apH ha (n := k + 1) (c := cH2) (D := upF O k n) hat
 replace kb := kb.growH ha hbs hgrow (D := upF O k n) (by rw [cat_upI]; exact hown)
 clear hown hgrow hat hlt hr kb2
 simp only [Result.andThen_ok, Oper.upon]
 refine hK.out _ _ ?_ ?_
 · (try dsimp only); exact ⟨kb.jt, trivial, kb.fx.2.2.2⟩
 (try clear hH)
 intro hH
 (try dsimp only at hH)
 clear hK K
 (try simp only [cq])
 refine wpAnyP_ready (rs := [7]) (by kernel_rfl) (by simp) ?_
 refine arcP0 (some 71) (fun K hK => ?_) AllReadyP.nil
 have z7 := fun q e => (kb.rH.lt q e).2
 go_simp
 first | refine oA hK ?_ (fun hH hA => ?_) | refine oD hK ?_ (fun hH hA => ?_)
 · (try dsimp only); (first | exact ⟨(kb.alloc hbs _).jt, trivial, (kb.alloc hbs _).fx.2.2.2⟩ | exact ⟨((kb.alloc hbs _).drew hbs).jt, trivial, ((kb.alloc hbs _).drew hbs).fx.2.2.2⟩)
 (try dsimp only at hH)
 obtain ⟨b7, hbA⟩ : ∃ b, Blk.num hA = b := ⟨_, rfl⟩
 obtain ⟨V, hV⟩ : ∃ V, Blk.wld hA = V := ⟨_, rfl⟩
 simp only [Blk.num] at hbA
 simp only [Blk.wld] at hV
 first | replace kb := awK hV kb hbs | replace kb := awK3 hV kb hbs
 (try rw [hbA] at z7)
 (try first | replace kb2 := awB hV kb2 | replace kb2 := awD hV kb2)
 rw [hV] at hH hA ⊢
 rw [hbA] at hA ⊢
 clear hV hbA
 have kb7 := hA
 clear hA
 clear hK K
 (try simp only [cq])
 refine wpAnyP_ready (rs := [8]) (by kernel_rfl) (by simp) ?_
 refine arcP0 (some 72) (fun K hK => ?_) AllReadyP.nil
 rw [if_pos (by rfl)]
 obtain ⟨gO, cO2, w8O, hr, hown, hgrow, hat, hlt⟩ := run_append_lies (P := Try.prog) _ 22 22 (w.heap.size + 5) 3 iI (.int .i64 0) 1 8 Try.underlying22 hiI hz0iI hz1iI hz2iI rfl (by decide) (.slice aO k cO) k _ kb.rO ⟨b7, 0, none⟩ 1 1 [.int .i64 n] rfl (news_one kb7) (one1 _) (by omega) (by unfold maxLen; omega) (by omega) (by have := kb.sz; omega) _ rfl
 simp only [Oper.wp, execOp, resolve, invoke, builtin, Sem.run_bind, Sem.run_pure, Result.andThen_ok, List.map_toArray, List.map_cons, List.map_nil]
 change Oper.upon _ _ _ _ _ ((Sem.run Try.prog (Builtin.append_ #[22, 22] 22 #[(.slice aO k cO), .slice (some ⟨b7, 0, none⟩) 1 1]) _).andThen _)
 rw [hr]
 
 have ha3 := kb.apO ha2 (n := k + 1) (c := cO2) (D := upF O k n) hat
 replace kb := kb.growO ha2 hbs hgrow (D := upF O k n) (by rw [cat_upI]; exact hown)
 clear hown hgrow hat hlt hr kb7
 simp only [Result.andThen_ok, Oper.upon]
 refine hK.out _ _ ?_ ?_
 · (try dsimp only); exact ⟨kb.jt, trivial, kb.fx.2.2.2⟩
 (try clear hH)
 intro hH
 (try dsimp only at hH)
 clear hK K
 (try simp only [cq])
 refine tkX 9 (some 15) ?_ phC (ph0 hH) ?_ ?_
 rotate_left
 · intro w _; go_simp; (try with_reducible rfl)
 (try simp only [cq])
 refine tkX 10 (some 73) ?_ phC (ph0 hH) ?_ ?_
 rotate_left
 · intro w _; go_simp; (try with_reducible rfl)
 (try simp only [cq])
 refine wpAnyP_ready (rs := [11]) (by kernel_rfl) (by simp) ?_
 refine arcP2 none (fun K hK => ?_) AllReadyP.nil
 have r0 := kb.jt.cell 0 rfl
 have f0 := kb.jt.free 0
 have zb := kb.jt.lt
 have KB := Lib.hid (kb.setO hbs (.slice (some ⟨gO, 0, none⟩) (k + 1) cO2))
 clear kb
 go_simp
 refine hK.out _ _ ?_ ?_
 · (try dsimp only); exact KB.out.fx.2.2.2
 (try clear hH)
 intro hH
 (try dsimp only at hH)
 clear hK K
 (try simp only [cq])
 refine wpAnyP_done (by kernel_rfl) ?_ _
 (try dsimp only [Act.put])
 (try simp only [cq])
 clear hH r0 f0 zb
 go_wp2
 go_roundw
 case rel => exact ⟨k + 1, j - 1, some ⟨gA, 0, none⟩, cA2, some ⟨gO, 0, none⟩, cO2, some ⟨gH, 0, none⟩, cH2, _, _, rfl, by rfl, by omega, by omega, by omega, KB.out, ⟨ha3.oc, ha3.ox, ha3.oh, ha3.cx, ha3.ch, ha3.xh⟩, HB.out.more kd n x y 0 0 hkd ⟨n0, n1⟩ a0 a2⟩
 case measure => simp [intOf]; omega
 }
 refine arcP0 (some 71) (fun K hK => ?_) ?_
 {
 have z7 := fun q e => (kb.rH.lt q e).2
 go_simp
 first | refine oA hK ?_ (fun hH hA => ?_) | refine oD hK ?_ (fun hH hA => ?_)
 · (try dsimp only); (first | exact ⟨(kb.alloc hbs _).jt, trivial, (kb.alloc hbs _).fx.2.2.2⟩ | exact ⟨((kb.alloc hbs _).drew hbs).jt, trivial, ((kb.alloc hbs _).drew hbs).fx.2.2.2⟩)
 (try dsimp only at hH)
 obtain ⟨b7, hbA⟩ : ∃ b, Blk.num hA = b := ⟨_, rfl⟩
 obtain ⟨V, hV⟩ : ∃ V, Blk.wld hA = V := ⟨_, rfl⟩
 simp only [Blk.num] at hbA
 simp only [Blk.wld] at hV
 first | replace kb := awK hV kb hbs | replace kb := awK3 hV kb hbs
 (try rw [hbA] at z7)
 (try first | replace kb2 := awB hV kb2 | replace kb2 := awD hV kb2)
 rw [hV] at hH hA ⊢
 rw [hbA] at hA ⊢
 clear hV hbA
 have kb7 := hA
 clear hA
 clear hK K
 (try simp only [cq])
 refine wpAnyP_ready (rs := [3]) (by kernel_rfl) (by simp) ?_
 refine arcP0 (some 67) (fun K hK => ?_) AllReadyP.nil
 rw [if_pos (by rfl)]
 obtain ⟨gH, cH2, w8H, hr, hown, hgrow, hat, hlt⟩ := run_append_lies (P := Try.prog) _ 22 22 (w.heap.size + 5) 3 iI (.int .i64 0) 1 8 Try.underlying22 hiI hz0iI hz1iI hz2iI rfl (by decide) (.slice aH k cH) k _ kb.rH ⟨b2, 0, none⟩ 1 1 [.int .i64 n] rfl (news_one kb2) (one1 _) (by omega) (by unfold maxLen; omega) (by omega) (by have := kb.sz; omega) _ rfl
 simp only [Oper.wp, execOp, resolve, invoke, builtin, Sem.run_bind, Sem.run_pure, Result.andThen_ok, List.map_toArray, List.map_cons, List.map_nil]
 change Oper.upon _ _ _ _ _ ((Sem.run Try.prog (Builtin.append_ #[22, 22] 22 #[(.slice aH k cH), .slice (some ⟨b2, 0, none⟩) 1 1]) _).andThen _)
 rw [hr]
 
 (try replace kb7 := kb7.grown3 hgrow (fun q e => by have := z7 q e; omega))
 have ha2 := kb.apH ha (n := k + 1) (c := cH2) (D := upF O k n) hat
 replace kb := kb.growH ha hbs hgrow (D := upF O k n) (by rw [cat_upI]; exact hown)
 clear hown hgrow hat hlt hr kb2
 simp only [Result.andThen_ok, Oper.upon]
 refine hK.out _ _ ?_ ?_
 · (try dsimp only); exact ⟨kb.jt, trivial, kb.fx.2.2.2⟩
 (try clear hH)
 intro hH
 (try dsimp only at hH)
 clear hK K
 (try simp only [cq])
 refine wpAnyP_ready (rs := [8]) (by kernel_rfl) (by simp) ?_
 refine arcP0 (some 72) (fun K hK => ?_) AllReadyP.nil
 rw [if_pos (by rfl)]
 obtain ⟨gO, cO2, w8O, hr, hown, hgrow, hat, hlt⟩ := run_append_lies (P := Try.prog) _ 22 22 (w.heap.size + 5) 3 iI (.int .i64 0) 1 8 Try.underlying22 hiI hz0iI hz1iI hz2iI rfl (by decide) (.slice aO k cO) k _ kb.rO ⟨b7, 0, none⟩ 1 1 [.int .i64 n] rfl (news_one kb7) (one1 _) (by omega) (by unfold maxLen; omega) (by omega) (by have := kb.sz; omega) _ rfl
 simp only [Oper.wp, execOp, resolve, invoke, builtin, Sem.run_bind, Sem.run_pure, Result.andThen_ok, List.map_toArray, List.map_cons, List.map_nil]
 change Oper.upon _ _ _ _ _ ((Sem.run Try.prog (Builtin.append_ #[22, 22] 22 #[(.slice aO k cO), .slice (some ⟨b7, 0, none⟩) 1 1]) _).andThen _)
 rw [hr]
 
 have ha3 := kb.apO ha2 (n := k + 1) (c := cO2) (D := upF O k n) hat
 replace kb := kb.growO ha2 hbs hgrow (D := upF O k n) (by rw [cat_upI]; exact hown)
 clear hown hgrow hat hlt hr kb7
 simp only [Result.andThen_ok, Oper.upon]
 refine hK.out _ _ ?_ ?_
 · (try dsimp only); exact ⟨kb.jt, trivial, kb.fx.2.2.2⟩
 (try clear hH)
 intro hH
 (try dsimp only at hH)
 clear hK K
 (try simp only [cq])
 refine tkX 9 (some 15) ?_ phC (ph0 hH) ?_ ?_
 rotate_left
 · intro w _; go_simp; (try with_reducible rfl)
 (try simp only [cq])
 refine tkX 10 (some 73) ?_ phC (ph0 hH) ?_ ?_
 rotate_left
 · intro w _; go_simp; (try with_reducible rfl)
 (try simp only [cq])
 refine wpAnyP_ready (rs := [11]) (by kernel_rfl) (by simp) ?_
 refine arcP2 none (fun K hK => ?_) AllReadyP.nil
 have r0 := kb.jt.cell 0 rfl
 have f0 := kb.jt.free 0
 have zb := kb.jt.lt
 have KB := Lib.hid (kb.setO hbs (.slice (some ⟨gO, 0, none⟩) (k + 1) cO2))
 clear kb
 go_simp
 refine hK.out _ _ ?_ ?_
 · (try dsimp only); exact KB.out.fx.2.2.2
 (try clear hH)
 intro hH
 (try dsimp only at hH)
 clear hK K
 (try simp only [cq])
 refine wpAnyP_done (by kernel_rfl) ?_ _
 (try dsimp only [Act.put])
 (try simp only [cq])
 clear hH r0 f0 zb
 go_wp2
 go_roundw
 case rel => exact ⟨k + 1, j - 1, some ⟨gA, 0, none⟩, cA2, some ⟨gO, 0, none⟩, cO2, some ⟨gH, 0, none⟩, cH2, _, _, rfl, by rfl, by omega, by omega, by omega, KB.out, ⟨ha3.oc, ha3.ox, ha3.oh, ha3.cx, ha3.ch, ha3.xh⟩, HB.out.more kd n x y 0 0 hkd ⟨n0, n1⟩ a0 a2⟩
 case measure => simp [intOf]; omega
 }
 exact AllReadyP.nil
 }
 refine arcP0 (some 71) (fun K hK => ?_) ?_
 {
 have z7 := fun q e => (kb.rH.lt q e).2
 go_simp
 first | refine oA hK ?_ (fun hH hA => ?_) | refine oD hK ?_ (fun hH hA => ?_)
 · (try dsimp only); (first | exact ⟨(kb.alloc hbs _).jt, trivial, (kb.alloc hbs _).fx.2.2.2⟩ | exact ⟨((kb.alloc hbs _).drew hbs).jt, trivial, ((kb.alloc hbs _).drew hbs).fx.2.2.2⟩)
 (try dsimp only at hH)
 obtain ⟨b7, hbA⟩ : ∃ b, Blk.num hA = b := ⟨_, rfl⟩
 obtain ⟨V, hV⟩ : ∃ V, Blk.wld hA = V := ⟨_, rfl⟩
 simp only [Blk.num] at hbA
 simp only [Blk.wld] at hV
 first | replace kb := awK hV kb hbs | replace kb := awK3 hV kb hbs
 (try rw [hbA] at z7)
 (try first | replace kb2 := awB hV kb2 | replace kb2 := awD hV kb2)
 rw [hV] at hH hA ⊢
 rw [hbA] at hA ⊢
 clear hV hbA
 have kb7 := hA
 clear hA
 clear hK K
 (try simp only [cq])
 refine wpAnyP_ready (rs := [2]) (by kernel_rfl) (by simp) ?_
 refine arcP0 (some 66) (fun K hK => ?_) AllReadyP.nil
 go_simp
 first | refine oA hK ?_ (fun hH hA => ?_) | refine oD hK ?_ (fun hH hA => ?_)
 · (try dsimp only); (first | exact ⟨(kb.alloc hbs _).jt, trivial, (kb.alloc hbs _).fx.2.2.2⟩ | exact ⟨((kb.alloc hbs _).drew hbs).jt, trivial, ((kb.alloc hbs _).drew hbs).fx.2.2.2⟩)
 (try dsimp only at hH)
 obtain ⟨b2, hbA⟩ : ∃ b, Blk.num hA = b := ⟨_, rfl⟩
 obtain ⟨V, hV⟩ : ∃ V, Blk.wld hA = V := ⟨_, rfl⟩
 simp only [Blk.num] at hbA
 simp only [Blk.wld] at hV
 first | replace kb := awK hV kb hbs | replace kb := awK3 hV kb hbs
 (try first | replace kb7 := awB hV kb7 | replace kb7 := awD hV kb7)
 rw [hV] at hH hA ⊢
 rw [hbA] at hA ⊢
 clear hV hbA
 have kb2 := hA
 clear hA
 clear hK K
 (try simp only [cq])
 refine wpAnyP_ready (rs := [3]) (by kernel_rfl) (by simp) ?_
 refine arcP0 (some 67) (fun K hK => ?_) AllReadyP.nil
 rw [if_pos (by rfl)]
 obtain ⟨gH, cH2, w8H, hr, hown, hgrow, hat, hlt⟩ := run_append_lies (P := Try.prog) _ 22 22 (w.heap.size + 5) 3 iI (.int .i64 0) 1 8 Try.underlying22 hiI hz0iI hz1iI hz2iI rfl (by decide) (.slice aH k cH) k _ kb.rH ⟨b2, 0, none⟩ 1 1 [.int .i64 n] rfl (news_one kb2) (one1 _) (by omega) (by unfold maxLen; omega) (by omega) (by have := kb.sz; omega) _ rfl
 simp only [Oper.wp, execOp, resolve, invoke, builtin, Sem.run_bind, Sem.run_pure, Result.andThen_ok, List.map_toArray, List.map_cons, List.map_nil]
 change Oper.upon _ _ _ _ _ ((Sem.run Try.prog (Builtin.append_ #[22, 22] 22 #[(.slice aH k cH), .slice (some ⟨b2, 0, none⟩) 1 1]) _).andThen _)
 rw [hr]
 
 (try replace kb7 := kb7.grown3 hgrow (fun q e => by have := z7 q e; omega))
 have ha2 := kb.apH ha (n := k + 1) (c := cH2) (D := upF O k n) hat
 replace kb := kb.growH ha hbs hgrow (D := upF O k n) (by rw [cat_upI]; exact hown)
 clear hown hgrow hat hlt hr kb2
 simp only [Result.andThen_ok, Oper.upon]
 refine hK.out _ _ ?_ ?_
 · (try dsimp only); exact ⟨kb.jt, trivial, kb.fx.2.2.2⟩
 (try clear hH)
 intro hH
 (try dsimp only at hH)
 clear hK K
 (try simp only [cq])
 refine wpAnyP_ready (rs := [8]) (by kernel_rfl) (by simp) ?_
 refine arcP0 (some 72) (fun K hK => ?_) AllReadyP.nil
 rw [if_pos (by rfl)]
 obtain ⟨gO, cO2, w8O, hr, hown, hgrow, hat, hlt⟩ := run_append_lies (P := Try.prog) _ 22 22 (w.heap.size + 5) 3 iI (.int .i64 0) 1 8 Try.underlying22 hiI hz0iI hz1iI hz2iI rfl (by decide) (.slice aO k cO) k _ kb.rO ⟨b7, 0, none⟩ 1 1 [.int .i64 n] rfl (news_one kb7) (one1 _) (by omega) (by unfold maxLen; omega) (by omega) (by have := kb.sz; omega) _ rfl
 simp only [Oper.wp, execOp, resolve, invoke, builtin, Sem.run_bind, Sem.run_pure, Result.andThen_ok, List.map_toArray, List.map_cons, List.map_nil]
 change Oper.upon _ _ _ _ _ ((Sem.run Try.prog (Builtin.append_ #[22, 22] 22 #[(.slice aO k cO), .slice (some ⟨b7, 0, none⟩) 1 1]) _).andThen _)
 rw [hr]
 
 have ha3 := kb.apO ha2 (n := k + 1) (c := cO2) (D := upF O k n) hat
 replace kb := kb.growO ha2 hbs hgrow (D := upF O k n) (by rw [cat_upI]; exact hown)
 clear hown hgrow hat hlt hr kb7
 simp only [Result.andThen_ok, Oper.upon]
 refine hK.out _ _ ?_ ?_
 · (try dsimp only); exact ⟨kb.jt, trivial, kb.fx.2.2.2⟩
 (try clear hH)
 intro hH
 (try dsimp only at hH)
 clear hK K
 (try simp only [cq])
 refine tkX 9 (some 15) ?_ phC (ph0 hH) ?_ ?_
 rotate_left
 · intro w _; go_simp; (try with_reducible rfl)
 (try simp only [cq])
 refine tkX 10 (some 73) ?_ phC (ph0 hH) ?_ ?_
 rotate_left
 · intro w _; go_simp; (try with_reducible rfl)
 (try simp only [cq])
 refine wpAnyP_ready (rs := [11]) (by kernel_rfl) (by simp) ?_
 refine arcP2 none (fun K hK => ?_) AllReadyP.nil
 have r0 := kb.jt.cell 0 rfl
 have f0 := kb.jt.free 0
 have zb := kb.jt.lt
 have KB := Lib.hid (kb.setO hbs (.slice (some ⟨gO, 0, none⟩) (k + 1) cO2))
 clear kb
 go_simp
 refine hK.out _ _ ?_ ?_
 · (try dsimp only); exact KB.out.fx.2.2.2
 (try clear hH)
 intro hH
 (try dsimp only at hH)
 clear hK K
 (try simp only [cq])
 refine wpAnyP_done (by kernel_rfl) ?_ _
 (try dsimp only [Act.put])
 (try simp only [cq])
 clear hH r0 f0 zb
 go_wp2
 go_roundw
 case rel => exact ⟨k + 1, j - 1, some ⟨gA, 0, none⟩, cA2, some ⟨gO, 0, none⟩, cO2, some ⟨gH, 0, none⟩, cH2, _, _, rfl, by rfl, by omega, by omega, by omega, KB.out, ⟨ha3.oc, ha3.ox, ha3.oh, ha3.cx, ha3.ch, ha3.xh⟩, HB.out.more kd n x y 0 0 hkd ⟨n0, n1⟩ a0 a2⟩
 case measure => simp [intOf]; omega
 }
 exact AllReadyP.nil )
end Go.Proofs.Ytpeogfcfiabcfaa
