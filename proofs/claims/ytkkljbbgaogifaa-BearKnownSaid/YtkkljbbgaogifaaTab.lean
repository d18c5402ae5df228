/-
  Tables of shares, plates and loads as records, and what they mean; lists of them in memory.
-/
import Derived.Test.YtkkljbbgaogifaaBase
set_option linter.unusedVariables false
set_option linter.unusedSimpArgs false
namespace Go.Proofs.Ytkkljbbgaogifaa
open Go.RowKit

theorem Blk.c11 {w : World} {b : Nat} {x0 x1 x2 x3 x4 x5 x6 x7 x8 x9 x10 : Value} {t : TypeId} (h : Blk w b #[x0, x1, x2, x3, x4, x5, x6, x7, x8, x9, x10] t) : w.cell? ⟨b, 0, none⟩ = some x0 ∧ w.cell? ⟨b, 1, none⟩ = some x1 ∧ w.cell? ⟨b, 2, none⟩ = some x2 ∧ w.cell? ⟨b, 3, none⟩ = some x3 ∧ w.cell? ⟨b, 4, none⟩ = some x4 ∧ w.cell? ⟨b, 5, none⟩ = some x5 ∧ w.cell? ⟨b, 6, none⟩ = some x6 ∧ w.cell? ⟨b, 7, none⟩ = some x7 ∧ w.cell? ⟨b, 8, none⟩ = some x8 ∧ w.cell? ⟨b, 9, none⟩ = some x9 ∧ w.cell? ⟨b, 10, none⟩ = some x10 :=
  ⟨h.cell 0 rfl, h.cell 1 rfl, h.cell 2 rfl, h.cell 3 rfl, h.cell 4 rfl, h.cell 5 rfl, h.cell 6 rfl, h.cell 7 rfl, h.cell 8 rfl, h.cell 9 rfl, h.cell 10 rfl⟩
theorem Blk.c12 {w : World} {b : Nat} {x0 x1 x2 x3 x4 x5 x6 x7 x8 x9 x10 x11 : Value} {t : TypeId} (h : Blk w b #[x0, x1, x2, x3, x4, x5, x6, x7, x8, x9, x10, x11] t) : w.cell? ⟨b, 0, none⟩ = some x0 ∧ w.cell? ⟨b, 1, none⟩ = some x1 ∧ w.cell? ⟨b, 2, none⟩ = some x2 ∧ w.cell? ⟨b, 3, none⟩ = some x3 ∧ w.cell? ⟨b, 4, none⟩ = some x4 ∧ w.cell? ⟨b, 5, none⟩ = some x5 ∧ w.cell? ⟨b, 6, none⟩ = some x6 ∧ w.cell? ⟨b, 7, none⟩ = some x7 ∧ w.cell? ⟨b, 8, none⟩ = some x8 ∧ w.cell? ⟨b, 9, none⟩ = some x9 ∧ w.cell? ⟨b, 10, none⟩ = some x10 ∧ w.cell? ⟨b, 11, none⟩ = some x11 :=
  ⟨h.cell 0 rfl, h.cell 1 rfl, h.cell 2 rfl, h.cell 3 rfl, h.cell 4 rfl, h.cell 5 rfl, h.cell 6 rfl, h.cell 7 rfl, h.cell 8 rfl, h.cell 9 rfl, h.cell 10 rfl, h.cell 11 rfl⟩
structure Tab where
  n : Nat
  F : Nat → Int
  P : Nat → Int
def scanP (F P : Nat → Int) (n l : Int) : Nat → Int
  | 0 => l
  | m + 1 => if F m ≤ n then P m else scanP F P n l m
def Tab.val (t : Tab) (n : Int) : Int := scanP t.F t.P n 0 t.n
structure Tab.Ok (t : Tab) : Prop where
  n1 : 1 ≤ t.n
  n20 : t.n ≤ 20
  f0 : t.F 0 = 0
  p0 : t.P 0 = 1000000
  each : ∀ i, i < t.n → 0 ≤ t.F i ∧ t.F i ≤ 10000 ∧ 0 ≤ t.P i ∧ t.P i ≤ 1000000
  next : ∀ i, i + 1 < t.n → t.F i < t.F (i + 1) ∧ t.P (i + 1) ≤ t.P i
theorem Tab.Ok.lt {t : Tab} (h : t.Ok) : ∀ (j i : Nat), i < j → j < t.n → t.F i < t.F j
  | 0, i, hi, _ => by omega
  | j + 1, i, hi, hj => by
    have h1 := (h.next j hj).1
    by_cases e : i = j
    · subst e; exact h1
    · have := h.lt j i (by omega) (by omega)
      omega
theorem scanP_skip (F P : Nat → Int) (n l : Int) (k : Nat) : ∀ m, k ≤ m → (∀ i, k ≤ i → i < m → n < F i) → scanP F P n l m = scanP F P n l k
  | 0, hk, _ => by obtain rfl : k = 0 := by omega
                   rfl
  | m + 1, hk, h => by
    by_cases e : k = m + 1
    · subst e; rfl
    · have := h m (by omega) (by omega)
      rw [scanP, if_neg (by omega)]
      exact scanP_skip F P n l k m (by omega) (fun i a b => h i a (by omega))
theorem scanP_init (F P : Nat → Int) (n l l' : Int) (h0 : F 0 ≤ n) : ∀ m, 0 < m → scanP F P n l m = scanP F P n l' m
  | 0, h => by omega
  | m + 1, _ => by
    by_cases e : F m ≤ n
    · rw [scanP, scanP, if_pos e, if_pos e]
    · rw [scanP, scanP, if_neg e, if_neg e]
      by_cases z : m = 0
      · subst z; omega
      · exact scanP_init F P n l l' h0 m (by omega)
theorem scanP_in (F P : Nat → Int) (n l B : Int) (hl : 0 ≤ l ∧ l ≤ B) : ∀ m, (∀ i, i < m → 0 ≤ P i ∧ P i ≤ B) → 0 ≤ scanP F P n l m ∧ scanP F P n l m ≤ B
  | 0, _ => hl
  | m + 1, h => by
    rw [scanP]
    by_cases e : F m ≤ n
    · rw [if_pos e]; exact h m (by omega)
    · rw [if_neg e]; exact scanP_in F P n l B hl m (fun i hi => h i (by omega))
theorem Tab.Ok.val_in {t : Tab} (h : t.Ok) (n : Int) : 0 ≤ t.val n ∧ t.val n ≤ 1000000 :=
  scanP_in _ _ _ _ _ (by omega) _ (fun i hi => (h.each i hi).2.2)
theorem Tab.Ok.val_eq {t : Tab} (h : t.Ok) {n : Int} {k : Nat} (hk : k < t.n) (h1 : t.F k ≤ n) (h2 : k + 1 < t.n → n < t.F (k + 1)) : t.val n = t.P k := by
  unfold Tab.val
  rw [scanP_skip t.F t.P n 0 (k + 1) t.n (by omega) (fun i a b => ?_), scanP, if_pos h1]
  have h3 := h2 (by omega)
  by_cases e : i = k + 1
  · subst e; exact h3
  · have := h.lt i (k + 1) (by omega) b
    omega

def PairsAt (w : World) (v : Value) (n : Nat) (F P : Nat → Int) : Prop :=
  ∃ a cap, v = .slice a n cap ∧ n ≤ cap ∧ cap ≤ 9223372036854775807 ∧ (0 < n → ∃ b o, a = some ⟨b, o, none⟩ ∧
    ∀ i, i < n → w.cell? ⟨b, o + i * 2, none⟩ = some (.int .i64 (F i)) ∧ w.cell? ⟨b, o + i * 2 + 1, none⟩ = some (.int .i64 (P i)))
theorem PairsAt.later {w w' : World} {v : Value} {n : Nat} {F P : Nat → Int} (h : PairsAt w v n F P) (hb : Below w.heap.size w w') : PairsAt w' v n F P := by
  obtain ⟨a, cap, hv, h1, h2, h3⟩ := h
  refine ⟨a, cap, hv, h1, h2, fun h0 => ?_⟩
  obtain ⟨b, o, ha, hc⟩ := h3 h0
  exact ⟨b, o, ha, fun i hi => ⟨cell_later hb (hc i hi).1, cell_later hb (hc i hi).2⟩⟩
abbrev TabAt (w : World) (v : Value) (t : Tab) : Prop := PairsAt w v t.n t.F t.P

structure Pl where
  s0 : Int
  s1 : Int
  S : Tab
  C : Tab
  ne : Int
  ed : Int
  gr : Int
  lo : Int
  hi : Int
  sh : Int
  wi : Int
structure Pl.Ok (p : Pl) : Prop where
  s0 : 1 ≤ p.s0
  s01 : p.s0 ≤ p.s1
  s1 : p.s1 ≤ 100000
  S : p.S.Ok
  C : p.C.Ok
  ne0 : 0 ≤ p.ne
  ne1 : p.ne ≤ 10000
  ed0 : 0 ≤ p.ed
  ed1 : p.ed ≤ 1000000
  gr0 : 1 ≤ p.gr
  gr1 : p.gr ≤ 1000
  lo0 : 1 ≤ p.lo
  loh : p.lo ≤ p.hi
  hi1 : p.hi ≤ 4000000
  sh0 : 0 ≤ p.sh
  sh1 : p.sh ≤ 10000
  wi0 : 0 ≤ p.wi
  wi1 : p.wi ≤ 1000000
structure Ld where
  me : Int
  w0 : Int
  w1 : Int
  st : Int
structure Ld.Ok (x : Ld) (places : Nat) : Prop where
  me0 : 0 ≤ x.me
  me1 : x.me < 100 * (places : Int)
  w0 : 0 ≤ x.w0
  w01 : x.w0 ≤ x.w1
  w1 : x.w1 ≤ 200000
  st0 : 0 ≤ x.st
  st1 : x.st ≤ 10000
def LoadsAt (w : World) (v : Value) (n : Nat) (L : Nat → Ld) : Prop :=
  ∃ a cap, v = .slice a n cap ∧ n ≤ cap ∧ cap ≤ 9223372036854775807 ∧ (0 < n → ∃ b o, a = some ⟨b, o, none⟩ ∧
    ∀ i, i < n → w.cell? ⟨b, o + i * 4, none⟩ = some (.int .i64 (L i).me) ∧ w.cell? ⟨b, o + i * 4 + 1, none⟩ = some (.int .i64 (L i).w0) ∧ w.cell? ⟨b, o + i * 4 + 2, none⟩ = some (.int .i64 (L i).w1) ∧ w.cell? ⟨b, o + i * 4 + 3, none⟩ = some (.int .i64 (L i).st))
theorem LoadsAt.later {w w' : World} {v : Value} {n : Nat} {L : Nat → Ld} (h : LoadsAt w v n L) (hb : Below w.heap.size w w') : LoadsAt w' v n L := by
  obtain ⟨a, cap, hv, h1, h2, h3⟩ := h
  refine ⟨a, cap, hv, h1, h2, fun h0 => ?_⟩
  obtain ⟨b, o, ha, hc⟩ := h3 h0
  exact ⟨b, o, ha, fun i hi => ⟨cell_later hb (hc i hi).1, cell_later hb (hc i hi).2.1, cell_later hb (hc i hi).2.2.1, cell_later hb (hc i hi).2.2.2⟩⟩
def IntsAt (w : World) (v : Value) (n : Nat) (x : Nat → Int) : Prop :=
  ∃ a cap, v = .slice a n cap ∧ n ≤ cap ∧ cap ≤ 9223372036854775807 ∧ (0 < n → ∃ b o, a = some ⟨b, o, none⟩ ∧ ∀ i, i < n → w.cell? ⟨b, o + i, none⟩ = some (.int .i64 (x i)))
theorem IntsAt.later {w w' : World} {v : Value} {n : Nat} {x : Nat → Int} (h : IntsAt w v n x) (hb : Below w.heap.size w w') : IntsAt w' v n x := by
  obtain ⟨a, cap, hv, h1, h2, h3⟩ := h
  refine ⟨a, cap, hv, h1, h2, fun h0 => ?_⟩
  obtain ⟨b, o, ha, hc⟩ := h3 h0
  exact ⟨b, o, ha, fun i hi => cell_later hb (hc i hi)⟩
end Go.Proofs.Ytkkljbbgaogifaa
