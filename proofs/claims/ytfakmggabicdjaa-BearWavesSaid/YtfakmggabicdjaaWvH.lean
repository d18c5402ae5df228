/-
  Helpers for BearWaves: the kit's Has; a list of four numbers; four more numbers in a list.
-/
import Derived.Test.YtfakmggabicdjaaTail
import Derived.Test.YtfakmggabicdjaaSpds
import Derived.Test.YtfakmggabicdjaaLists
set_option linter.unusedVariables false
set_option linter.unusedSimpArgs false
namespace Go.Proofs.Ytfakmggabicdjaa
open Go.RowKit

set_option maxRecDepth 100000 in
set_option maxHeartbeats 4000000 in
theorem speeds_row (p : Pl) (vS vC : Value) (a b shore : Int) (w : World) (hS : TabAt w vS p.S) (hC : TabAt w vC p.C) :
    Calls Try.prog 46 #[.agg #[.int .i64 p.s0, .int .i64 p.s1, vS, vC, .int .i64 p.ne, .int .i64 p.ed, .int .i64 p.gr, .int .i64 p.lo, .int .i64 p.hi, .int .i64 p.sh, .int .i64 p.wi], .agg #[.int .i64 a, .int .i64 b], .int .i64 shore] w fun e w' => ∃ u, e = .returned (.tuple #[u, .int .i64 (eWav p a b shore)]) ∧ w'.ownsRow w.heap.size 23 2 u (spdS p a b shore).m (catC (pairC (spdS p a b shore).A (spdS p a b shore).B) (spdS p a b shore).m) ∧ Below w.heap.size w w' := by
  obtain ⟨aS, cS, rfl, _, _, _⟩ := id hS
  obtain ⟨aC, cC, rfl, _, _, _⟩ := id hC
  have HR : Hid (∀ W, Below w.heap.size w W → Calls Try.prog 102 #[.agg #[.int .i64 p.s0, .int .i64 p.s1, (.slice aS p.S.n cS), (.slice aC p.C.n cC), .int .i64 p.ne, .int .i64 p.ed, .int .i64 p.gr, .int .i64 p.lo, .int .i64 p.hi, .int .i64 p.sh, .int .i64 p.wi], .agg #[.int .i64 a, .int .i64 b], .int .i64 shore] W fun e w' => e = .returned (.int .i64 (eWav p a b shore)) ∧ Below W.heap.size W w') := fun W hW => waves_any p _ _ a b shore W (PairsAt.later hS hW) (PairsAt.later hC hW)
  have HG : Hid (eWav p a b shore = 0 → ∀ s W, Blk W s #[.int .i64 p.s0, .int .i64 p.s1, (.slice aS p.S.n cS), (.slice aC p.C.n cC), .int .i64 p.ne, .int .i64 p.ed, .int .i64 p.gr, .int .i64 p.lo, .int .i64 p.hi, .int .i64 p.sh, .int .i64 p.wi] 26 → Blk W (s + 1) #[.int .i64 a, .int .i64 b] 23 → Blk W (s + 1 + 1) #[.int .i64 shore] 3 → Calls Try.prog 106 #[.func (.func 138) #[] #[.pointer (some ⟨s, 0, none⟩), .pointer (some ⟨s + 1, 0, none⟩), .pointer (some ⟨s + 1 + 1, 0, none⟩)]] W fun e w' => ∃ u, e = .returned u ∧ w'.ownsRow W.heap.size 23 2 u (spdS p a b shore).m (catC (pairC (spdS p a b shore).A (spdS p a b shore).B) (spdS p a b shore).m) ∧ Below W.heap.size W w') := fun h s W k1 k2 k3 => by
    obtain ⟨h3, h4⟩ := orE_inv h
    obtain ⟨h5, h6⟩ := orE_inv h4
    have e : spdS p a b shore = spV (spdF p a b shore) 1001 := by unfold spdS; rw [if_pos h]
    rw [e]
    exact (spans_in s p (ePl_inv h3) aS aC cS cC a b shore (eS_inv h5) W k1 k2 k3).mono fun e w' ⟨u, h1, h2, h3⟩ => ⟨u, h1, h2, h3⟩
  have HS : Hid (eWav p a b shore ≠ 0 → spdS p a b shore = ⟨0, fun _ => 0, fun _ => 0⟩) := fun h => by unfold spdS; rw [if_neg h]
  generalize spdS p a b shore = sp at HG HS ⊢
  generalize eWav p a b shore = x1 at HR HG HS ⊢
  clear hS hC
  have jP := (Blk.new w #[.int .i64 p.s0, .int .i64 p.s1, (.slice aS p.S.n cS), (.slice aC p.C.n cC), .int .i64 p.ne, .int .i64 p.ed, .int .i64 p.gr, .int .i64 p.lo, .int .i64 p.hi, .int .i64 p.sh, .int .i64 p.wi] 26).alloc (.cells #[.int .i64 a, .int .i64 b] 23)
  have jD := Blk.new1 w (.cells #[.int .i64 p.s0, .int .i64 p.s1, (.slice aS p.S.n cS), (.slice aC p.C.n cC), .int .i64 p.ne, .int .i64 p.ed, .int .i64 p.gr, .int .i64 p.lo, .int .i64 p.hi, .int .i64 p.sh, .int .i64 p.wi] 26) #[.int .i64 a, .int .i64 b] 23
  have jB : Below w.heap.size w ((w.alloc (.cells #[.int .i64 p.s0, .int .i64 p.s1, (.slice aS p.S.n cS), (.slice aC p.C.n cC), .int .i64 p.ne, .int .i64 p.ed, .int .i64 p.gr, .int .i64 p.lo, .int .i64 p.hi, .int .i64 p.sh, .int .i64 p.wi] 26)).alloc (.cells #[.int .i64 a, .int .i64 b] 23)) := by (repeat (first | exact Below.refl _ _ | assumption | refine Below.drew ?_ | refine Below.drewN ?_ _ | refine blT ?_ | refine blU ?_))
  go_enter Try.func46, Try.ntmps46
  go_upto_region 1 with fail
  obtain ⟨c0, c1, c2, c3, c4, c5, c6, c7, c8, c9, c10⟩ := jP.c11
  have zP := jP.lt
  obtain ⟨f0, f1⟩ := jD.c2
  have zD := jD.lt
  go_wp2_with fail
  clear c0 c1 c2 c3 c4 c5 c6 c7 c8 c9 c10 zP f0 f1 zD
  refine (HR.out _ jB).mono ?_
  rintro e V ⟨rfl, hb⟩
  replace jP := jP.call hb
  replace jD := jD.call hb
  replace jB := bwS jB (Nat.le_refl _) hb
  clear hb HR
  by_cases e1 : x1 = 0
  · subst e1
    have HGn := Lib.hid (HG.out rfl)
    clear HG HS
    obtain ⟨c0, c1, c2, c3, c4, c5, c6, c7, c8, c9, c10⟩ := jP.c11
    have zP := jP.lt
    obtain ⟨f0, f1⟩ := jD.c2
    have zD := jD.lt
    go_wp2_with fail
    clear c0 c1 c2 c3 c4 c5 c6 c7 c8 c9 c10 zP f0 f1 zD
    refine (sure_any _ _ _ _ _ _ _ _ _ _ _).mono ?_
    rintro e w5 ⟨rfl, hw⟩
    have gP := ((Blk.new V #[.int .i64 p.s0, .int .i64 p.s1, (.slice aS p.S.n cS), (.slice aC p.C.n cC), .int .i64 p.ne, .int .i64 p.ed, .int .i64 p.gr, .int .i64 p.lo, .int .i64 p.hi, .int .i64 p.sh, .int .i64 p.wi] 26).alloc (.cells #[.int .i64 a, .int .i64 b] 23)).alloc (.cells #[.int .i64 shore] 3)
    have gD := (Blk.new1 V (.cells #[.int .i64 p.s0, .int .i64 p.s1, (.slice aS p.S.n cS), (.slice aC p.C.n cC), .int .i64 p.ne, .int .i64 p.ed, .int .i64 p.gr, .int .i64 p.lo, .int .i64 p.hi, .int .i64 p.sh, .int .i64 p.wi] 26) #[.int .i64 a, .int .i64 b] 23).alloc (.cells #[.int .i64 shore] 3)
    have gS := Blk.new2 V (.cells #[.int .i64 p.s0, .int .i64 p.s1, (.slice aS p.S.n cS), (.slice aC p.C.n cC), .int .i64 p.ne, .int .i64 p.ed, .int .i64 p.gr, .int .i64 p.lo, .int .i64 p.hi, .int .i64 p.sh, .int .i64 p.wi] 26) (.cells #[.int .i64 a, .int .i64 b] 23) #[.int .i64 shore] 3
    have kB : Below w.heap.size w w5 := by rw [← hw]; exact bwA (bwA (bwA jB (Nat.le_refl _) _) (Nat.le_refl _) _) (Nat.le_refl _) _
    rw [hw] at gP gD gS
    clear hw jP jD jB
    go_wp2_with fail
    refine (HGn.out _ _ gP gD gS).mono ?_
    rintro e w6 ⟨u, rfl, hu, hb⟩
    have HU := Lib.hid hu
    have zw := kB.size
    replace kB := bwS kB (Nat.le_refl _) hb
    clear hb hu gP gD gS
    go_wp2
    exact bodyPost_ret (v := .tuple #[u, .int .i64 0]) (by simp [results, Try.results46, go_sem]) rfl ⟨u, rfl, ownsRow_base HU.out zw, kB⟩
  · have e4 : (x1 != 0) = true := by simpa using e1
    have hsp := HS.out e1
    subst hsp
    clear e1 HG HS
    go_wp2
    exact bodyPost_ret (v := .tuple #[.slice none 0 0, .int .i64 x1]) (by simp [results, Try.results46, go_sem]) rfl ⟨_, rfl, World.ownsRow_nil _ _ _ _, jB⟩

theorem khas_any (lo hi n : Int) (w : World) :
    Calls Try.prog 68 #[.agg #[.int .i64 lo, .int .i64 hi], .int .i64 n] w fun e w' => e = .returned (.bool (decide (lo ≤ n) && decide (n ≤ hi))) ∧ Below w.heap.size w w' := by
  by_cases h1 : lo ≤ n
  · go_enter Try.func68, Try.ntmps68
    go_wp2
    go_ret
    exact ⟨by simp [h1], by (repeat (first | exact Below.refl _ _ | assumption | refine Below.drew ?_ | refine Below.drewN ?_ _ | refine blT ?_ | refine blU ?_))⟩
  · go_enter Try.func68, Try.ntmps68
    go_wp2
    go_ret
    exact ⟨by simp; omega, by (repeat (first | exact Below.refl _ _ | assumption | refine Below.drew ?_ | refine Below.drewN ?_ _ | refine blT ?_ | refine blU ?_))⟩
theorem row_new4 (W : World) (base : Nat) (hb : base ≤ W.heap.size) (a b c d : Int) (t : TypeId) : (W.alloc (.cells #[.int .i64 a, .int .i64 b, .int .i64 c, .int .i64 d] t)).ownsRow base t 1 (.slice (some ⟨W.heap.size, 0, none⟩) 4 4) 4 [.int .i64 a, .int .i64 b, .int .i64 c, .int .i64 d] :=
  ⟨rfl, .inr ⟨W.heap.size, 4, #[.int .i64 a, .int .i64 b, .int .i64 c, .int .i64 d], rfl, hb, Blk.new W _ _, by omega, by unfold maxLen; omega, rfl, rfl⟩⟩
def fourW (x0 x1 x2 x3 : Int) (i : Nat) : Int := match i with | 0 => x0 | 1 => x1 | 2 => x2 | _ => x3
def up4 (X : Nat → Int) (c : Nat) (a b d e : Int) : Nat → Int := upI (upI (upI (upI X c a) (c + 1) b) (c + 1 + 1) d) (c + 1 + 1 + 1) e
theorem up4_row (X : Nat → Int) (c : Nat) (a b d e : Int) : catC (intC X) c ++ [.int .i64 a, .int .i64 b, .int .i64 d, .int .i64 e] = catC (intC (up4 X c a b d e)) (c + 4) := by
  show _ = catC (intC (up4 X c a b d e)) (c + 1 + 1 + 1 + 1)
  unfold up4
  rw [intC_up, intC_up, intC_up, intC_up]
  simp
theorem up4_in {X : Nat → Int} {c : Nat} {a b d e lo hi : Int} (h : ∀ i, i < c → lo ≤ X i ∧ X i ≤ hi) (ha : lo ≤ a ∧ a ≤ hi) (hb : lo ≤ b ∧ b ≤ hi) (hd : lo ≤ d ∧ d ≤ hi) (he : lo ≤ e ∧ e ≤ hi) : ∀ i, i < c + 4 → lo ≤ up4 X c a b d e i ∧ up4 X c a b d e i ≤ hi := fun i hi4 => by
  unfold up4
  by_cases e1 : i = c + 1 + 1 + 1
  · subst e1; rw [upI_at]; exact he
  · rw [upI_ne _ _ _ _ e1]
    by_cases e2 : i = c + 1 + 1
    · subst e2; rw [upI_at]; exact hd
    · rw [upI_ne _ _ _ _ e2]
      by_cases e3 : i = c + 1
      · subst e3; rw [upI_at]; exact hb
      · rw [upI_ne _ _ _ _ e3]
        by_cases e4 : i = c
        · subst e4; rw [upI_at]; exact ha
        · rw [upI_ne _ _ _ _ e4]
          exact h i (by omega)
theorem awRD {w W : World} {o : Obj} {base s n : Nat} {e : TypeId} {v : Value} {xs : List Value} (h : (w.alloc o).drew = W) (k : w.ownsRow base e s v n xs) : W.ownsRow base e s v n xs := h ▸ (k.alloc o).drew
theorem news_four {W : World} {b : Nat} {x y z u : Int} {t : TypeId} (h : Blk W b #[.int .i64 x, .int .i64 y, .int .i64 z, .int .i64 u] t) : ∀ (j : Nat) (v : Value), [Value.int .i64 x, .int .i64 y, .int .i64 z, .int .i64 u][j]? = some v → W.cell? ((⟨b, 0, none⟩ : Addr).add j) = some v := by
  intro j v hj
  have e : (⟨b, 0, none⟩ : Addr).add j = ⟨b, j, none⟩ := by simp [Addr.add]; intro hj; exact hj.symm
  rw [e]
  exact h.cell j (by simpa using hj)
def inV (A B : Nat → Int) (x : Int) : Nat → Bool
  | 0 => false
  | n + 1 => inV A B x n || (decide (A n ≤ x) && decide (x ≤ B n))
theorem inV_iff (A B : Nat → Int) (x : Int) : ∀ n, inV A B x n = true ↔ ∃ i, i < n ∧ A i ≤ x ∧ x ≤ B i
  | 0 => by simp [inV]
  | n + 1 => by
    rw [inV, Bool.or_eq_true, inV_iff A B x n]
    simp only [Bool.and_eq_true, decide_eq_true_eq]
    constructor
    · rintro (⟨i, h1, h2⟩ | h)
      · exact ⟨i, by omega, h2⟩
      · exact ⟨n, by omega, h⟩
    · rintro ⟨i, h1, h2⟩
      by_cases e : i = n
      · subst e; exact .inr h2
      · exact .inl ⟨i, by omega, h2⟩
end Go.Proofs.Ytfakmggabicdjaa
