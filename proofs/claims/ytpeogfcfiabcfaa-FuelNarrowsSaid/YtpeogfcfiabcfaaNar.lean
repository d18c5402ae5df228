/-
  narrow (package fuel): what one side of a set leaves of what is known.
-/
import Derived.Test.YtpeogfcfiabcfaaTail
import Derived.Test.YtpeogfcfiabcfaaSum
import Derived.Test.YtpeogfcfiabcfaaAcl
import Derived.Test.YtpeogfcfiabcfaaShare
set_option linter.unusedVariables false
set_option linter.unusedSimpArgs false
namespace Go.Proofs.Ytpeogfcfiabcfaa
open Go.RowKit

def upI (f : Nat → Int) (k : Nat) (v : Int) : Nat → Int := fun i => if i = k then v else f i
theorem upI_at (f : Nat → Int) (k : Nat) (v : Int) : upI f k v k = v := if_pos rfl
theorem upI_ne (f : Nat → Int) (k i : Nat) (v : Int) (h : i ≠ k) : upI f k v i = f i := if_neg h
theorem upI_self (f : Nat → Int) (k : Nat) : upI f k (f k) = f := by
  funext i
  by_cases h : i = k
  · subst h; exact upI_at _ _ _
  · exact upI_ne _ _ _ _ h
theorem upI_up (f : Nat → Int) (k : Nat) (u v : Int) : upI (upI f k u) k v = upI f k v := by
  funext i
  by_cases h : i = k
  · subst h; rw [upI_at, upI_at]
  · rw [upI_ne _ _ _ _ h, upI_ne _ _ _ _ h, upI_ne _ _ _ _ h]
def KnAt (w : World) (b n : Nat) (A B : Nat → Int) : Prop := ∃ C, Blk w b C 26 ∧ ∀ i, i < n → C[i * 2]? = some (.int .i64 (A i)) ∧ C[i * 2 + 1]? = some (.int .i64 (B i))
theorem KnAt.cell {w : World} {b n : Nat} {A B : Nat → Int} (h : KnAt w b n A B) {i : Nat} (hi : i < n) : w.cell? ⟨b, i * 2, none⟩ = some (.int .i64 (A i)) ∧ w.cell? ⟨b, i * 2 + 1, none⟩ = some (.int .i64 (B i)) := by
  obtain ⟨C, hC, hc⟩ := h
  exact ⟨hC.cell _ (hc i hi).1, hC.cell _ (hc i hi).2⟩
theorem KnAt.free {w : World} {b n : Nat} {A B : Nat → Int} (h : KnAt w b n A B) (j : Nat) : w.frozen? ⟨b, j, none⟩ = false := by
  obtain ⟨C, hC, hc⟩ := h
  exact hC.free j
theorem KnAt.lt {w : World} {b n : Nat} {A B : Nat → Int} (h : KnAt w b n A B) : b < w.heap.size := by
  obtain ⟨C, hC, hc⟩ := h
  exact hC.lt
theorem KnAt.later {w w' : World} {b n : Nat} {A B : Nat → Int} (h : KnAt w b n A B) (hb : Below w.heap.size w w') : KnAt w' b n A B := by
  obtain ⟨C, hC, hc⟩ := h
  exact ⟨C, hC.call hb, hc⟩
theorem KnAt.below {B9 : Nat} {w w' : World} {b n : Nat} {A B : Nat → Int} (h : KnAt w b n A B) (hb : Below B9 w w') (hB : b < B9) : KnAt w' b n A B := by
  obtain ⟨C, hC, hc⟩ := h
  exact ⟨C, hC.below hb hB, hc⟩
theorem KnAt.alloc {w : World} {b n : Nat} {A B : Nat → Int} (h : KnAt w b n A B) (o : Obj) : KnAt (w.alloc o) b n A B := h.later ((Below.refl _ _).alloc (Nat.le_refl _) o)
theorem KnAt.drew {w : World} {b n : Nat} {A B : Nat → Int} (h : KnAt w b n A B) : KnAt w.drew b n A B := h
theorem KnAt.setA {w : World} {b n : Nat} {A B : Nat → Int} (h : KnAt w b n A B) {i : Nat} (hi : i < n) (x : Int) : KnAt (w.setCell ⟨b, i * 2, none⟩ (.int .i64 x)) b n (upI A i x) B := by
  obtain ⟨C, hC, hc⟩ := h
  refine ⟨_, hC.set (i * 2) _, fun j hj => ?_⟩
  have h1 := hc j hj
  have hsz : i * 2 < C.size := by
    have := (hc i hi).1
    exact (Array.getElem?_eq_some_iff.1 this).1
  refine ⟨?_, by rw [Array.getElem?_setIfInBounds_ne (by omega)]; exact h1.2⟩
  by_cases e : j = i
  · subst e
    rw [Array.getElem?_setIfInBounds_self_of_lt hsz, upI_at]
  · rw [Array.getElem?_setIfInBounds_ne (by omega), upI_ne _ _ _ _ e]; exact h1.1
theorem KnAt.setB {w : World} {b n : Nat} {A B : Nat → Int} (h : KnAt w b n A B) {i : Nat} (hi : i < n) (x : Int) : KnAt (w.setCell ⟨b, i * 2 + 1, none⟩ (.int .i64 x)) b n A (upI B i x) := by
  obtain ⟨C, hC, hc⟩ := h
  refine ⟨_, hC.set (i * 2 + 1) _, fun j hj => ?_⟩
  have h1 := hc j hj
  have hsz : i * 2 + 1 < C.size := by
    have := (hc i hi).2
    exact (Array.getElem?_eq_some_iff.1 this).1
  refine ⟨by rw [Array.getElem?_setIfInBounds_ne (by omega)]; exact h1.1, ?_⟩
  by_cases e : j = i
  · subst e
    rw [Array.getElem?_setIfInBounds_self_of_lt hsz, upI_at]
  · rw [Array.getElem?_setIfInBounds_ne (by omega), upI_ne _ _ _ _ e]; exact h1.2
def KnAt.wld {w : World} {b n : Nat} {A B : Nat → Int} (_ : KnAt w b n A B) : World := w
theorem knIn {w W W' : World} {r : Option Nat} {b n : Nat} {A B : Nat → Int} (g : w.grownBy W r) (h : KnAt W' b n A B) (e : W' = W := by rfl) : KnAt W b n A B := e ▸ h
theorem KnAt.ne {w : World} {b n : Nat} {A B : Nat → Int} (h : KnAt w b n A B) {c : Nat} {D : Array Value} {t : TypeId} (hD : Blk w c D t) (ht : t ≠ 26) : b ≠ c := by
  rintro rfl
  obtain ⟨C, hC, _⟩ := h
  unfold Blk at hC hD
  rw [hC] at hD
  simp at hD
  exact ht hD.2.symm

def nrA (E : Nat → Fl) (c : Fl → Bool) (x y : Int) (A : Nat → Int) (k i : Nat) : Int := if i < k ∧ c (E i) = true then max (A i) (x - (y - (E i).h)) else A i
def nrB (E : Nat → Fl) (c : Fl → Bool) (x y : Int) (B : Nat → Int) (k i : Nat) : Int := if i < k ∧ c (E i) = true then min (B i) (x - (y - (E i).l)) else B i
theorem nrA_0 (E : Nat → Fl) (c : Fl → Bool) (x y : Int) (A : Nat → Int) : nrA E c x y A 0 = A := by funext i; exact if_neg (by omega)
theorem nrB_0 (E : Nat → Fl) (c : Fl → Bool) (x y : Int) (A : Nat → Int) : nrB E c x y A 0 = A := by funext i; exact if_neg (by omega)
theorem nrA_at (E : Nat → Fl) (c : Fl → Bool) (x y : Int) (A : Nat → Int) (k : Nat) : nrA E c x y A k k = A k := if_neg (by omega)
theorem nrB_at (E : Nat → Fl) (c : Fl → Bool) (x y : Int) (A : Nat → Int) (k : Nat) : nrB E c x y A k k = A k := if_neg (by omega)
theorem nrA_n (E : Nat → Fl) (c : Fl → Bool) (x y : Int) (A : Nat → Int) (k : Nat) (h : c (E k) = false) : nrA E c x y A (k + 1) = nrA E c x y A k := by
  funext i
  unfold nrA
  by_cases e : i = k
  · subst e; rw [if_neg (by rw [h]; simp), if_neg (by omega)]
  · by_cases hi : i < k ∧ c (E i) = true
    · rw [if_pos hi, if_pos ⟨by omega, hi.2⟩]
    · rw [if_neg hi, if_neg (fun q => hi ⟨by omega, q.2⟩)]
theorem nrB_n (E : Nat → Fl) (c : Fl → Bool) (x y : Int) (A : Nat → Int) (k : Nat) (h : c (E k) = false) : nrB E c x y A (k + 1) = nrB E c x y A k := by
  funext i
  unfold nrB
  by_cases e : i = k
  · subst e; rw [if_neg (by rw [h]; simp), if_neg (by omega)]
  · by_cases hi : i < k ∧ c (E i) = true
    · rw [if_pos hi, if_pos ⟨by omega, hi.2⟩]
    · rw [if_neg hi, if_neg (fun q => hi ⟨by omega, q.2⟩)]
theorem nrA_y (E : Nat → Fl) (c : Fl → Bool) (x y : Int) (A : Nat → Int) (k : Nat) (h : c (E k) = true) : nrA E c x y A (k + 1) = upI (nrA E c x y A k) k (max (A k) (x - (y - (E k).h))) := by
  funext i
  by_cases e : i = k
  · subst e; rw [upI_at]; unfold nrA; rw [if_pos ⟨by omega, h⟩]
  · rw [upI_ne _ _ _ _ e]
    unfold nrA
    by_cases hi : i < k ∧ c (E i) = true
    · rw [if_pos hi, if_pos ⟨by omega, hi.2⟩]
    · rw [if_neg hi, if_neg (fun q => hi ⟨by omega, q.2⟩)]
theorem nrB_y (E : Nat → Fl) (c : Fl → Bool) (x y : Int) (A : Nat → Int) (k : Nat) (h : c (E k) = true) : nrB E c x y A (k + 1) = upI (nrB E c x y A k) k (min (A k) (x - (y - (E k).l))) := by
  funext i
  by_cases e : i = k
  · subst e; rw [upI_at]; unfold nrB; rw [if_pos ⟨by omega, h⟩]
  · rw [upI_ne _ _ _ _ e]
    unfold nrB
    by_cases hi : i < k ∧ c (E i) = true
    · rw [if_pos hi, if_pos ⟨by omega, hi.2⟩]
    · rw [if_neg hi, if_neg (fun q => hi ⟨by omega, q.2⟩)]
theorem grown_set {w W : World} {b : Nat} (g : w.grownBy W (some b)) (j : Nat) (u : Value) : w.grownBy (W.setCell ⟨b, j, none⟩ u) (some b) :=
  ⟨g.os, g.tape, g.output, by simpa using g.size, fun k hk hne => (Below.heap_setCell W ⟨b, j, none⟩ u k (fun e => hne (by rw [e]))).trans (g.block k hk hne)⟩
theorem grown_alloc {w W : World} {b : Nat} (g : w.grownBy W (some b)) (o : Obj) : w.grownBy (W.alloc o) (some b) := grownBy_trans' g (grown_below' ((Below.refl _ _).alloc (Nat.le_refl _) o))
theorem grown_call {w W W' : World} {b : Nat} (g : w.grownBy W (some b)) (h : Below W.heap.size W W') : w.grownBy W' (some b) := grownBy_trans' g (grown_below' h)
theorem Blk.setOther {w : World} {b c : Nat} {C : Array Value} {t : TypeId} (h : Blk w b C t) (hne : b ≠ c) (j : Nat) (u : Value) : Blk (w.setCell ⟨c, j, none⟩ u) b C t := h.other _ _ hne

set_option maxRecDepth 100000 in
set_option maxHeartbeats 4000000 in
theorem narrow_into (E : Nat → Fl) (m s bh bk cap : Nat) (A B : Nat → Int) (y2 y1 x1 x2 : Int) (hy : 0 ≤ y2 ∧ y2 ≤ 2760000000000 ∧ 0 ≤ y1 ∧ y1 ≤ 2760000000000) (hx : 0 ≤ x1 ∧ x1 ≤ 2760000000000 ∧ 0 ≤ x2 ∧ x2 ≤ 2760000000000) (hE : FlOk E m) (hs : s < 1048576) (hcap : m ≤ cap) (v : Value) (w : World)
    (hF : ∀ W, w.grownBy W (some bk) → FlsAt W v m E) (hh : ∀ W, w.grownBy W (some bk) → HasAt W bh s) (hK : KnAt w bk m A B) :
    Calls Try.prog 128 #[.slice (some ⟨bk, 0, none⟩) m cap, v, .func (.func 151) #[] #[.pointer (some ⟨bh, 0, none⟩)], .agg #[.int .i64 y2, .int .i64 y1], .agg #[.int .i64 x1, .int .i64 x2]] w
      fun e w' => (∃ r, e = .returned r) ∧ KnAt w' bk m (nrA E (cIn (bS s)) x1 y1 A m) (nrB E (cIn (bS s)) x2 y2 B m) ∧ w.grownBy w' (some bk) := by
  have HF := Lib.hid hF
  obtain ⟨a, cap2, rfl, g1, g2, hz0⟩ := hF w (grown_refl _ _)
  clear hz0
  have h60 := hE.1
  have HE := Lib.hid hE
  have HH := Lib.hid hh
  have zk0 := hK.lt
  obtain ⟨AA, hAA⟩ : ∃ AA, nrA E (cIn (bS s)) x1 y1 A = AA := ⟨_, rfl⟩
  obtain ⟨BB, hBB⟩ : ∃ BB, nrB E (cIn (bS s)) x2 y2 B = BB := ⟨_, rfl⟩
  have HA0 : Hid (AA 0 = A ∧ BB 0 = B) := by rw [← hAA, ← hBB]; exact ⟨nrA_0 _ _ _ _ _, nrB_0 _ _ _ _ _⟩
  have HAk : Hid (∀ k, AA k k = A k ∧ BB k k = B k) := fun k => by rw [← hAA, ← hBB]; exact ⟨nrA_at _ _ _ _ _ k, nrB_at _ _ _ _ _ k⟩
  have HAn : Hid (∀ k, cIn (bS s) (E k) = false → AA (k + 1) = AA k ∧ BB (k + 1) = BB k) := fun k h => by rw [← hAA, ← hBB]; exact ⟨nrA_n _ _ _ _ _ k h, nrB_n _ _ _ _ _ k h⟩
  have HAy : Hid (∀ k, cIn (bS s) (E k) = true → AA (k + 1) = upI (AA k) k (max (A k) (x1 - (y1 - (E k).h))) ∧ BB (k + 1) = upI (BB k) k (min (B k) (x2 - (y2 - (E k).l)))) := fun k h => by rw [← hAA, ← hBB]; exact ⟨nrA_y _ _ _ _ _ k h, nrB_y _ _ _ _ _ k h⟩
  rw [hAA, hBB]
  clear hF hE hh hAA hBB
  have jO := (Blk.new w #[.int .i64 y2, .int .i64 y1] 26).alloc (.cells #[.int .i64 x1, .int .i64 x2] 26)
  have jT := Blk.new1 w (.cells #[.int .i64 y2, .int .i64 y1] 26) #[.int .i64 x1, .int .i64 x2] 26
  have jK : KnAt ((w.alloc (.cells #[.int .i64 y2, .int .i64 y1] 26)).alloc (.cells #[.int .i64 x1, .int .i64 x2] 26)) bk m (AA 0) (BB 0) := by rw [HA0.out.1, HA0.out.2]; exact (hK.alloc _).alloc _
  have jG : w.grownBy ((w.alloc (.cells #[.int .i64 y2, .int .i64 y1] 26)).alloc (.cells #[.int .i64 x1, .int .i64 x2] 26)) (some bk) := grown_alloc (grown_alloc (grown_refl _ _) _) _
  clear hK
  go_enter Try.func128, Try.ntmps128
  go_wp2
  go_loopw [14] (fun i wr => ∃ k : Nat, k ≤ m ∧ i = .int .i64 k ∧ Blk wr w.heap.size #[.int .i64 y2, .int .i64 y1] 26 ∧ Blk wr (w.heap.size + 1) #[.int .i64 x1, .int .i64 x2] 26 ∧ KnAt wr bk m (AA k) (BB k) ∧ w.grownBy wr (some bk)) (fun i _ => m - (intOf i).toNat)
  case atStart => exact ⟨0, Nat.zero_le _, rfl, jO, jT, jK, jG⟩
  case round =>
    clear jO jT jK jG
    obtain ⟨k, hk, rfl, jO, jT, jK, jG⟩ := hrel
    by_cases hlt : k < m
    · obtain ⟨a2, cap3, hv, _, _, hz⟩ := HF.out wr jG
      simp only [Value.slice.injEq] at hv
      obtain ⟨rfl, _, rfl⟩ := hv
      obtain ⟨b, o, rfl, hc⟩ := hz (by omega)
      clear hz
      obtain ⟨a0, a1, a2, a3⟩ := AtC.c4 hc hlt rfl
      have hbs := World.block_lt_of_cell? _ _ a0
      have hE := HE.out.2 k hlt
      have HAk1 := Lib.hid (HAk.out k)
      have HAn1 := Lib.hid (HAn.out k)
      have HAy1 := Lib.hid (HAy.out k)
      have K := Lib.hid (fun (W : World) (h : w.grownBy W (some bk)) => into_any (E k) s bh hE.1 hE.2.1 hs W (HH.out W h))
      obtain ⟨f, hf⟩ : ∃ f, E k = f := ⟨_, rfl⟩
      rw [hf] at a0 a1 a2 a3 hE K HAn1 HAy1
      obtain ⟨c, hcc⟩ : ∃ c, cIn (bS s) f = c := ⟨_, rfl⟩
      rw [hcc] at K HAn1 HAy1
      obtain ⟨_, _, f1, f2, f3, f4⟩ := hE
      have zO := jO.lt
      have zT := jT.lt
      have zW : w.heap.size ≤ wr.heap.size := jG.size
      have jF := Blk.new wr #[.int .i64 f.a, .int .i64 f.b, .int .i64 f.l, .int .i64 f.h] 145
      replace jO := jO.alloc (.cells #[.int .i64 f.a, .int .i64 f.b, .int .i64 f.l, .int .i64 f.h] 145)
      replace jT := jT.alloc (.cells #[.int .i64 f.a, .int .i64 f.b, .int .i64 f.l, .int .i64 f.h] 145)
      replace jK := jK.alloc (.cells #[.int .i64 f.a, .int .i64 f.b, .int .i64 f.l, .int .i64 f.h] 145)
      replace jG := grown_alloc jG (.cells #[.int .i64 f.a, .int .i64 f.b, .int .i64 f.l, .int .i64 f.h] 145)
      have FF := Lib.hid jF
      clear hf hcc hc jF
      go_wp2_with fail
      refine (K.out _ jG).mono ?_
      rintro e w2 ⟨rfl, hb⟩
      have jF := FF.out.call hb
      replace jO := jO.call hb
      replace jT := jT.call hb
      replace jK := jK.later hb
      replace jG := grown_call jG hb
      clear hb a0 a1 a2 a3 hbs FF K
      have zF := jF.lt
      cases c with
      | false =>
        have H0 := Lib.hid (HAn1.out rfl)
        go_wp2
        go_roundw
        case rel => exact ⟨k + 1, by omega, by go_num, jO, jT, by rw [H0.out.1, H0.out.2]; exact jK, jG⟩
        case measure => simp [intOf]; omega
      | true =>
        have H0 := Lib.hid (HAy1.out rfl)
        clear HAn1 HAy1
        obtain ⟨u, hu⟩ : ∃ u, A k = u := ⟨_, rfl⟩
        obtain ⟨uu, huu⟩ : ∃ u, B k = u := ⟨_, rfl⟩
        rw [hu, huu] at H0 HAk1
        clear hu huu
        obtain ⟨Ak, hAk⟩ : ∃ q, AA k = q := ⟨_, rfl⟩
        obtain ⟨Bk, hBk⟩ : ∃ q, BB k = q := ⟨_, rfl⟩
        rw [hAk, hBk] at H0 HAk1 jK
        clear hAk hBk
        obtain ⟨z, hz⟩ : ∃ z, max u (x1 - (y1 - f.h)) = z := ⟨_, rfl⟩
        obtain ⟨zz, hz2⟩ : ∃ z, min uu (x2 - (y2 - f.l)) = z := ⟨_, rfl⟩
        rw [hz, hz2] at H0
        have HZ2 := Lib.hid hz2
        have hz' : max u (x1 - (y1 - f.h)) = z := hz
        rw [← HAk1.out.1] at hz
        have hzz : max z (x1 - (y1 - f.h)) = z := by omega
        have hv1 : IntKind.i64.wrap (y1 - f.h) = y1 - f.h := IntWalk.i64_in _ (by omega)
        have hv2 : IntKind.i64.wrap (x1 - (y1 - f.h)) = x1 - (y1 - f.h) := IntWalk.i64_in _ (by omega)
        clear hz2 hz'
        go_wp2_with fail

        refine wp_region_held_drew (S := (fun w' => Blk w' (w.heap.size) #[.int .i64 y2, .int .i64 y1] 26 ∧ Blk w' (w.heap.size + 1) #[.int .i64 x1, .int .i64 x2] 26 ∧ Blk w' wr.heap.size #[.int .i64 f.a, .int .i64 f.b, .int .i64 f.l, .int .i64 f.h] 145 ∧ w.grownBy w' (some bk) ∧ ∃ y, max y (x1 - (y1 - f.h)) = z ∧ KnAt w' bk m (upI Ak k y) Bk)) (by kernel_rfl) ?_ (fun hH => ?_)
        · (try dsimp only); (exact ⟨jO.drew, jT.drew, jF.drew, grown_call jG ((Below.refl _ _).drew), _, hz, by rw [upI_self]; exact jK⟩)
        refine tkY 0 (some 22) ?_ ?_ ?_
        rotate_left
        · intro w _; go_simp; (try with_reducible rfl)
        (try simp only [cq])
        refine tkY 1 (some 23) ?_ ?_ ?_
        rotate_left
        · intro w _; go_simp; (try with_reducible rfl)
        (try simp only [cq])
        refine tkY 2 (some 24) ?_ ?_ ?_
        rotate_left
        · intro w _; go_simp; (try with_reducible rfl)
        (try simp only [cq])
        refine tkY 3 (some 25) ?_ ?_ ?_
        rotate_left
        · intro w _; go_simp; (try with_reducible rfl)
        (try simp only [cq])
        refine tkY 4 (some 26) ?_ ?_ ?_
        rotate_left
        · intro w hS0; (try dsimp only at hS0); obtain ⟨kO, kT, kF, kG, _⟩ := hS0; obtain ⟨o0, o1⟩ := kO.c2; obtain ⟨t0, t1⟩ := kT.c2; obtain ⟨f0, f1, f2, f3⟩ := kF.c4; have yO := kO.lt; have yT := kT.lt; have yF := kF.lt;go_simp; (try with_reducible rfl)
        (try simp only [cq])
        refine tkY 5 (some 27) ?_ ?_ ?_
        rotate_left
        · intro w hS0; (try dsimp only at hS0); obtain ⟨kO, kT, kF, kG, _⟩ := hS0; obtain ⟨o0, o1⟩ := kO.c2; obtain ⟨t0, t1⟩ := kT.c2; obtain ⟨f0, f1, f2, f3⟩ := kF.c4; have yO := kO.lt; have yT := kT.lt; have yF := kF.lt;go_simp; (try with_reducible rfl)
        (try simp only [cq])
        refine tkY 7 (some 29) ?_ ?_ ?_
        rotate_left
        · intro w hS0; (try dsimp only at hS0); obtain ⟨kO, kT, kF, kG, _⟩ := hS0; obtain ⟨o0, o1⟩ := kO.c2; obtain ⟨t0, t1⟩ := kT.c2; obtain ⟨f0, f1, f2, f3⟩ := kF.c4; have yO := kO.lt; have yT := kT.lt; have yF := kF.lt;go_simp; (try with_reducible rfl)
        (try simp only [cq])
        refine tkY 8 (some 30) ?_ ?_ ?_
        rotate_left
        · intro w hS0; (try dsimp only at hS0); obtain ⟨kO, kT, kF, kG, _⟩ := hS0; obtain ⟨o0, o1⟩ := kO.c2; obtain ⟨t0, t1⟩ := kT.c2; obtain ⟨f0, f1, f2, f3⟩ := kF.c4; have yO := kO.lt; have yT := kT.lt; have yF := kF.lt;go_simp; (try with_reducible rfl)
        (try simp only [cq])
        refine tkY 9 (some 31) ?_ ?_ ?_
        rotate_left
        · intro w hS0; (try dsimp only at hS0); obtain ⟨kO, kT, kF, kG, _⟩ := hS0; obtain ⟨o0, o1⟩ := kO.c2; obtain ⟨t0, t1⟩ := kT.c2; obtain ⟨f0, f1, f2, f3⟩ := kF.c4; have yO := kO.lt; have yT := kT.lt; have yF := kF.lt;go_simp; (try with_reducible rfl)
        (try simp only [cq])
        refine tkY 10 (some 32) ?_ ?_ ?_
        rotate_left
        · intro w hS0; (try dsimp only at hS0); obtain ⟨kO, kT, kF, kG, _⟩ := hS0; obtain ⟨o0, o1⟩ := kO.c2; obtain ⟨t0, t1⟩ := kT.c2; obtain ⟨f0, f1, f2, f3⟩ := kF.c4; have yO := kO.lt; have yT := kT.lt; have yF := kF.lt;go_simp; (try with_reducible rfl)
        (try simp only [cq])
        refine tkY 11 (some 33) ?_ ?_ ?_
        rotate_left
        · intro w hS0; (try dsimp only at hS0); obtain ⟨kO, kT, kF, kG, _⟩ := hS0; obtain ⟨o0, o1⟩ := kO.c2; obtain ⟨t0, t1⟩ := kT.c2; obtain ⟨f0, f1, f2, f3⟩ := kF.c4; have yO := kO.lt; have yT := kT.lt; have yF := kF.lt;go_simp; (try with_reducible rfl)
        (try simp only [cq])
        refine tkY 12 (some 34) ?_ ?_ ?_
        rotate_left
        · intro w hS0; (try dsimp only at hS0); obtain ⟨kO, kT, kF, kG, _⟩ := hS0; obtain ⟨o0, o1⟩ := kO.c2; obtain ⟨t0, t1⟩ := kT.c2; obtain ⟨f0, f1, f2, f3⟩ := kF.c4; have yO := kO.lt; have yT := kT.lt; have yF := kF.lt;go_simp; (try with_reducible rfl)
        (try simp only [cq])
        refine tkY 13 (some 35) ?_ ?_ ?_
        rotate_left
        · intro w hS0; (try dsimp only at hS0); obtain ⟨kO, kT, kF, kG, _⟩ := hS0; obtain ⟨o0, o1⟩ := kO.c2; obtain ⟨t0, t1⟩ := kT.c2; obtain ⟨f0, f1, f2, f3⟩ := kF.c4; have yO := kO.lt; have yT := kT.lt; have yF := kF.lt;go_simp; (try with_reducible rfl)
        (try simp only [cq])
        refine tkY 14 (some 36) ?_ ?_ ?_
        rotate_left
        · intro w _; go_simp; (try with_reducible rfl)
        (try simp only [cq])
        refine tkY 15 (some 37) ?_ ?_ ?_
        rotate_left
        · intro w _; go_simp; (try with_reducible rfl)
        (try simp only [cq])
        refine wpAnyH_ready (rs := [6]) (by kernel_rfl) (by simp) ?_
        refine arc1 (some 28) fun K hK => ?_
        obtain ⟨kO, kT, kF, kG, y, hy, kK⟩ := hH
        have kc := (kK.cell hlt).1
        have zk := kK.lt
        rw [upI_at] at kc
        go_simp
        refine hK.out _ _ ?_ (fun hH => ?_)
        · exact ⟨kO, kT, kF, kG, y, hy, kK⟩
        clear hK K
        (try simp only [cq])
        refine tkY 16 (some 38) ?_ ?_ ?_
        rotate_left
        · intro w hS0; (try dsimp only at hS0); obtain ⟨kO, kT, kF, kG, _⟩ := hS0; obtain ⟨o0, o1⟩ := kO.c2; obtain ⟨t0, t1⟩ := kT.c2; obtain ⟨f0, f1, f2, f3⟩ := kF.c4; have yO := kO.lt; have yT := kT.lt; have yF := kF.lt;go_simp; (try with_reducible rfl)
        (try simp only [cq])
        refine tkY 17 (some 39) ?_ ?_ ?_
        rotate_left
        · intro w hS0; (try dsimp only at hS0); obtain ⟨kO, kT, kF, kG, _⟩ := hS0; obtain ⟨o0, o1⟩ := kO.c2; obtain ⟨t0, t1⟩ := kT.c2; obtain ⟨f0, f1, f2, f3⟩ := kF.c4; have yO := kO.lt; have yT := kT.lt; have yF := kF.lt;go_simp; (try with_reducible rfl)
        (try simp only [cq])
        refine tkY 18 (some 40) ?_ ?_ ?_
        rotate_left
        · intro w hS0; (try dsimp only at hS0); obtain ⟨kO, kT, kF, kG, _⟩ := hS0; obtain ⟨o0, o1⟩ := kO.c2; obtain ⟨t0, t1⟩ := kT.c2; obtain ⟨f0, f1, f2, f3⟩ := kF.c4; have yO := kO.lt; have yT := kT.lt; have yF := kF.lt;go_simp; (try with_reducible rfl)
        (try simp only [cq])
        refine wpAnyH_ready (rs := [19]) (by kernel_rfl) (by simp) ?_
        refine arc1 none fun K hK => ?_
        clear kc zk hH
        have kf := kK.free (k * 2)
        have kc := (kK.cell hlt).1
        have zk := kK.lt
        rw [upI_at] at kc
        have kK2 := kK.setA hlt z
        rw [upI_up] at kK2
        have KK := Lib.hid kK2
        have KG := Lib.hid (grown_set kG (k * 2) (.int .i64 z))
        have KO := Lib.hid (kO.setOther (c := bk) (by omega) (k * 2) (.int .i64 z))
        have KT := Lib.hid (kT.setOther (c := bk) (by omega) (k * 2) (.int .i64 z))
        have KF := Lib.hid (kF.setOther (c := bk) (by omega) (k * 2) (.int .i64 z))
        clear kK2
        go_simp
        refine hK.out _ _ ?_ (fun hH => ?_)
        · exact ⟨KO.out, KT.out, KF.out, KG.out, z, hzz, KK.out⟩
        clear hK K
        (try simp only [cq])
        refine wpAnyH_done (by kernel_rfl) ?_ _
        (try dsimp only [Act.put])
        (try simp only [cq])
        clear kK kO kT kF kG kc kf zk jO jT jF jK jG
        obtain ⟨jO, jT, jF, jG, _⟩ := hH
        have jK := knIn jG KK.out
        clear hz hzz hv1 hv2 KO KT KF KK KG
        obtain ⟨U, hU⟩ : ∃ U, KnAt.wld jK = U := ⟨_, rfl⟩
        simp only [KnAt.wld] at hU
        rw [hU] at jO jT jF jK jG ⊢
        clear hU
        have hz := HZ2.out
        rw [← HAk1.out.2] at hz
        have hzz' : min zz (x2 - (y2 - f.l)) = zz := by omega
        have hv3 : IntKind.i64.wrap (y2 - f.l) = y2 - f.l := IntWalk.i64_in _ (by omega)
        have hv4 : IntKind.i64.wrap (x2 - (y2 - f.l)) = x2 - (y2 - f.l) := IntWalk.i64_in _ (by omega)
        clear HZ2
        go_wp2_with fail

        refine wp_region_held_drew (S := (fun w' => Blk w' (w.heap.size) #[.int .i64 y2, .int .i64 y1] 26 ∧ Blk w' (w.heap.size + 1) #[.int .i64 x1, .int .i64 x2] 26 ∧ Blk w' wr.heap.size #[.int .i64 f.a, .int .i64 f.b, .int .i64 f.l, .int .i64 f.h] 145 ∧ w.grownBy w' (some bk) ∧ ∃ y, min y (x2 - (y2 - f.l)) = zz ∧ KnAt w' bk m (upI Ak k z) (upI Bk k y))) (by kernel_rfl) ?_ (fun hH => ?_)
        · (try dsimp only); (exact ⟨jO.drew, jT.drew, jF.drew, grown_call jG ((Below.refl _ _).drew), _, hz, by rw [upI_self]; exact jK⟩)
        refine tkY 0 (some 41) ?_ ?_ ?_
        rotate_left
        · intro w _; go_simp; (try with_reducible rfl)
        (try simp only [cq])
        refine tkY 1 (some 42) ?_ ?_ ?_
        rotate_left
        · intro w _; go_simp; (try with_reducible rfl)
        (try simp only [cq])
        refine tkY 2 (some 43) ?_ ?_ ?_
        rotate_left
        · intro w _; go_simp; (try with_reducible rfl)
        (try simp only [cq])
        refine tkY 3 (some 44) ?_ ?_ ?_
        rotate_left
        · intro w _; go_simp; (try with_reducible rfl)
        (try simp only [cq])
        refine tkY 4 (some 45) ?_ ?_ ?_
        rotate_left
        · intro w hS0; (try dsimp only at hS0); obtain ⟨kO, kT, kF, kG, _⟩ := hS0; obtain ⟨o0, o1⟩ := kO.c2; obtain ⟨t0, t1⟩ := kT.c2; obtain ⟨f0, f1, f2, f3⟩ := kF.c4; have yO := kO.lt; have yT := kT.lt; have yF := kF.lt;go_simp; (try with_reducible rfl)
        (try simp only [cq])
        refine tkY 5 (some 46) ?_ ?_ ?_
        rotate_left
        · intro w hS0; (try dsimp only at hS0); obtain ⟨kO, kT, kF, kG, _⟩ := hS0; obtain ⟨o0, o1⟩ := kO.c2; obtain ⟨t0, t1⟩ := kT.c2; obtain ⟨f0, f1, f2, f3⟩ := kF.c4; have yO := kO.lt; have yT := kT.lt; have yF := kF.lt;go_simp; (try with_reducible rfl)
        (try simp only [cq])
        refine tkY 7 (some 48) ?_ ?_ ?_
        rotate_left
        · intro w hS0; (try dsimp only at hS0); obtain ⟨kO, kT, kF, kG, _⟩ := hS0; obtain ⟨o0, o1⟩ := kO.c2; obtain ⟨t0, t1⟩ := kT.c2; obtain ⟨f0, f1, f2, f3⟩ := kF.c4; have yO := kO.lt; have yT := kT.lt; have yF := kF.lt;go_simp; (try with_reducible rfl)
        (try simp only [cq])
        refine tkY 8 (some 49) ?_ ?_ ?_
        rotate_left
        · intro w hS0; (try dsimp only at hS0); obtain ⟨kO, kT, kF, kG, _⟩ := hS0; obtain ⟨o0, o1⟩ := kO.c2; obtain ⟨t0, t1⟩ := kT.c2; obtain ⟨f0, f1, f2, f3⟩ := kF.c4; have yO := kO.lt; have yT := kT.lt; have yF := kF.lt;go_simp; (try with_reducible rfl)
        (try simp only [cq])
        refine tkY 9 (some 50) ?_ ?_ ?_
        rotate_left
        · intro w hS0; (try dsimp only at hS0); obtain ⟨kO, kT, kF, kG, _⟩ := hS0; obtain ⟨o0, o1⟩ := kO.c2; obtain ⟨t0, t1⟩ := kT.c2; obtain ⟨f0, f1, f2, f3⟩ := kF.c4; have yO := kO.lt; have yT := kT.lt; have yF := kF.lt;go_simp; (try with_reducible rfl)
        (try simp only [cq])
        refine tkY 10 (some 51) ?_ ?_ ?_
        rotate_left
        · intro w hS0; (try dsimp only at hS0); obtain ⟨kO, kT, kF, kG, _⟩ := hS0; obtain ⟨o0, o1⟩ := kO.c2; obtain ⟨t0, t1⟩ := kT.c2; obtain ⟨f0, f1, f2, f3⟩ := kF.c4; have yO := kO.lt; have yT := kT.lt; have yF := kF.lt;go_simp; (try with_reducible rfl)
        (try simp only [cq])
        refine tkY 11 (some 52) ?_ ?_ ?_
        rotate_left
        · intro w hS0; (try dsimp only at hS0); obtain ⟨kO, kT, kF, kG, _⟩ := hS0; obtain ⟨o0, o1⟩ := kO.c2; obtain ⟨t0, t1⟩ := kT.c2; obtain ⟨f0, f1, f2, f3⟩ := kF.c4; have yO := kO.lt; have yT := kT.lt; have yF := kF.lt;go_simp; (try with_reducible rfl)
        (try simp only [cq])
        refine tkY 12 (some 53) ?_ ?_ ?_
        rotate_left
        · intro w hS0; (try dsimp only at hS0); obtain ⟨kO, kT, kF, kG, _⟩ := hS0; obtain ⟨o0, o1⟩ := kO.c2; obtain ⟨t0, t1⟩ := kT.c2; obtain ⟨f0, f1, f2, f3⟩ := kF.c4; have yO := kO.lt; have yT := kT.lt; have yF := kF.lt;go_simp; (try with_reducible rfl)
        (try simp only [cq])
        refine tkY 13 (some 54) ?_ ?_ ?_
        rotate_left
        · intro w hS0; (try dsimp only at hS0); obtain ⟨kO, kT, kF, kG, _⟩ := hS0; obtain ⟨o0, o1⟩ := kO.c2; obtain ⟨t0, t1⟩ := kT.c2; obtain ⟨f0, f1, f2, f3⟩ := kF.c4; have yO := kO.lt; have yT := kT.lt; have yF := kF.lt;go_simp; (try with_reducible rfl)
        (try simp only [cq])
        refine tkY 14 (some 55) ?_ ?_ ?_
        rotate_left
        · intro w _; go_simp; (try with_reducible rfl)
        (try simp only [cq])
        refine tkY 15 (some 56) ?_ ?_ ?_
        rotate_left
        · intro w _; go_simp; (try with_reducible rfl)
        (try simp only [cq])
        refine wpAnyH_ready (rs := [6]) (by kernel_rfl) (by simp) ?_
        refine arc1 (some 47) fun K hK => ?_
        obtain ⟨kO, kT, kF, kG, y, hy, kK⟩ := hH
        have kc := (kK.cell hlt).2
        have zk := kK.lt
        rw [upI_at] at kc
        go_simp
        refine hK.out _ _ ?_ (fun hH => ?_)
        · exact ⟨kO, kT, kF, kG, y, hy, kK⟩
        clear hK K
        (try simp only [cq])
        refine tkY 16 (some 57) ?_ ?_ ?_
        rotate_left
        · intro w hS0; (try dsimp only at hS0); obtain ⟨kO, kT, kF, kG, _⟩ := hS0; obtain ⟨o0, o1⟩ := kO.c2; obtain ⟨t0, t1⟩ := kT.c2; obtain ⟨f0, f1, f2, f3⟩ := kF.c4; have yO := kO.lt; have yT := kT.lt; have yF := kF.lt;go_simp; (try with_reducible rfl)
        (try simp only [cq])
        refine tkY 17 (some 58) ?_ ?_ ?_
        rotate_left
        · intro w hS0; (try dsimp only at hS0); obtain ⟨kO, kT, kF, kG, _⟩ := hS0; obtain ⟨o0, o1⟩ := kO.c2; obtain ⟨t0, t1⟩ := kT.c2; obtain ⟨f0, f1, f2, f3⟩ := kF.c4; have yO := kO.lt; have yT := kT.lt; have yF := kF.lt;go_simp; (try with_reducible rfl)
        (try simp only [cq])
        refine tkY 18 (some 59) ?_ ?_ ?_
        rotate_left
        · intro w hS0; (try dsimp only at hS0); obtain ⟨kO, kT, kF, kG, _⟩ := hS0; obtain ⟨o0, o1⟩ := kO.c2; obtain ⟨t0, t1⟩ := kT.c2; obtain ⟨f0, f1, f2, f3⟩ := kF.c4; have yO := kO.lt; have yT := kT.lt; have yF := kF.lt;go_simp; (try with_reducible rfl)
        (try simp only [cq])
        refine wpAnyH_ready (rs := [19]) (by kernel_rfl) (by simp) ?_
        refine arc1 none fun K hK => ?_
        clear kc zk hH
        have kf := kK.free (k * 2 + 1)
        have kc := (kK.cell hlt).2
        have zk := kK.lt
        rw [upI_at] at kc
        have kK2 := kK.setB hlt zz
        rw [upI_up] at kK2
        have KK := Lib.hid kK2
        have KG := Lib.hid (grown_set kG (k * 2 + 1) (.int .i64 zz))
        have KO := Lib.hid (kO.setOther (c := bk) (by omega) (k * 2 + 1) (.int .i64 zz))
        have KT := Lib.hid (kT.setOther (c := bk) (by omega) (k * 2 + 1) (.int .i64 zz))
        have KF := Lib.hid (kF.setOther (c := bk) (by omega) (k * 2 + 1) (.int .i64 zz))
        clear kK2
        go_simp
        refine hK.out _ _ ?_ (fun hH => ?_)
        · exact ⟨KO.out, KT.out, KF.out, KG.out, zz, hzz', KK.out⟩
        clear hK K
        (try simp only [cq])
        refine wpAnyH_done (by kernel_rfl) ?_ _
        (try dsimp only [Act.put])
        (try simp only [cq])
        clear kK kO kT kF kG kc kf zk jO jT jF jK jG
        obtain ⟨jO, jT, jF, jG, _⟩ := hH
        have jK := knIn jG KK.out
        clear hz hzz' hv3 hv4 KO KT KF KK KG
        go_wp2
        go_roundw
        case rel => exact ⟨k + 1, by omega, by go_num, jO, jT, by rw [H0.out.1, H0.out.2]; exact jK, jG⟩
        case measure => simp [intOf]; omega
    · obtain rfl : k = m := by omega
      go_wp2
      go_end0
      exact ⟨⟨_, rfl⟩, jK, jG⟩

set_option maxRecDepth 100000 in
set_option maxHeartbeats 4000000 in
theorem narrow_outof (E : Nat → Fl) (m s bh bk cap : Nat) (A B : Nat → Int) (y2 y1 x1 x2 : Int) (hy : 0 ≤ y2 ∧ y2 ≤ 2760000000000 ∧ 0 ≤ y1 ∧ y1 ≤ 2760000000000) (hx : 0 ≤ x1 ∧ x1 ≤ 2760000000000 ∧ 0 ≤ x2 ∧ x2 ≤ 2760000000000) (hE : FlOk E m) (hs : s < 1048576) (hcap : m ≤ cap) (v : Value) (w : World)
    (hF : ∀ W, w.grownBy W (some bk) → FlsAt W v m E) (hh : ∀ W, w.grownBy W (some bk) → HasAt W bh s) (hK : KnAt w bk m A B) :
    Calls Try.prog 128 #[.slice (some ⟨bk, 0, none⟩) m cap, v, .func (.func 152) #[] #[.pointer (some ⟨bh, 0, none⟩)], .agg #[.int .i64 y2, .int .i64 y1], .agg #[.int .i64 x1, .int .i64 x2]] w
      fun e w' => (∃ r, e = .returned r) ∧ KnAt w' bk m (nrA E (cOut (bS s)) x1 y1 A m) (nrB E (cOut (bS s)) x2 y2 B m) ∧ w.grownBy w' (some bk) := by
  have HF := Lib.hid hF
  obtain ⟨a, cap2, rfl, g1, g2, hz0⟩ := hF w (grown_refl _ _)
  clear hz0
  have h60 := hE.1
  have HE := Lib.hid hE
  have HH := Lib.hid hh
  have zk0 := hK.lt
  obtain ⟨AA, hAA⟩ : ∃ AA, nrA E (cOut (bS s)) x1 y1 A = AA := ⟨_, rfl⟩
  obtain ⟨BB, hBB⟩ : ∃ BB, nrB E (cOut (bS s)) x2 y2 B = BB := ⟨_, rfl⟩
  have HA0 : Hid (AA 0 = A ∧ BB 0 = B) := by rw [← hAA, ← hBB]; exact ⟨nrA_0 _ _ _ _ _, nrB_0 _ _ _ _ _⟩
  have HAk : Hid (∀ k, AA k k = A k ∧ BB k k = B k) := fun k => by rw [← hAA, ← hBB]; exact ⟨nrA_at _ _ _ _ _ k, nrB_at _ _ _ _ _ k⟩
  have HAn : Hid (∀ k, cOut (bS s) (E k) = false → AA (k + 1) = AA k ∧ BB (k + 1) = BB k) := fun k h => by rw [← hAA, ← hBB]; exact ⟨nrA_n _ _ _ _ _ k h, nrB_n _ _ _ _ _ k h⟩
  have HAy : Hid (∀ k, cOut (bS s) (E k) = true → AA (k + 1) = upI (AA k) k (max (A k) (x1 - (y1 - (E k).h))) ∧ BB (k + 1) = upI (BB k) k (min (B k) (x2 - (y2 - (E k).l)))) := fun k h => by rw [← hAA, ← hBB]; exact ⟨nrA_y _ _ _ _ _ k h, nrB_y _ _ _ _ _ k h⟩
  rw [hAA, hBB]
  clear hF hE hh hAA hBB
  have jO := (Blk.new w #[.int .i64 y2, .int .i64 y1] 26).alloc (.cells #[.int .i64 x1, .int .i64 x2] 26)
  have jT := Blk.new1 w (.cells #[.int .i64 y2, .int .i64 y1] 26) #[.int .i64 x1, .int .i64 x2] 26
  have jK : KnAt ((w.alloc (.cells #[.int .i64 y2, .int .i64 y1] 26)).alloc (.cells #[.int .i64 x1, .int .i64 x2] 26)) bk m (AA 0) (BB 0) := by rw [HA0.out.1, HA0.out.2]; exact (hK.alloc _).alloc _
  have jG : w.grownBy ((w.alloc (.cells #[.int .i64 y2, .int .i64 y1] 26)).alloc (.cells #[.int .i64 x1, .int .i64 x2] 26)) (some bk) := grown_alloc (grown_alloc (grown_refl _ _) _) _
  clear hK
  go_enter Try.func128, Try.ntmps128
  go_wp2
  go_loopw [14] (fun i wr => ∃ k : Nat, k ≤ m ∧ i = .int .i64 k ∧ Blk wr w.heap.size #[.int .i64 y2, .int .i64 y1] 26 ∧ Blk wr (w.heap.size + 1) #[.int .i64 x1, .int .i64 x2] 26 ∧ KnAt wr bk m (AA k) (BB k) ∧ w.grownBy wr (some bk)) (fun i _ => m - (intOf i).toNat)
  case atStart => exact ⟨0, Nat.zero_le _, rfl, jO, jT, jK, jG⟩
  case round =>
    clear jO jT jK jG
    obtain ⟨k, hk, rfl, jO, jT, jK, jG⟩ := hrel
    by_cases hlt : k < m
    · obtain ⟨a2, cap3, hv, _, _, hz⟩ := HF.out wr jG
      simp only [Value.slice.injEq] at hv
      obtain ⟨rfl, _, rfl⟩ := hv
      obtain ⟨b, o, rfl, hc⟩ := hz (by omega)
      clear hz
      obtain ⟨a0, a1, a2, a3⟩ := AtC.c4 hc hlt rfl
      have hbs := World.block_lt_of_cell? _ _ a0
      have hE := HE.out.2 k hlt
      have HAk1 := Lib.hid (HAk.out k)
      have HAn1 := Lib.hid (HAn.out k)
      have HAy1 := Lib.hid (HAy.out k)
      have K := Lib.hid (fun (W : World) (h : w.grownBy W (some bk)) => outof_any (E k) s bh hE.1 hE.2.1 hs W (HH.out W h))
      obtain ⟨f, hf⟩ : ∃ f, E k = f := ⟨_, rfl⟩
      rw [hf] at a0 a1 a2 a3 hE K HAn1 HAy1
      obtain ⟨c, hcc⟩ : ∃ c, cOut (bS s) f = c := ⟨_, rfl⟩
      rw [hcc] at K HAn1 HAy1
      obtain ⟨_, _, f1, f2, f3, f4⟩ := hE
      have zO := jO.lt
      have zT := jT.lt
      have zW : w.heap.size ≤ wr.heap.size := jG.size
      have jF := Blk.new wr #[.int .i64 f.a, .int .i64 f.b, .int .i64 f.l, .int .i64 f.h] 145
      replace jO := jO.alloc (.cells #[.int .i64 f.a, .int .i64 f.b, .int .i64 f.l, .int .i64 f.h] 145)
      replace jT := jT.alloc (.cells #[.int .i64 f.a, .int .i64 f.b, .int .i64 f.l, .int .i64 f.h] 145)
      replace jK := jK.alloc (.cells #[.int .i64 f.a, .int .i64 f.b, .int .i64 f.l, .int .i64 f.h] 145)
      replace jG := grown_alloc jG (.cells #[.int .i64 f.a, .int .i64 f.b, .int .i64 f.l, .int .i64 f.h] 145)
      have FF := Lib.hid jF
      clear hf hcc hc jF
      go_wp2_with fail
      refine (K.out _ jG).mono ?_
      rintro e w2 ⟨rfl, hb⟩
      have jF := FF.out.call hb
      replace jO := jO.call hb
      replace jT := jT.call hb
      replace jK := jK.later hb
      replace jG := grown_call jG hb
      clear hb a0 a1 a2 a3 hbs FF K
      have zF := jF.lt
      cases c with
      | false =>
        have H0 := Lib.hid (HAn1.out rfl)
        go_wp2
        go_roundw
        case rel => exact ⟨k + 1, by omega, by go_num, jO, jT, by rw [H0.out.1, H0.out.2]; exact jK, jG⟩
        case measure => simp [intOf]; omega
      | true =>
        have H0 := Lib.hid (HAy1.out rfl)
        clear HAn1 HAy1
        obtain ⟨u, hu⟩ : ∃ u, A k = u := ⟨_, rfl⟩
        obtain ⟨uu, huu⟩ : ∃ u, B k = u := ⟨_, rfl⟩
        rw [hu, huu] at H0 HAk1
        clear hu huu
        obtain ⟨Ak, hAk⟩ : ∃ q, AA k = q := ⟨_, rfl⟩
        obtain ⟨Bk, hBk⟩ : ∃ q, BB k = q := ⟨_, rfl⟩
        rw [hAk, hBk] at H0 HAk1 jK
        clear hAk hBk
        obtain ⟨z, hz⟩ : ∃ z, max u (x1 - (y1 - f.h)) = z := ⟨_, rfl⟩
        obtain ⟨zz, hz2⟩ : ∃ z, min uu (x2 - (y2 - f.l)) = z := ⟨_, rfl⟩
        rw [hz, hz2] at H0
        have HZ2 := Lib.hid hz2
        have hz' : max u (x1 - (y1 - f.h)) = z := hz
        rw [← HAk1.out.1] at hz
        have hzz : max z (x1 - (y1 - f.h)) = z := by omega
        have hv1 : IntKind.i64.wrap (y1 - f.h) = y1 - f.h := IntWalk.i64_in _ (by omega)
        have hv2 : IntKind.i64.wrap (x1 - (y1 - f.h)) = x1 - (y1 - f.h) := IntWalk.i64_in _ (by omega)
        clear hz2 hz'
        go_wp2_with fail

        refine wp_region_held_drew (S := (fun w' => Blk w' (w.heap.size) #[.int .i64 y2, .int .i64 y1] 26 ∧ Blk w' (w.heap.size + 1) #[.int .i64 x1, .int .i64 x2] 26 ∧ Blk w' wr.heap.size #[.int .i64 f.a, .int .i64 f.b, .int .i64 f.l, .int .i64 f.h] 145 ∧ w.grownBy w' (some bk) ∧ ∃ y, max y (x1 - (y1 - f.h)) = z ∧ KnAt w' bk m (upI Ak k y) Bk)) (by kernel_rfl) ?_ (fun hH => ?_)
        · (try dsimp only); (exact ⟨jO.drew, jT.drew, jF.drew, grown_call jG ((Below.refl _ _).drew), _, hz, by rw [upI_self]; exact jK⟩)
        refine tkY 0 (some 22) ?_ ?_ ?_
        rotate_left
        · intro w _; go_simp; (try with_reducible rfl)
        (try simp only [cq])
        refine tkY 1 (some 23) ?_ ?_ ?_
        rotate_left
        · intro w _; go_simp; (try with_reducible rfl)
        (try simp only [cq])
        refine tkY 2 (some 24) ?_ ?_ ?_
        rotate_left
        · intro w _; go_simp; (try with_reducible rfl)
        (try simp only [cq])
        refine tkY 3 (some 25) ?_ ?_ ?_
        rotate_left
        · intro w _; go_simp; (try with_reducible rfl)
        (try simp only [cq])
        refine tkY 4 (some 26) ?_ ?_ ?_
        rotate_left
        · intro w hS0; (try dsimp only at hS0); obtain ⟨kO, kT, kF, kG, _⟩ := hS0; obtain ⟨o0, o1⟩ := kO.c2; obtain ⟨t0, t1⟩ := kT.c2; obtain ⟨f0, f1, f2, f3⟩ := kF.c4; have yO := kO.lt; have yT := kT.lt; have yF := kF.lt;go_simp; (try with_reducible rfl)
        (try simp only [cq])
        refine tkY 5 (some 27) ?_ ?_ ?_
        rotate_left
        · intro w hS0; (try dsimp only at hS0); obtain ⟨kO, kT, kF, kG, _⟩ := hS0; obtain ⟨o0, o1⟩ := kO.c2; obtain ⟨t0, t1⟩ := kT.c2; obtain ⟨f0, f1, f2, f3⟩ := kF.c4; have yO := kO.lt; have yT := kT.lt; have yF := kF.lt;go_simp; (try with_reducible rfl)
        (try simp only [cq])
        refine tkY 7 (some 29) ?_ ?_ ?_
        rotate_left
        · intro w hS0; (try dsimp only at hS0); obtain ⟨kO, kT, kF, kG, _⟩ := hS0; obtain ⟨o0, o1⟩ := kO.c2; obtain ⟨t0, t1⟩ := kT.c2; obtain ⟨f0, f1, f2, f3⟩ := kF.c4; have yO := kO.lt; have yT := kT.lt; have yF := kF.lt;go_simp; (try with_reducible rfl)
        (try simp only [cq])
        refine tkY 8 (some 30) ?_ ?_ ?_
        rotate_left
        · intro w hS0; (try dsimp only at hS0); obtain ⟨kO, kT, kF, kG, _⟩ := hS0; obtain ⟨o0, o1⟩ := kO.c2; obtain ⟨t0, t1⟩ := kT.c2; obtain ⟨f0, f1, f2, f3⟩ := kF.c4; have yO := kO.lt; have yT := kT.lt; have yF := kF.lt;go_simp; (try with_reducible rfl)
        (try simp only [cq])
        refine tkY 9 (some 31) ?_ ?_ ?_
        rotate_left
        · intro w hS0; (try dsimp only at hS0); obtain ⟨kO, kT, kF, kG, _⟩ := hS0; obtain ⟨o0, o1⟩ := kO.c2; obtain ⟨t0, t1⟩ := kT.c2; obtain ⟨f0, f1, f2, f3⟩ := kF.c4; have yO := kO.lt; have yT := kT.lt; have yF := kF.lt;go_simp; (try with_reducible rfl)
        (try simp only [cq])
        refine tkY 10 (some 32) ?_ ?_ ?_
        rotate_left
        · intro w hS0; (try dsimp only at hS0); obtain ⟨kO, kT, kF, kG, _⟩ := hS0; obtain ⟨o0, o1⟩ := kO.c2; obtain ⟨t0, t1⟩ := kT.c2; obtain ⟨f0, f1, f2, f3⟩ := kF.c4; have yO := kO.lt; have yT := kT.lt; have yF := kF.lt;go_simp; (try with_reducible rfl)
        (try simp only [cq])
        refine tkY 11 (some 33) ?_ ?_ ?_
        rotate_left
        · intro w hS0; (try dsimp only at hS0); obtain ⟨kO, kT, kF, kG, _⟩ := hS0; obtain ⟨o0, o1⟩ := kO.c2; obtain ⟨t0, t1⟩ := kT.c2; obtain ⟨f0, f1, f2, f3⟩ := kF.c4; have yO := kO.lt; have yT := kT.lt; have yF := kF.lt;go_simp; (try with_reducible rfl)
        (try simp only [cq])
        refine tkY 12 (some 34) ?_ ?_ ?_
        rotate_left
        · intro w hS0; (try dsimp only at hS0); obtain ⟨kO, kT, kF, kG, _⟩ := hS0; obtain ⟨o0, o1⟩ := kO.c2; obtain ⟨t0, t1⟩ := kT.c2; obtain ⟨f0, f1, f2, f3⟩ := kF.c4; have yO := kO.lt; have yT := kT.lt; have yF := kF.lt;go_simp; (try with_reducible rfl)
        (try simp only [cq])
        refine tkY 13 (some 35) ?_ ?_ ?_
        rotate_left
        · intro w hS0; (try dsimp only at hS0); obtain ⟨kO, kT, kF, kG, _⟩ := hS0; obtain ⟨o0, o1⟩ := kO.c2; obtain ⟨t0, t1⟩ := kT.c2; obtain ⟨f0, f1, f2, f3⟩ := kF.c4; have yO := kO.lt; have yT := kT.lt; have yF := kF.lt;go_simp; (try with_reducible rfl)
        (try simp only [cq])
        refine tkY 14 (some 36) ?_ ?_ ?_
        rotate_left
        · intro w _; go_simp; (try with_reducible rfl)
        (try simp only [cq])
        refine tkY 15 (some 37) ?_ ?_ ?_
        rotate_left
        · intro w _; go_simp; (try with_reducible rfl)
        (try simp only [cq])
        refine wpAnyH_ready (rs := [6]) (by kernel_rfl) (by simp) ?_
        refine arc1 (some 28) fun K hK => ?_
        obtain ⟨kO, kT, kF, kG, y, hy, kK⟩ := hH
        have kc := (kK.cell hlt).1
        have zk := kK.lt
        rw [upI_at] at kc
        go_simp
        refine hK.out _ _ ?_ (fun hH => ?_)
        · exact ⟨kO, kT, kF, kG, y, hy, kK⟩
        clear hK K
        (try simp only [cq])
        refine tkY 16 (some 38) ?_ ?_ ?_
        rotate_left
        · intro w hS0; (try dsimp only at hS0); obtain ⟨kO, kT, kF, kG, _⟩ := hS0; obtain ⟨o0, o1⟩ := kO.c2; obtain ⟨t0, t1⟩ := kT.c2; obtain ⟨f0, f1, f2, f3⟩ := kF.c4; have yO := kO.lt; have yT := kT.lt; have yF := kF.lt;go_simp; (try with_reducible rfl)
        (try simp only [cq])
        refine tkY 17 (some 39) ?_ ?_ ?_
        rotate_left
        · intro w hS0; (try dsimp only at hS0); obtain ⟨kO, kT, kF, kG, _⟩ := hS0; obtain ⟨o0, o1⟩ := kO.c2; obtain ⟨t0, t1⟩ := kT.c2; obtain ⟨f0, f1, f2, f3⟩ := kF.c4; have yO := kO.lt; have yT := kT.lt; have yF := kF.lt;go_simp; (try with_reducible rfl)
        (try simp only [cq])
        refine tkY 18 (some 40) ?_ ?_ ?_
        rotate_left
        · intro w hS0; (try dsimp only at hS0); obtain ⟨kO, kT, kF, kG, _⟩ := hS0; obtain ⟨o0, o1⟩ := kO.c2; obtain ⟨t0, t1⟩ := kT.c2; obtain ⟨f0, f1, f2, f3⟩ := kF.c4; have yO := kO.lt; have yT := kT.lt; have yF := kF.lt;go_simp; (try with_reducible rfl)
        (try simp only [cq])
        refine wpAnyH_ready (rs := [19]) (by kernel_rfl) (by simp) ?_
        refine arc1 none fun K hK => ?_
        clear kc zk hH
        have kf := kK.free (k * 2)
        have kc := (kK.cell hlt).1
        have zk := kK.lt
        rw [upI_at] at kc
        have kK2 := kK.setA hlt z
        rw [upI_up] at kK2
        have KK := Lib.hid kK2
        have KG := Lib.hid (grown_set kG (k * 2) (.int .i64 z))
        have KO := Lib.hid (kO.setOther (c := bk) (by omega) (k * 2) (.int .i64 z))
        have KT := Lib.hid (kT.setOther (c := bk) (by omega) (k * 2) (.int .i64 z))
        have KF := Lib.hid (kF.setOther (c := bk) (by omega) (k * 2) (.int .i64 z))
        clear kK2
        go_simp
        refine hK.out _ _ ?_ (fun hH => ?_)
        · exact ⟨KO.out, KT.out, KF.out, KG.out, z, hzz, KK.out⟩
        clear hK K
        (try simp only [cq])
        refine wpAnyH_done (by kernel_rfl) ?_ _
        (try dsimp only [Act.put])
        (try simp only [cq])
        clear kK kO kT kF kG kc kf zk jO jT jF jK jG
        obtain ⟨jO, jT, jF, jG, _⟩ := hH
        have jK := knIn jG KK.out
        clear hz hzz hv1 hv2 KO KT KF KK KG
        obtain ⟨U, hU⟩ : ∃ U, KnAt.wld jK = U := ⟨_, rfl⟩
        simp only [KnAt.wld] at hU
        rw [hU] at jO jT jF jK jG ⊢
        clear hU
        have hz := HZ2.out
        rw [← HAk1.out.2] at hz
        have hzz' : min zz (x2 - (y2 - f.l)) = zz := by omega
        have hv3 : IntKind.i64.wrap (y2 - f.l) = y2 - f.l := IntWalk.i64_in _ (by omega)
        have hv4 : IntKind.i64.wrap (x2 - (y2 - f.l)) = x2 - (y2 - f.l) := IntWalk.i64_in _ (by omega)
        clear HZ2
        go_wp2_with fail

        refine wp_region_held_drew (S := (fun w' => Blk w' (w.heap.size) #[.int .i64 y2, .int .i64 y1] 26 ∧ Blk w' (w.heap.size + 1) #[.int .i64 x1, .int .i64 x2] 26 ∧ Blk w' wr.heap.size #[.int .i64 f.a, .int .i64 f.b, .int .i64 f.l, .int .i64 f.h] 145 ∧ w.grownBy w' (some bk) ∧ ∃ y, min y (x2 - (y2 - f.l)) = zz ∧ KnAt w' bk m (upI Ak k z) (upI Bk k y))) (by kernel_rfl) ?_ (fun hH => ?_)
        · (try dsimp only); (exact ⟨jO.drew, jT.drew, jF.drew, grown_call jG ((Below.refl _ _).drew), _, hz, by rw [upI_self]; exact jK⟩)
        refine tkY 0 (some 41) ?_ ?_ ?_
        rotate_left
        · intro w _; go_simp; (try with_reducible rfl)
        (try simp only [cq])
        refine tkY 1 (some 42) ?_ ?_ ?_
        rotate_left
        · intro w _; go_simp; (try with_reducible rfl)
        (try simp only [cq])
        refine tkY 2 (some 43) ?_ ?_ ?_
        rotate_left
        · intro w _; go_simp; (try with_reducible rfl)
        (try simp only [cq])
        refine tkY 3 (some 44) ?_ ?_ ?_
        rotate_left
        · intro w _; go_simp; (try with_reducible rfl)
        (try simp only [cq])
        refine tkY 4 (some 45) ?_ ?_ ?_
        rotate_left
        · intro w hS0; (try dsimp only at hS0); obtain ⟨kO, kT, kF, kG, _⟩ := hS0; obtain ⟨o0, o1⟩ := kO.c2; obtain ⟨t0, t1⟩ := kT.c2; obtain ⟨f0, f1, f2, f3⟩ := kF.c4; have yO := kO.lt; have yT := kT.lt; have yF := kF.lt;go_simp; (try with_reducible rfl)
        (try simp only [cq])
        refine tkY 5 (some 46) ?_ ?_ ?_
        rotate_left
        · intro w hS0; (try dsimp only at hS0); obtain ⟨kO, kT, kF, kG, _⟩ := hS0; obtain ⟨o0, o1⟩ := kO.c2; obtain ⟨t0, t1⟩ := kT.c2; obtain ⟨f0, f1, f2, f3⟩ := kF.c4; have yO := kO.lt; have yT := kT.lt; have yF := kF.lt;go_simp; (try with_reducible rfl)
        (try simp only [cq])
        refine tkY 7 (some 48) ?_ ?_ ?_
        rotate_left
        · intro w hS0; (try dsimp only at hS0); obtain ⟨kO, kT, kF, kG, _⟩ := hS0; obtain ⟨o0, o1⟩ := kO.c2; obtain ⟨t0, t1⟩ := kT.c2; obtain ⟨f0, f1, f2, f3⟩ := kF.c4; have yO := kO.lt; have yT := kT.lt; have yF := kF.lt;go_simp; (try with_reducible rfl)
        (try simp only [cq])
        refine tkY 8 (some 49) ?_ ?_ ?_
        rotate_left
        · intro w hS0; (try dsimp only at hS0); obtain ⟨kO, kT, kF, kG, _⟩ := hS0; obtain ⟨o0, o1⟩ := kO.c2; obtain ⟨t0, t1⟩ := kT.c2; obtain ⟨f0, f1, f2, f3⟩ := kF.c4; have yO := kO.lt; have yT := kT.lt; have yF := kF.lt;go_simp; (try with_reducible rfl)
        (try simp only [cq])
        refine tkY 9 (some 50) ?_ ?_ ?_
        rotate_left
        · intro w hS0; (try dsimp only at hS0); obtain ⟨kO, kT, kF, kG, _⟩ := hS0; obtain ⟨o0, o1⟩ := kO.c2; obtain ⟨t0, t1⟩ := kT.c2; obtain ⟨f0, f1, f2, f3⟩ := kF.c4; have yO := kO.lt; have yT := kT.lt; have yF := kF.lt;go_simp; (try with_reducible rfl)
        (try simp only [cq])
        refine tkY 10 (some 51) ?_ ?_ ?_
        rotate_left
        · intro w hS0; (try dsimp only at hS0); obtain ⟨kO, kT, kF, kG, _⟩ := hS0; obtain ⟨o0, o1⟩ := kO.c2; obtain ⟨t0, t1⟩ := kT.c2; obtain ⟨f0, f1, f2, f3⟩ := kF.c4; have yO := kO.lt; have yT := kT.lt; have yF := kF.lt;go_simp; (try with_reducible rfl)
        (try simp only [cq])
        refine tkY 11 (some 52) ?_ ?_ ?_
        rotate_left
        · intro w hS0; (try dsimp only at hS0); obtain ⟨kO, kT, kF, kG, _⟩ := hS0; obtain ⟨o0, o1⟩ := kO.c2; obtain ⟨t0, t1⟩ := kT.c2; obtain ⟨f0, f1, f2, f3⟩ := kF.c4; have yO := kO.lt; have yT := kT.lt; have yF := kF.lt;go_simp; (try with_reducible rfl)
        (try simp only [cq])
        refine tkY 12 (some 53) ?_ ?_ ?_
        rotate_left
        · intro w hS0; (try dsimp only at hS0); obtain ⟨kO, kT, kF, kG, _⟩ := hS0; obtain ⟨o0, o1⟩ := kO.c2; obtain ⟨t0, t1⟩ := kT.c2; obtain ⟨f0, f1, f2, f3⟩ := kF.c4; have yO := kO.lt; have yT := kT.lt; have yF := kF.lt;go_simp; (try with_reducible rfl)
        (try simp only [cq])
        refine tkY 13 (some 54) ?_ ?_ ?_
        rotate_left
        · intro w hS0; (try dsimp only at hS0); obtain ⟨kO, kT, kF, kG, _⟩ := hS0; obtain ⟨o0, o1⟩ := kO.c2; obtain ⟨t0, t1⟩ := kT.c2; obtain ⟨f0, f1, f2, f3⟩ := kF.c4; have yO := kO.lt; have yT := kT.lt; have yF := kF.lt;go_simp; (try with_reducible rfl)
        (try simp only [cq])
        refine tkY 14 (some 55) ?_ ?_ ?_
        rotate_left
        · intro w _; go_simp; (try with_reducible rfl)
        (try simp only [cq])
        refine tkY 15 (some 56) ?_ ?_ ?_
        rotate_left
        · intro w _; go_simp; (try with_reducible rfl)
        (try simp only [cq])
        refine wpAnyH_ready (rs := [6]) (by kernel_rfl) (by simp) ?_
        refine arc1 (some 47) fun K hK => ?_
        obtain ⟨kO, kT, kF, kG, y, hy, kK⟩ := hH
        have kc := (kK.cell hlt).2
        have zk := kK.lt
        rw [upI_at] at kc
        go_simp
        refine hK.out _ _ ?_ (fun hH => ?_)
        · exact ⟨kO, kT, kF, kG, y, hy, kK⟩
        clear hK K
        (try simp only [cq])
        refine tkY 16 (some 57) ?_ ?_ ?_
        rotate_left
        · intro w hS0; (try dsimp only at hS0); obtain ⟨kO, kT, kF, kG, _⟩ := hS0; obtain ⟨o0, o1⟩ := kO.c2; obtain ⟨t0, t1⟩ := kT.c2; obtain ⟨f0, f1, f2, f3⟩ := kF.c4; have yO := kO.lt; have yT := kT.lt; have yF := kF.lt;go_simp; (try with_reducible rfl)
        (try simp only [cq])
        refine tkY 17 (some 58) ?_ ?_ ?_
        rotate_left
        · intro w hS0; (try dsimp only at hS0); obtain ⟨kO, kT, kF, kG, _⟩ := hS0; obtain ⟨o0, o1⟩ := kO.c2; obtain ⟨t0, t1⟩ := kT.c2; obtain ⟨f0, f1, f2, f3⟩ := kF.c4; have yO := kO.lt; have yT := kT.lt; have yF := kF.lt;go_simp; (try with_reducible rfl)
        (try simp only [cq])
        refine tkY 18 (some 59) ?_ ?_ ?_
        rotate_left
        · intro w hS0; (try dsimp only at hS0); obtain ⟨kO, kT, kF, kG, _⟩ := hS0; obtain ⟨o0, o1⟩ := kO.c2; obtain ⟨t0, t1⟩ := kT.c2; obtain ⟨f0, f1, f2, f3⟩ := kF.c4; have yO := kO.lt; have yT := kT.lt; have yF := kF.lt;go_simp; (try with_reducible rfl)
        (try simp only [cq])
        refine wpAnyH_ready (rs := [19]) (by kernel_rfl) (by simp) ?_
        refine arc1 none fun K hK => ?_
        clear kc zk hH
        have kf := kK.free (k * 2 + 1)
        have kc := (kK.cell hlt).2
        have zk := kK.lt
        rw [upI_at] at kc
        have kK2 := kK.setB hlt zz
        rw [upI_up] at kK2
        have KK := Lib.hid kK2
        have KG := Lib.hid (grown_set kG (k * 2 + 1) (.int .i64 zz))
        have KO := Lib.hid (kO.setOther (c := bk) (by omega) (k * 2 + 1) (.int .i64 zz))
        have KT := Lib.hid (kT.setOther (c := bk) (by omega) (k * 2 + 1) (.int .i64 zz))
        have KF := Lib.hid (kF.setOther (c := bk) (by omega) (k * 2 + 1) (.int .i64 zz))
        clear kK2
        go_simp
        refine hK.out _ _ ?_ (fun hH => ?_)
        · exact ⟨KO.out, KT.out, KF.out, KG.out, zz, hzz', KK.out⟩
        clear hK K
        (try simp only [cq])
        refine wpAnyH_done (by kernel_rfl) ?_ _
        (try dsimp only [Act.put])
        (try simp only [cq])
        clear kK kO kT kF kG kc kf zk jO jT jF jK jG
        obtain ⟨jO, jT, jF, jG, _⟩ := hH
        have jK := knIn jG KK.out
        clear hz hzz' hv3 hv4 KO KT KF KK KG
        go_wp2
        go_roundw
        case rel => exact ⟨k + 1, by omega, by go_num, jO, jT, by rw [H0.out.1, H0.out.2]; exact jK, jG⟩
        case measure => simp [intOf]; omega
    · obtain rfl : k = m := by omega
      go_wp2
      go_end0
      exact ⟨⟨_, rfl⟩, jK, jG⟩
end Go.Proofs.Ytpeogfcfiabcfaa
