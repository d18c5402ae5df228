/-
  Regions that draw their order and in the end store over what they have read: what holds may change once one certain operation (number N) has come up. Speaks of no program.
  TankOf (sastrugikit): some valid tank.
-/
import Derived.Test.YtpeogfcfiabcfaaTail
import Derived.Test.YtpeogfcfiabcfaaCol
import Derived.Test.YtpeogfcfiabcfaaSmi
import Derived.Test.YtpeogfcfiabcfaaNew
import Derived.Test.YtpeogfcfiabcfaaShare
import Derived.Deep.AppendLies
set_option linter.unusedVariables false
set_option linter.unusedSimpArgs false
namespace Go.Proofs.Ytpeogfcfiabcfaa
open Go.RowKit

def Clsd (md : Region.Mode) (ops : Array Oper) (L : Array Bool) : Prop := ∀ (j : Nat) (o : Oper), ops[j]? = some o → L.getD j false = true → ∀ e ∈ o.after, Region.binds md e = true → L.getD e.on false = true
def clsdB (md : Region.Mode) (ops : Array Oper) (L : Array Bool) : Bool := (List.range ops.size).all fun j => !(L.getD j false) || (match ops[j]? with | some o => o.after.all (fun e => !(Region.binds md e) || L.getD e.on false) | none => true)
theorem clsd_of {md : Region.Mode} {ops : Array Oper} {L : Array Bool} (h : clsdB md ops L = true) : Clsd md ops L := by
  intro j o ho hj e he hb
  have hjs : j < ops.size := (Array.getElem?_eq_some_iff.1 ho).1
  unfold clsdB at h
  rw [List.all_eq_true] at h
  have h1 := h j (List.mem_range.2 hjs)
  rw [hj, ho] at h1
  simp only [Bool.not_true, Bool.false_or] at h1
  rw [Array.all_eq_true] at h1
  obtain ⟨k, hk, hek⟩ := Array.getElem_of_mem he
  have h2 := h1 k hk
  rw [hek, hb] at h2
  simpa using h2
def reachO (md : Region.Mode) (R : Array Bool) (l : List Edge) : Array Bool := l.foldl (fun R e => if Region.binds md e then R.setIfInBounds e.on true else R) R
def reach (md : Region.Mode) (ops : Array Oper) (N : Nat) : Array Bool :=
  (List.range (N + 1)).reverse.foldl (fun R j => if R.getD j false then (match ops[j]? with | some o => reachO md R o.after.toList | none => R) else R) ((Array.replicate ops.size false).setIfInBounds N true)
def waitsB (md : Region.Mode) (ops : Array Oper) (N i : Nat) : Bool := (reach md ops N).getD i false
theorem getD_up {L : Array Bool} {i k : Nat} (h : (L.setIfInBounds i true).getD k false = true) : k = i ∨ L.getD k false = true := by
  by_cases e : i = k
  · exact .inl e.symm
  · right
    rw [getD_set_ne false e] at h
    exact h
theorem reachO_inv {md : Region.Mode} {L : Array Bool} : ∀ (l : List Edge) (R : Array Bool), (∀ k, R.getD k false = true → L.getD k false = true) → (∀ e ∈ l, Region.binds md e = true → L.getD e.on false = true) → ∀ k, (reachO md R l).getD k false = true → L.getD k false = true
  | [], R, h, _, k, hk => h k hk
  | e :: l, R, h, hl, k, hk => by
    refine reachO_inv l (if Region.binds md e then R.setIfInBounds e.on true else R) ?_ (fun e' he' => hl e' (List.mem_cons_of_mem _ he')) k hk
    intro q hq
    by_cases hb : Region.binds md e = true
    · rw [if_pos hb] at hq
      rcases getD_up hq with rfl | hq
      · exact hl e (List.mem_cons_self ..) hb
      · exact h q hq
    · rw [if_neg hb] at hq
      exact h q hq
theorem reach_inv {md : Region.Mode} {ops : Array Oper} {L : Array Bool} (hc : Clsd md ops L) : ∀ (l : List Nat) (R : Array Bool), (∀ k, R.getD k false = true → L.getD k false = true) → ∀ k, (l.foldl (fun R j => if R.getD j false then (match ops[j]? with | some o => reachO md R o.after.toList | none => R) else R) R).getD k false = true → L.getD k false = true
  | [], R, h, k, hk => h k hk
  | j :: l, R, h, k, hk => by
    refine reach_inv hc l (if R.getD j false = true then (match ops[j]? with | some o => reachO md R o.after.toList | none => R) else R) ?_ k hk
    intro q hq
    by_cases hj : R.getD j false = true
    · rw [if_pos hj] at hq
      cases ho : ops[j]? with
      | none => rw [ho] at hq; exact h q hq
      | some o =>
        rw [ho] at hq
        exact reachO_inv o.after.toList R h (fun e he hb => hc j o ho (h j hj) e (Array.mem_toList_iff.1 he) hb) q hq
    · rw [if_neg hj] at hq
      exact h q hq
theorem waits_no {md : Region.Mode} {ops : Array Oper} {N i : Nat} (h : waitsB md ops N i = true) {L : Array Bool} (hc : Clsd md ops L) (hi : L.getD i true = false) : L.getD N false = false := by
  cases hN : L.getD N false with
  | false => rfl
  | true =>
    have h2 := reach_inv hc _ ((Array.replicate ops.size false).setIfInBounds N true) (fun k hk => by
      rcases getD_up hk with rfl | hk
      · exact hN
      · simp only [Array.getD_eq_getD_getElem?, Array.getElem?_replicate] at hk
        split at hk <;> simp at hk) i h
    simp only [Array.getD_eq_getD_getElem?] at h2 hi
    cases hl : L[i]? with
    | none => rw [hl] at h2; simp at h2
    | some b => rw [hl] at h2 hi; simp at h2 hi; rw [h2] at hi; cases hi

section
variable {P : Program} {ops : Array Oper} {Q : Exit → Act → World → Prop} {md : Region.Mode} {P1 P2 S2 : World → Prop} {N1 N2 : Nat}
def Phs (P1 : World → Prop) (N1 : Nat) (P2 : World → Prop) (N2 : Nat) (S2 : World → Prop) (L : Array Bool) (w : World) : Prop := (L.getD N1 false = false → P1 w) ∧ (L.getD N2 false = false → P2 w) ∧ S2 w
theorem getD_more {L : Array Bool} {i k : Nat} (g : (L.setIfInBounds i true).getD k false = false) : L.getD k false = false := by
  cases h : L.getD k false with
  | false => rfl
  | true =>
    rw [← g]
    by_cases e : i = k
    · subst e
      simp only [Array.getD_eq_getD_getElem?, Array.getElem?_setIfInBounds] at h ⊢
      by_cases hl : i < L.size
      · simp [hl]
      · rw [Array.getElem?_eq_none (by omega)] at h; simp at h
    · rw [getD_set_ne false e, h]
theorem Phs.more {L : Array Bool} {w : World} (h : Phs P1 N1 P2 N2 S2 L w) (i : Nat) : Phs P1 N1 P2 N2 S2 (L.setIfInBounds i true) w :=
  ⟨fun g => h.1 (getD_more g), fun g => h.2.1 (getD_more g), h.2.2⟩
def wpAnyP (P : Program) (md : Region.Mode) (ops : Array Oper) (Q : Exit → Act → World → Prop) (P1 : World → Prop) (N1 : Nat) (P2 : World → Prop) (N2 : Nat) (S2 : World → Prop) : Nat → Array Bool → Act → World → Prop
  | 0, L, a, w => Region.ready md ops L = [] ∧ Q .normal a w
  | fuel + 1, L, a, w => (Region.ready md ops L = [] → Q .normal a w) ∧ ∀ i ∈ Region.ready md ops L, wpOp P ops Q i (fun a' w' => Phs P1 N1 P2 N2 S2 (L.setIfInBounds i true) w' ∧ wpAnyP P md ops Q P1 N1 P2 N2 S2 fuel (L.setIfInBounds i true) a' w') a w
theorem wpAny_of_phs : ∀ (fuel : Nat) (L : Array Bool) (a : Act) (w : World), wpAnyP P md ops Q P1 N1 P2 N2 S2 fuel L a w → wpAny P md ops Q fuel L a w
  | 0, _, _, _, h => h
  | fuel + 1, _, _, _, h => ⟨h.1, fun i hi => wpOp_mono (fun a' w' h' => wpAny_of_phs fuel _ a' w' h'.2) (h.2 i hi)⟩
theorem clsd_more {L : Array Bool} (hc : Clsd md ops L) {i : Nat} (hi : i ∈ Region.ready md ops L) : Clsd md ops (L.setIfInBounds i true) := by
  intro j o ho hj e he hb
  have up : ∀ k, L.getD k false = true → (L.setIfInBounds i true).getD k false = true := by
    intro k hk
    simp only [Array.getD_eq_getD_getElem?, Array.getElem?_setIfInBounds] at hk ⊢
    by_cases e : i = k
    · subst e
      by_cases hl : i < L.size
      · simp [hl]
      · rw [Array.getElem?_eq_none (by omega)] at hk; simp at hk
    · simpa [e] using hk
  by_cases e1 : i = j
  · subst e1
    obtain ⟨_, oj, hoj, hall⟩ := mem_ready.1 hi
    rw [ho] at hoj
    cases hoj
    exact up _ (hall e he hb)
  · refine up _ (hc j o ho ?_ e he hb)
    simp only [Array.getD_eq_getD_getElem?, Array.getElem?_setIfInBounds] at hj ⊢
    simpa [e1] using hj
theorem wpAnyP_first {S0 : World → Prop} {i : Nat} (hiN : i ≠ N1 ∧ i ≠ N2) {oi : Oper} {v : Value} (hi : ops[i]? = some oi) (hsel : ∀ (j : Nat) (o : Oper) cs b, ops[j]? = some o → o.op ≠ .select cs b)
    (hQ : ∀ c a w, Q (.panic c) (a.put oi.dst v) w → Q (.panic c) a w) (h0 : ∀ L w, Clsd md ops L → L.getD i true = false → Phs P1 N1 P2 N2 S2 L w → S0 w) :
    ∀ (fuel : Nat) (L : Array Bool) (a : Act) (w : World), Clsd md ops L →
      (∀ j oj, ops[j]? = some oj → j ≠ i → L.getD j true = false → (∀ e ∈ oj.after, Region.binds md e = true → e.on ≠ i) → oi.apart ops oj = true) →
      i ∈ Region.ready md ops L → YieldsIf P ops S0 oi v a → Phs P1 N1 P2 N2 S2 L w →
      wpAnyP P md ops Q P1 N1 P2 N2 S2 fuel (L.setIfInBounds i true) (a.put oi.dst v) w → wpAnyP P md ops Q P1 N1 P2 N2 S2 (fuel + 1) L a w := by
  intro fuel
  induction fuel with
  | zero =>
    intro L a w hc _ hr hy hS H
    refine ⟨fun h => (by rw [h] at hr; cases hr), fun j hj => ?_⟩
    by_cases hji : j = i
    · subst hji; exact hy.wpOp hi (h0 L w hc (mem_ready.1 hr).1 hS) ⟨hS.more _, H⟩
    · have := ready_mono hj hji
      rw [H.1] at this
      cases this
  | succ fuel ih =>
    intro L a w hc hfree hr hy hS H
    refine ⟨fun h => (by rw [h] at hr; cases hr), fun j hj => ?_⟩
    by_cases hji : j = i
    · subst hji; exact hy.wpOp hi (h0 L w hc (mem_ready.1 hr).1 hS) ⟨hS.more _, H⟩
    · have h1 := H.2 j (ready_mono hj hji)
      obtain ⟨hjun, oj, hoj, hall⟩ := mem_ready.1 hj
      have hiun := (mem_ready.1 hr).1
      have hnot : ∀ e ∈ oj.after, Region.binds md e = true → e.on ≠ i := fun e he hb heq => by
        have h1 := hall e he hb
        rw [heq] at h1
        simp only [Array.getD_eq_getD_getElem?] at h1 hiun
        cases hl : L[i]? with
        | none => rw [hl] at h1; simp at h1
        | some b => rw [hl] at h1 hiun; simp at h1 hiun; rw [h1] at hiun; cases hiun
      have h2 := wpOp_putIf hoj (hfree j oj hoj hji hjun hnot) (fun cs b => hsel i oi cs b hi) (fun cs b => hsel j oj cs b hoj) hQ hy h1
      have hfree' : ∀ k ok, ops[k]? = some ok → k ≠ i → (L.setIfInBounds j true).getD k true = false →
          (∀ e ∈ ok.after, Region.binds md e = true → e.on ≠ i) → oi.apart ops ok = true := fun k ok hk hki hun hno => by
        refine hfree k ok hk hki ?_ hno
        by_cases hjk : j = k
        · subst hjk; exact hjun
        · rw [getD_set_ne true hjk] at hun; exact hun
      have back : ∀ w', Phs P1 N1 P2 N2 S2 ((L.setIfInBounds i true).setIfInBounds j true) w' → Phs P1 N1 P2 N2 S2 (L.setIfInBounds j true) w' := by
        intro w' hp
        refine ⟨fun g => hp.1 ?_, fun g => hp.2.1 ?_, hp.2.2⟩
        · rw [Array.setIfInBounds_comm _ _ (Ne.symm hji), getD_set_ne false hiN.1]; exact g
        · rw [Array.setIfInBounds_comm _ _ (Ne.symm hji), getD_set_ne false hiN.2]; exact g
      refine wpOp_mono (fun a' w' h3 => ⟨back w' h3.2.1, ih (L.setIfInBounds j true) a' w' (clsd_more hc hj) hfree' (ready_mono hr (Ne.symm hji)) h3.1 (back w' h3.2.1) ?_⟩) h2
      rw [Array.setIfInBounds_comm _ _ hji]
      exact h3.2.2
variable {fuel : Nat} {L : Array Bool} {a : Act} {w : World}
theorem wpAnyP_done (hr : Region.ready md ops L = []) (h : Q .normal a w) : ∀ fuel, wpAnyP P md ops Q P1 N1 P2 N2 S2 fuel L a w
  | 0 => ⟨hr, h⟩
  | _ + 1 => ⟨fun _ => h, by rw [hr]; simp⟩
theorem phA {i : Nat} (h1 : waitsB md ops N1 i = true) (h2 : waitsB md ops N2 i = true) : ∀ L w, Clsd md ops L → L.getD i true = false → Phs P1 N1 P2 N2 S2 L w → P1 w ∧ P2 w ∧ S2 w := fun _ _ hc hi hp => ⟨hp.1 (waits_no h1 hc hi), hp.2.1 (waits_no h2 hc hi), hp.2.2⟩
theorem phB {i : Nat} (h2 : waitsB md ops N2 i = true) : ∀ L w, Clsd md ops L → L.getD i true = false → Phs P1 N1 P2 N2 S2 L w → P2 w ∧ S2 w := fun _ _ hc hi hp => ⟨hp.2.1 (waits_no h2 hc hi), hp.2.2⟩
theorem phC {i : Nat} : ∀ L w, Clsd md ops L → L.getD i true = false → Phs P1 N1 P2 N2 S2 L w → S2 w := fun _ _ _ _ hp => hp.2.2
theorem ph0 {L : Array Bool} {w : World} (h : P1 w ∧ P2 w ∧ S2 w) : Phs P1 N1 P2 N2 S2 L w := ⟨fun _ => h.1, fun _ => h.2.1, h.2.2⟩
theorem ph1 {L : Array Bool} {w : World} (h : P2 w ∧ S2 w) (hN : L.getD N1 false = true) : Phs P1 N1 P2 N2 S2 L w := ⟨fun g => absurd (hN.symm.trans g) (by decide), fun _ => h.1, h.2⟩
theorem ph2 {L : Array Bool} {w : World} (h : S2 w) (hN : L.getD N1 false = true) (hN2 : L.getD N2 false = true) : Phs P1 N1 P2 N2 S2 L w := ⟨fun g => absurd (hN.symm.trans g) (by decide), fun g => absurd (hN2.symm.trans g) (by decide), h⟩
theorem tkX {S0 : World → Prop} (i : Nat) (d : Option Nat) (v : Value) {op : _} {t : _} {p : _} {af : _} {g : _} (h0 : ∀ L w, Clsd md ops L → L.getD i true = false → Phs P1 N1 P2 N2 S2 L w → S0 w) (hS : Phs P1 N1 P2 N2 S2 L w) (hy : ∀ w, S0 w → (execOp a.eval { dst := d, op := op, type := t, pos := p, after := af, guard := g }).run P w = .ok (.value v) w) (h : wpAnyP P md ops Q P1 N1 P2 N2 S2 fuel (L.setIfInBounds i true) (a.put d v) w)
    (hi : ops[i]? = some { dst := d, op := op, type := t, pos := p, after := af, guard := g } := by rfl) (hw : Region.wanted { dst := d, op := op, type := t, pos := p, after := af, guard := g } (yielded ops a.tmps) = true := by rfl) (hs : Region.noSelect ops = true := by kernel_rfl) (hf : Region.free md ops L i = true := by kernel_rfl) (hr : (Region.ready md ops L).contains i = true := by kernel_rfl)
    (hc : clsdB md ops L = true := by kernel_rfl) (hiN : (Nat.beq i N1 || Nat.beq i N2) = false := by kernel_rfl)
    (hQ : ∀ c a w, Q (.panic c) (a.put d v) w → Q (.panic c) a w := by exact fun _ _ _ h => h) : wpAnyP P md ops Q P1 N1 P2 N2 S2 (fuel + 1) L a w :=
  wpAnyP_first (S0 := S0) (by rw [Bool.or_eq_false_iff] at hiN; exact ⟨Nat.ne_of_beq_eq_false hiN.1, Nat.ne_of_beq_eq_false hiN.2⟩) hi (Region.noSelect_spec hs) hQ h0 fuel L a w (clsd_of hc) (Region.free_spec hi hf) (by simpa using hr) (Or.inl ⟨hw, hy⟩) hS h
def AllReadyP (P : Program) (md : Region.Mode) (ops : Array Oper) (Q : Exit → Act → World → Prop) (P1 : World → Prop) (N1 : Nat) (P2 : World → Prop) (N2 : Nat) (S2 : World → Prop) (fuel : Nat) (L : Array Bool) (a : Act) (w : World) (rs : List Nat) : Prop :=
  ∀ i ∈ rs, wpOp P ops Q i (fun a' w' => Phs P1 N1 P2 N2 S2 (L.setIfInBounds i true) w' ∧ wpAnyP P md ops Q P1 N1 P2 N2 S2 fuel (L.setIfInBounds i true) a' w') a w
theorem AllReadyP.nil : AllReadyP P md ops Q P1 N1 P2 N2 S2 fuel L a w [] := fun _ h => by cases h
theorem wpAnyP_ready {rs : List Nat} (hr : Region.ready md ops L = rs) (hne : rs ≠ []) (h : AllReadyP P md ops Q P1 N1 P2 N2 S2 fuel L a w rs) : wpAnyP P md ops Q P1 N1 P2 N2 S2 (fuel + 1) L a w := ⟨fun h0 => absurd (hr ▸ h0) hne, hr ▸ h⟩
theorem arcP0 {i : Nat} {rs : List Nat} (d : Option Nat) {op : _} {t : _} {p : _} {af : _} {g : _}
    (h : ∀ K' : Act → World → Prop, Shut (∀ a w, (P1 w ∧ P2 w ∧ S2 w) → ((P1 w ∧ P2 w ∧ S2 w) → wpAnyP P md ops Q P1 N1 P2 N2 S2 fuel (L.setIfInBounds i true) a w) → K' a w) → if Region.wanted { dst := d, op := op, type := t, pos := p, after := af, guard := g } (yielded ops a.tmps) = true then Oper.wp P { dst := d, op := op, type := t, pos := p, after := af, guard := g } a w K' Q else K' (a.put d undef) w)
    (hs : AllReadyP P md ops Q P1 N1 P2 N2 S2 fuel L a w rs) (ho : ops[i]? = some { dst := d, op := op, type := t, pos := p, after := af, guard := g } := by rfl) : AllReadyP P md ops Q P1 N1 P2 N2 S2 fuel L a w (i :: rs) := fun j hj => by
  rcases List.mem_cons.1 hj with rfl | hj
  · exact wpOp_step ho (fun K' hK => h K' (fun a w hS hW => hK a w ⟨ph0 hS, hW hS⟩))
  · exact hs j hj
theorem arcP1 {i : Nat} {rs : List Nat} (d : Option Nat) {op : _} {t : _} {p : _} {af : _} {g : _}
    (h : ∀ K' : Act → World → Prop, Shut (∀ a w, (P2 w ∧ S2 w) → ((P2 w ∧ S2 w) → wpAnyP P md ops Q P1 N1 P2 N2 S2 fuel (L.setIfInBounds i true) a w) → K' a w) → if Region.wanted { dst := d, op := op, type := t, pos := p, after := af, guard := g } (yielded ops a.tmps) = true then Oper.wp P { dst := d, op := op, type := t, pos := p, after := af, guard := g } a w K' Q else K' (a.put d undef) w)
    (hs : AllReadyP P md ops Q P1 N1 P2 N2 S2 fuel L a w rs) (ho : ops[i]? = some { dst := d, op := op, type := t, pos := p, after := af, guard := g } := by rfl) (hN : (L.setIfInBounds i true).getD N1 false = true := by kernel_rfl) : AllReadyP P md ops Q P1 N1 P2 N2 S2 fuel L a w (i :: rs) := fun j hj => by
  rcases List.mem_cons.1 hj with rfl | hj
  · exact wpOp_step ho (fun K' hK => h K' (fun a w hS hW => hK a w ⟨ph1 hS hN, hW hS⟩))
  · exact hs j hj
theorem arcP2 {i : Nat} {rs : List Nat} (d : Option Nat) {op : _} {t : _} {p : _} {af : _} {g : _}
    (h : ∀ K' : Act → World → Prop, Shut (∀ a w, (S2 w) → ((S2 w) → wpAnyP P md ops Q P1 N1 P2 N2 S2 fuel (L.setIfInBounds i true) a w) → K' a w) → if Region.wanted { dst := d, op := op, type := t, pos := p, after := af, guard := g } (yielded ops a.tmps) = true then Oper.wp P { dst := d, op := op, type := t, pos := p, after := af, guard := g } a w K' Q else K' (a.put d undef) w)
    (hs : AllReadyP P md ops Q P1 N1 P2 N2 S2 fuel L a w rs) (ho : ops[i]? = some { dst := d, op := op, type := t, pos := p, after := af, guard := g } := by rfl) (hN : (L.setIfInBounds i true).getD N1 false = true := by kernel_rfl) (hN2 : (L.setIfInBounds i true).getD N2 false = true := by kernel_rfl) : AllReadyP P md ops Q P1 N1 P2 N2 S2 fuel L a w (i :: rs) := fun j hj => by
  rcases List.mem_cons.1 hj with rfl | hj
  · exact wpOp_step ho (fun K' hK => h K' (fun a w hS hW => hK a w ⟨ph2 hS hN hN2, hW hS⟩))
  · exact hs j hj
theorem region_phs {id : Nat} (hm : P.follows .mixedOrders = true) (hS : P1 w.drew ∧ P2 w.drew ∧ S2 w.drew)
    (h : (P1 w.drew ∧ P2 w.drew ∧ S2 w.drew) → wpAnyP P .any ops Q P1 N1 P2 N2 S2 ops.size (Array.replicate ops.size false) a w.drew) : (Code.region id ops true).wp P Q a w :=
  wp_region_any hm (wpAny_of_phs _ _ _ _ (h hS))
end
end Go.Proofs.Ytpeogfcfiabcfaa

namespace Go.Proofs.Ytpeogfcfiabcfaa
open Go.RowKit

structure TkUp (n : Nat) (H L : Nat → Int) : Prop where
  h : ∀ i, i < n → 0 ≤ H i ∧ H i ≤ 20 + 40 * (i : Int)
  l : ∀ i, i < n → 0 ≤ L i ∧ L i ≤ 100 + 5000 * (i : Int)
  hs : ∀ i, i + 1 < n → H i < H (i + 1)
  ls : ∀ i, i + 1 < n → L i ≤ L (i + 1)
theorem TkUp.mono {n : Nat} {H L : Nat → Int} (t : TkUp n H L) : ∀ q, q < n → H 0 ≤ H q
  | 0, _ => Int.le_refl _
  | q + 1, h => by have := t.mono q (by omega); have := t.hs q h; omega
theorem TkUp.more {q : Nat} {H L : Nat → Int} (t : TkUp (q + 1) H L) {x y : Int} (x0 : 1 ≤ x) (x1 : x ≤ 40) (y0 : 0 ≤ y) (y1 : y ≤ 5000) : TkUp (q + 1 + 1) (upF H (q + 1) (H q + x)) (upF L (q + 1) (L q + y)) := by
  have a := t.h q (by omega)
  have b := t.l q (by omega)
  refine ⟨fun i hi => ?_, fun i hi => ?_, fun i hi => ?_, fun i hi => ?_⟩
  · unfold upF
    by_cases e : i = q + 1
    · rw [if_pos e, e]; omega
    · rw [if_neg e]; exact t.h i (by omega)
  · unfold upF
    by_cases e : i = q + 1
    · rw [if_pos e, e]; omega
    · rw [if_neg e]; exact t.l i (by omega)
  · unfold upF
    by_cases e : i + 1 = q + 1
    · have e2 : i = q := by omega
      rw [if_pos e, if_neg (by omega), e2]; omega
    · rw [if_neg e, if_neg (by omega)]; exact t.hs i (by omega)
  · unfold upF
    by_cases e : i + 1 = q + 1
    · have e2 : i = q := by omega
      rw [if_pos e, if_neg (by omega), e2]; omega
    · rw [if_neg e, if_neg (by omega)]; exact t.ls i (by omega)
theorem cat_upI (A : Nat → Int) (j : Nat) (x : Int) : catC (inC (upF A j x)) (j + 1) = catC (inC A) j ++ [.int .i64 x] := by
  rw [catC, catC_congr j (C := inC (upF A j x)) (D := inC A) (fun i hi => by unfold inC upF; rw [if_neg (by omega)])]
  unfold inC upF
  simp
theorem row_int {W : World} {base g n c : Nat} {X : Nat → Int} (h : W.ownsRow base 3 1 (.slice (some ⟨g, 0, none⟩) n c) n (catC (inC X) n)) {i : Nat} (hi : i < n) : W.cell? ⟨g, i, none⟩ = some (.int .i64 (X i)) := by
  rw [h.cellAt i (by omega)]
  have := catC_at (inC X) 1 i 0 (by omega) n (fun _ _ => rfl) hi
  rw [show i * 1 + 0 = i by omega] at this
  rw [this]; rfl
theorem row_made {W : World} {base g : Nat} {x : Int} (h : Blk W g #[.int .i64 x] 3) (hb : base ≤ g) : W.ownsRow base 3 1 (.slice (some ⟨g, 0, none⟩) 1 1) 1 (catC (inC (fun _ => x)) 1) :=
  ⟨rfl, .inr ⟨g, 1, _, rfl, hb, h, Nat.le_refl _, by decide, rfl, rfl⟩⟩
theorem news_one {W : World} {g : Nat} {x : Value} {t : TypeId} (h : Blk W g #[x] t) : ∀ (j : Nat) (u : Value), [x][j]? = some u → W.cell? ((⟨g, 0, none⟩ : Addr).add j) = some u := by
  intro j u hj
  cases j with
  | zero => simp at hj; subst hj; exact h.cell 0 rfl
  | succ j => simp at hj
theorem row_store {W : World} {base s n : Nat} {e : TypeId} {v : Value} {xs : List Value} (h : W.ownsRow base e s v n xs) {b o : Nat} {u : Value} (hne : v.ownBlock ≠ some b) : (W.setCell ⟨b, o, none⟩ u).ownsRow base e s v n xs :=
  h.kept (row := some b) ⟨rfl, rfl, rfl, by simp [World.setCell], fun k hk hn => Below.heap_setCell W ⟨b, o, none⟩ u k (fun e => hn (by rw [e]))⟩ (.inr hne)
theorem cells3 {W : World} {b : Nat} {x y z : Int} {t : TypeId} (k : Blk W b #[.int .i64 x, .int .i64 y, .int .i64 z] t) : ∀ i, i < 3 → W.cell? ⟨b, 0 + i, none⟩ = some (.int .i64 ([x, y, z].getD i 0)) := by
  intro i hi
  obtain rfl | rfl | rfl : i = 0 ∨ i = 1 ∨ i = 2 := by omega
  · exact k.cell 0 rfl
  · exact k.cell 1 rfl
  · exact k.cell 2 rfl
theorem pick3 {x y z m : Int} (hx : 0 ≤ x ∧ x ≤ m) (hy : 0 ≤ y ∧ y ≤ m) (hz : 0 ≤ z ∧ z ≤ m) : ∀ i, i < 3 → 0 ≤ [x, y, z].getD i 0 ∧ [x, y, z].getD i 0 ≤ m := by
  intro i hi
  obtain rfl | rfl | rfl : i = 0 ∨ i = 1 ∨ i = 2 := by omega
  · exact hx
  · exact hy
  · exact hz
theorem awR3 {w W : World} {o : Obj} {base s n : Nat} {e : TypeId} {v : Value} {xs : List Value} (h : (w.alloc o).drew = W) (k : w.ownsRow base e s v n xs) : W.ownsRow base e s v n xs := h ▸ (k.alloc o)
theorem blk_ne {W : World} {a b : Nat} {C D : Array Value} {t e : TypeId} (h : Blk W a C t) (k : Blk W b D e) (ht : t ≠ e) : a ≠ b := by
  rintro rfl
  unfold Blk at h k
  rw [h] at k
  simp at k
  exact ht k.2
set_option maxRecDepth 100000 in
set_option maxHeartbeats 8000000 in
theorem tankof_in (bs : Nat) (w : World) (hs : SeedAt bs w) :
    Calls Try.prog 16 #[.pointer (some ⟨bs, 0, none⟩)] w fun e w' => ∃ (q gH cH gL cL : Nat) (H L : Nat → Int), e = .returned (.agg #[.slice (some ⟨gH, 0, none⟩) (q + 1) cH, .slice (some ⟨gL, 0, none⟩) (q + 1) cL]) ∧ 1 ≤ q ∧ q ≤ 5 ∧ w'.ownsRow w.heap.size 3 1 (.slice (some ⟨gH, 0, none⟩) (q + 1) cH) (q + 1) (catC (inC H) (q + 1)) ∧ w'.ownsRow w.heap.size 3 1 (.slice (some ⟨gL, 0, none⟩) (q + 1) cL) (q + 1) (catC (inC L) (q + 1)) ∧ TkUp (q + 1) H L ∧ Drawn bs w w' := by
  have hbs : bs < w.heap.size := hs.choose_spec.lt
  obtain ⟨i0, hi0, hz0, hz1, hz2⟩ := info_parts Try.infoInt
  have nB : ∀ {W : World} {b : Nat} {C : Array Value} {t : TypeId}, SeedAt bs W → Blk W b C t → t ≠ 101 → b ≠ bs := fun hs k ht => Exists.elim hs fun _ h => blk_ne k h ht
  have hD := Drawn.alloc hs (.cells #[.slice none 0 0, .slice none 0 0] 24)
  have jR := Blk.new w #[.slice none 0 0, .slice none 0 0] 24
  go_enter Try.func16, Try.ntmps16
  go_wp2_with fail
  refine (below_in 20 bs _ hD.seed (by omega)).mono ?_
  rintro e w1 ⟨x, rfl, x0, x1, hd⟩
  replace jR := hd.blk jR (by omega)
  replace hD := hD.trans hd
  clear hd
  have jH := Blk.new w1 #[.int .i64 x] 3
  have zH := jR.lt
  replace jR := jR.alloc (.cells #[.int .i64 x] 3)
  replace hD := hD.new (.cells #[.int .i64 x] 3)
  go_wp2_with fail
  obtain ⟨V, hV⟩ : ∃ V, Blk.wld jH = V := ⟨_, rfl⟩
  simp only [Blk.wld] at hV
  rw [hV] at jH jR hD ⊢
  clear hV
  obtain ⟨bH, hbH⟩ : ∃ b, w1.heap.size = b := ⟨_, rfl⟩
  rw [hbH] at jH zH ⊢
  clear hbH
  refine (below_in 100 bs _ hD.seed (by omega)).mono ?_
  rintro e w2 ⟨y, rfl, y0, y1, hd⟩
  replace jR := hd.blk jR (by omega)
  replace jH := hd.blk jH (by omega)
  replace hD := hD.trans hd
  clear hd
  have jL := Blk.new w2 #[.int .i64 y] 3
  have zHL := jH.lt
  have zL := jR.lt
  replace jR := jR.alloc (.cells #[.int .i64 y] 3)
  replace jH := jH.alloc (.cells #[.int .i64 y] 3)
  replace hD := hD.new (.cells #[.int .i64 y] 3)
  obtain ⟨V2, hV⟩ : ∃ V, Blk.wld jL = V := ⟨_, rfl⟩
  simp only [Blk.wld] at hV
  obtain ⟨bL, hbL⟩ : ∃ b, w2.heap.size = b := ⟨_, rfl⟩
  have zT := hD.2.size
  simp only [World.size_alloc, hbL] at zT
  have jT := Blk.new V2 #[.slice (some ⟨bH, 0, none⟩) 1 1, .slice (some ⟨bL, 0, none⟩) 1 1] 24
  rw [hV] at jL jR jH hD
  rw [hbL] at jL zHL zL
  have zLT := jL.lt
  replace jR := jR.alloc (.cells #[.slice (some ⟨bH, 0, none⟩) 1 1, .slice (some ⟨bL, 0, none⟩) 1 1] 24)
  replace jH := jH.alloc (.cells #[.slice (some ⟨bH, 0, none⟩) 1 1, .slice (some ⟨bL, 0, none⟩) 1 1] 24)
  replace jL := jL.alloc (.cells #[.slice (some ⟨bH, 0, none⟩) 1 1, .slice (some ⟨bL, 0, none⟩) 1 1] 24)
  replace hD := hD.new (.cells #[.slice (some ⟨bH, 0, none⟩) 1 1, .slice (some ⟨bL, 0, none⟩) 1 1] 24)
  go_wp2_with fail
  refine (from_in 1 5 bs _ hD.seed (by omega) (by omega) (by omega) (by omega)).mono ?_
  rintro e w3 ⟨c, rfl, c0, c1, hd⟩
  replace jR := hd.blk jR (by omega)
  replace jH := hd.blk jH (by omega)
  replace jL := hd.blk jL (by omega)
  replace jT := hd.blk jT (by rw [← hV, World.size_alloc, hbL]; omega)
  replace hD := hD.trans hd
  clear hd
  obtain ⟨k, rfl⟩ : ∃ k : Nat, c = k := ⟨c.toNat, by omega⟩
  obtain ⟨bT, hbT⟩ : ∃ b, V2.heap.size = b := ⟨_, rfl⟩
  rw [hbT] at jT zLT ⊢
  have rH := row_made (base := w.heap.size) jH (by omega)
  have rL := row_made (base := w.heap.size) jL (by omega)
  have zTb : w.heap.size < bT := by omega
  have zHL' : bH ≠ bL := by omega
  have hUp : TkUp (0 + 1) (fun _ => x) (fun _ => y) := ⟨fun i hi => by constructor <;> omega, fun i hi => by constructor <;> omega, fun i hi => by omega, fun i hi => by omega⟩
  have hk1 : 1 ≤ k := by omega
  have hk5 : k ≤ 5 := by omega
  clear hbT hbL hV zT zLT zHL zL zH x0 x1 y0 y1 c0 c1 jH jL
  go_wp2_with fail
  go_loopw [4, 5] (fun i _ wr => ∃ (q k : Nat) (gH cH gL cL : Nat) (H L : Nat → Int), i = .int .i64 k ∧ q + k ≤ 5 ∧ 1 ≤ q + k ∧ Blk wr bT #[.slice (some ⟨gH, 0, none⟩) (q + 1) cH, .slice (some ⟨gL, 0, none⟩) (q + 1) cL] 24 ∧ wr.ownsRow w.heap.size 3 1 (.slice (some ⟨gH, 0, none⟩) (q + 1) cH) (q + 1) (catC (inC H) (q + 1)) ∧ wr.ownsRow w.heap.size 3 1 (.slice (some ⟨gL, 0, none⟩) (q + 1) cL) (q + 1) (catC (inC L) (q + 1)) ∧ gH ≠ gL ∧ TkUp (q + 1) H L ∧ Blk wr w.heap.size #[.slice none 0 0, .slice none 0 0] 24 ∧ Drawn bs w wr) (fun i _ _ => (intOf i).toNat)
  case atStart => exact ⟨0, k, bH, 1, bL, 1, fun _ => x, fun _ => y, rfl, by omega, by omega, jT, rH, rL, zHL', hUp, jR, hD⟩
  case round =>
    clear jT rH rL hUp jR hD hk1 hk5 zHL'
    obtain ⟨q, k, gH, cH, gL, cL, H, L, rfl, hq5, hq1, jT, rH, rL, zHL, hUp, jR, hD⟩ := hrel
    have HUp := Lib.hid hUp
    clear hUp
    obtain ⟨t0, t1⟩ := jT.c2
    by_cases h0 : k = 0
    · subst h0
      obtain ⟨r0, r1⟩ := jR.c2
      have f0 := jR.free 0
      have f1 := jR.free 1
      have zR := jR.lt
      have zzT := jT.lt
      have nT : bT ≠ w.heap.size := by omega
      have nHT := blk_row_ne2 jR rH (by decide)
      have nLT := blk_row_ne2 jR rL (by decide)
      have KR := Lib.hid ((jR.set 0 (.slice (some ⟨gH, 0, none⟩) (q + 1) cH)).set 1 (.slice (some ⟨gL, 0, none⟩) (q + 1) cL))
      have KD := Lib.hid ((hD.set (p := ⟨w.heap.size, 0, none⟩) (Nat.le_refl _) hbs (.slice (some ⟨gH, 0, none⟩) (q + 1) cH)).set (p := ⟨w.heap.size, 1, none⟩) (Nat.le_refl _) hbs (.slice (some ⟨gL, 0, none⟩) (q + 1) cL))
      have KH := Lib.hid (row_store (row_store rH (b := w.heap.size) (o := 0) (u := (.slice (some ⟨gH, 0, none⟩) (q + 1) cH)) (fun e => nHT _ rfl (by simpa [Value.ownBlock] using e.symm))) (b := w.heap.size) (o := 1) (u := (.slice (some ⟨gL, 0, none⟩) (q + 1) cL)) (fun e => nHT _ rfl (by simpa [Value.ownBlock] using e.symm)))
      have KL := Lib.hid (row_store (row_store rL (b := w.heap.size) (o := 0) (u := (.slice (some ⟨gH, 0, none⟩) (q + 1) cH)) (fun e => nLT _ rfl (by simpa [Value.ownBlock] using e.symm))) (b := w.heap.size) (o := 1) (u := (.slice (some ⟨gL, 0, none⟩) (q + 1) cL)) (fun e => nLT _ rfl (by simpa [Value.ownBlock] using e.symm)))
      clear jR hD rH rL jT nHT nLT
      go_wp2_with fail
      obtain ⟨z0, z1⟩ := KR.out.c2
      exact bodyPost_ret (v := .agg #[.slice (some ⟨gH, 0, none⟩) (q + 1) cH, .slice (some ⟨gL, 0, none⟩) (q + 1) cL]) (by simp [results, Try.results16, go_sem, z0, z1]) rfl ⟨q, gH, cH, gL, cL, H, L, rfl, by omega, by omega, KH.out, KL.out, HUp.out, KD.out⟩
    · have e2 : (0 : Int) < k := by omega
      have e3 : IntKind.i64.wrap ((k : Int) - 1) = ((k - 1 : Nat) : Int) := by rw [show (k : Int) - 1 = ((k - 1 : Nat) : Int) by omega]; exact IntWalk.i64_in _ (by omega)
      have e4 : IntKind.i64.wrap (((q + 1 : Nat) : Int) - 1) = (q : Int) := by rw [show ((q + 1 : Nat) : Int) - 1 = (q : Int) by omega]; exact IntWalk.i64_in _ (by omega)
      go_upto_region 6 with fail
      clear t0 t1
      obtain ⟨x9, hx9⟩ : ∃ z, H q = z := ⟨_, rfl⟩
      obtain ⟨y9, hy9⟩ : ∃ z, L q = z := ⟨_, rfl⟩
      have hUq := And.intro (HUp.out.h q (by omega)) (HUp.out.l q (by omega))
      rw [hx9, hy9] at hUq
      have HXY := Lib.hid (And.intro hx9 hy9)
      have HCH := Lib.hid (fun (W : World) (h : W.ownsRow w.heap.size 3 1 (.slice (some ⟨gH, 0, none⟩) (q + 1) cH) (q + 1) (catC (inC H) (q + 1))) => (show W.cell? ⟨gH, q, none⟩ = some (.int .i64 x9) by rw [← hx9]; exact row_int h (Nat.lt_succ_self q)))
      have HCL := Lib.hid (fun (W : World) (h : W.ownsRow w.heap.size 3 1 (.slice (some ⟨gL, 0, none⟩) (q + 1) cL) (q + 1) (catC (inC L) (q + 1))) => (show W.cell? ⟨gL, q, none⟩ = some (.int .i64 y9) by rw [← hy9]; exact row_int h (Nat.lt_succ_self q)))
      clear hx9 hy9
      have hqI : (q : Int) < ((q + 1 : Nat) : Int) := by omega
      have hqN : q < q + 1 := Nat.lt_succ_self q
      have hqI2 : (q : Int) < (q : Int) + 1 := by omega
      have zbR := jR.lt
      (
 refine region_phs (P1 := (fun W => W.ownsRow w.heap.size 3 1 (.slice (some ⟨gH, 0, none⟩) (q + 1) cH) (q + 1) (catC (inC H) (q + 1)))) (N1 := 11) (P2 := (fun W => Blk W bT #[.slice (some ⟨gH, 0, none⟩) (q + 1) cH, .slice (some ⟨gL, 0, none⟩) (q + 1) cL] 24 ∧ W.ownsRow w.heap.size 3 1 (.slice (some ⟨gL, 0, none⟩) (q + 1) cL) (q + 1) (catC (inC L) (q + 1)))) (N2 := 28) (S2 := (fun W => Blk W w.heap.size #[.slice none 0 0, .slice none 0 0] 24 ∧ Drawn bs w W)) (by kernel_rfl) ?_ (fun hH => ?_)
 · (try dsimp only); (exact ⟨rH.drew, ⟨jT.drew, rL.drew⟩, jR.drew, hD.trans (Drawn.drew hD.seed)⟩)
 (try dsimp only at hH)
 refine tkX 0 (some 23) ?_ phC (ph0 hH) ?_ ?_
 rotate_left
 · intro w _; go_simp; (try with_reducible rfl)
 (try simp only [cq])
 refine tkX 1 (some 24) ?_ (phB (by kernel_rfl)) (ph0 hH) ?_ ?_
 rotate_left
 · intro w hS0; (try dsimp only at hS0); obtain ⟨⟨kT, rB⟩, _⟩ := hS0; obtain ⟨t0, t1⟩ := kT.c2; have cB := HCL.out _ rB; have yB := World.block_lt_of_cell? _ _ cB; have yT := kT.lt;go_simp; (try with_reducible rfl)
 (try simp only [cq])
 refine tkX 2 (some 25) ?_ phC (ph0 hH) ?_ ?_
 rotate_left
 · intro w _; go_simp; (try with_reducible rfl)
 (try simp only [cq])
 refine tkX 3 (some 26) ?_ (phB (by kernel_rfl)) (ph0 hH) ?_ ?_
 rotate_left
 · intro w hS0; (try dsimp only at hS0); obtain ⟨⟨kT, rB⟩, _⟩ := hS0; obtain ⟨t0, t1⟩ := kT.c2; have cB := HCL.out _ rB; have yB := World.block_lt_of_cell? _ _ cB; have yT := kT.lt;go_simp; (try with_reducible rfl)
 (try simp only [cq])
 refine tkX 4 (some 27) ?_ phC (ph0 hH) ?_ ?_
 rotate_left
 · intro w _; go_simp; (try with_reducible rfl)
 (try simp only [cq])
 refine tkX 5 (some 28) ?_ phC (ph0 hH) ?_ ?_
 rotate_left
 · intro w _; go_simp; (try with_reducible rfl)
 (try simp only [cq])
 refine tkX 6 (some 29) ?_ (phA (by kernel_rfl) (by kernel_rfl)) (ph0 hH) ?_ ?_
 rotate_left
 · intro w hS0; (try dsimp only at hS0); obtain ⟨rA, _, _⟩ := hS0; have cA := HCH.out _ rA; have yA := World.block_lt_of_cell? _ _ cA;go_simp; (try with_reducible rfl)
 (try simp only [cq])
 refine tkX 7 (some 30) ?_ phC (ph0 hH) ?_ ?_
 rotate_left
 · intro w _; go_simp; (try with_reducible rfl)
 (try simp only [cq])
 refine tkX 12 (some 35) ?_ phC (ph0 hH) ?_ ?_
 rotate_left
 · intro w _; go_simp; (try with_reducible rfl)
 (try simp only [cq])
 refine tkX 13 (some 36) ?_ (phB (by kernel_rfl)) (ph0 hH) ?_ ?_
 rotate_left
 · intro w hS0; (try dsimp only at hS0); obtain ⟨⟨kT, rB⟩, _⟩ := hS0; obtain ⟨t0, t1⟩ := kT.c2; have cB := HCL.out _ rB; have yB := World.block_lt_of_cell? _ _ cB; have yT := kT.lt;go_simp; (try with_reducible rfl)
 (try simp only [cq])
 refine tkX 14 (some 37) ?_ phC (ph0 hH) ?_ ?_
 rotate_left
 · intro w _; go_simp; (try with_reducible rfl)
 (try simp only [cq])
 refine tkX 15 (some 38) ?_ (phB (by kernel_rfl)) (ph0 hH) ?_ ?_
 rotate_left
 · intro w hS0; (try dsimp only at hS0); obtain ⟨⟨kT, rB⟩, _⟩ := hS0; obtain ⟨t0, t1⟩ := kT.c2; have cB := HCL.out _ rB; have yB := World.block_lt_of_cell? _ _ cB; have yT := kT.lt;go_simp; (try with_reducible rfl)
 (try simp only [cq])
 refine tkX 16 (some 39) ?_ phC (ph0 hH) ?_ ?_
 rotate_left
 · intro w _; go_simp; (try with_reducible rfl)
 (try simp only [cq])
 refine tkX 17 (some 40) ?_ phC (ph0 hH) ?_ ?_
 rotate_left
 · intro w _; go_simp; (try with_reducible rfl)
 (try simp only [cq])
 refine tkX 18 (some 41) ?_ (phB (by kernel_rfl)) (ph0 hH) ?_ ?_
 rotate_left
 · intro w hS0; (try dsimp only at hS0); obtain ⟨⟨kT, rB⟩, _⟩ := hS0; obtain ⟨t0, t1⟩ := kT.c2; have cB := HCL.out _ rB; have yB := World.block_lt_of_cell? _ _ cB; have yT := kT.lt;go_simp; (try with_reducible rfl)
 (try simp only [cq])
 refine tkX 19 (some 42) ?_ phC (ph0 hH) ?_ ?_
 rotate_left
 · intro w _; go_simp; (try with_reducible rfl)
 (try simp only [cq])
 refine tkX 20 (some 43) ?_ phC (ph0 hH) ?_ ?_
 rotate_left
 · intro w _; go_simp; (try with_reducible rfl)
 (try simp only [cq])
 refine tkX 22 (some 45) ?_ phC (ph0 hH) ?_ ?_
 rotate_left
 · intro w _; go_simp; (try with_reducible rfl)
 (try simp only [cq])
 refine wpAnyP_ready (rs := [8]) (by kernel_rfl) (by simp) ?_
 refine arcP0 (some 31) (fun K hK => ?_) AllReadyP.nil
 go_simp
 (refine (from_in 1 40 bs _ hH.2.2.2.seed (by omega) (by omega) (by omega) (by omega)).mono ?_; rintro e w' ⟨x1, rfl, a1, a2, hd⟩; replace a2 : x1 ≤ 40 := by omega)
 refine hK.out _ _ ?_ ?_
 · (try dsimp only); exact ⟨hd.row hH.1 hbs, ⟨hd.blk hH.2.1.1 (nB hH.2.2.2.seed hH.2.1.1 (by decide)), hd.row hH.2.1.2 hbs⟩, hd.blk hH.2.2.1 (by omega), hH.2.2.2.trans hd⟩
 (try clear hH); (try clear hd)
 intro hH
 (try dsimp only at hH)
 clear hK K
 (try simp only [cq])
 refine tkX 9 (some 32) ?_ phC (ph0 hH) ?_ ?_
 rotate_left
 · intro w _; go_simp; (try with_reducible rfl)
 (try simp only [cq])
 refine wpAnyP_ready (rs := [10]) (by kernel_rfl) (by simp) ?_
 refine arcP0 (some 33) (fun K hK => ?_) AllReadyP.nil
 have e5 : IntKind.i64.wrap (x9 + x1) = x9 + x1 := IntWalk.i64_in _ (by omega)
 have zA : w.heap.size < _ := hH.2.2.1.lt
 go_simp
 first | refine oA hK ?_ (fun hH hA => ?_) | refine oD hK ?_ (fun hH hA => ?_)
 · (try dsimp only); exact ⟨hH.1.alloc _, ⟨hH.2.1.1.alloc _, hH.2.1.2.alloc _⟩, hH.2.2.1.alloc _, hH.2.2.2.new _⟩
 (try dsimp only at hH)
 obtain ⟨bA, hbA⟩ : ∃ b, Blk.num hA = b := ⟨_, rfl⟩
 obtain ⟨V, hV⟩ : ∃ V, Blk.wld hA = V := ⟨_, rfl⟩
 simp only [Blk.num] at hbA
 simp only [Blk.wld] at hV
 rw [hV] at hH hA ⊢
 rw [hbA] at hA ⊢
 replace zA : w.heap.size < bA := (by rw [← hbA]; exact zA)
 clear hV hbA
 have kA := hA
 clear hA
 clear hK K
 (try simp only [cq])
 refine wpAnyP_ready (rs := [11]) (by kernel_rfl) (by simp) ?_
 refine arcP1 (some 34) (fun K hK => ?_) AllReadyP.nil
 rw [if_pos (by rfl)]
 obtain ⟨gN, cN, w8, hr, hown, hgrow, hat, hlt⟩ := run_append_lies (P := Try.prog) _ 22 22 w.heap.size 3 i0 (.int .i64 0) 1 8 Try.underlying22 hi0 hz0 hz1 hz2 rfl (by decide) (.slice (some ⟨gH, 0, none⟩) (q + 1) cH) (q + 1) _ hH.1 ⟨bA, 0, none⟩ 1 1 [.int .i64 (x9 + x1)] rfl (news_one kA) (one1 _) (by omega) (by unfold maxLen; omega) (by omega) (by have := kA.lt; omega) _ rfl
 simp only [Oper.wp, execOp, resolve, invoke, builtin, Sem.run_bind, Sem.run_pure, Result.andThen_ok, List.map_toArray, List.map_cons, List.map_nil]
 change Oper.upon _ _ _ _ _ ((Sem.run Try.prog (Builtin.append_ #[22, 22] 22 #[(.slice (some ⟨gH, 0, none⟩) (q + 1) cH), .slice (some ⟨bA, 0, none⟩) 1 1]) _).andThen _)
 rw [hr]
 have zNL : gN ≠ gL := by
   rcases hat with e | e
   · intro e2
     exact zHL ((Option.some.inj (show some gH = some gN from e)).trans e2)
   · have := (hH.2.1.2.lt gL rfl).2
     omega
 have HG := Lib.hid (And.intro (And.intro (hH.2.1.1.grown3 hgrow (blk_row_ne2 hH.2.1.1 hH.1 (by decide))) (hH.2.1.2.kept hgrow (.inr (fun e => zHL (Option.some.inj (show some gL = some gH from e)).symm)))) (And.intro (hH.2.2.1.grown3 hgrow (blk_row_ne2 hH.2.2.1 hH.1 (by decide))) (hH.2.2.2.grown hgrow (fun k e => (hH.1.lt k e).1) hbs)))
 have rN := hown
 clear hown hgrow hat hlt hr kA
 simp only [Result.andThen_ok, Oper.upon]
 refine hK.out _ _ ?_ ?_
 · (try dsimp only); exact HG.out
 (try clear hH); (try clear hd)
 intro hH
 (try dsimp only at hH)
 clear HG
 clear hK K
 (try simp only [cq])
 refine tkX 29 (some 52) ?_ phC (ph1 hH (by kernel_rfl)) ?_ ?_
 rotate_left
 · intro w _; go_simp; (try with_reducible rfl)
 (try simp only [cq])
 refine wpAnyP_ready (rs := [21]) (by kernel_rfl) (by simp) ?_
 refine arcP1 (some 44) (fun K hK => ?_) AllReadyP.nil
 go_simp
 (refine (below_in 50 bs _ hH.2.2.seed (by omega)).mono ?_; rintro e w' ⟨y1, rfl, b1, b2, hd⟩; replace rN := hd.row rN hbs)
 refine hK.out _ _ ?_ ?_
 · (try dsimp only); exact ⟨⟨hd.blk hH.1.1 (nB hH.2.2.seed hH.1.1 (by decide)), hd.row hH.1.2 hbs⟩, hd.blk hH.2.1 (by omega), hH.2.2.trans hd⟩
 (try clear hH); (try clear hd)
 intro hH
 (try dsimp only at hH)
 clear hK K
 (try simp only [cq])
 refine wpAnyP_ready (rs := [23]) (by kernel_rfl) (by simp) ?_
 refine arcP1 (some 46) (fun K hK => ?_) AllReadyP.nil
 go_simp
 (refine (below_in 5000 bs _ hH.2.2.seed (by omega)).mono ?_; rintro e w' ⟨y2, rfl, b3, b4, hd⟩; replace rN := hd.row rN hbs)
 refine hK.out _ _ ?_ ?_
 · (try dsimp only); exact ⟨⟨hd.blk hH.1.1 (nB hH.2.2.seed hH.1.1 (by decide)), hd.row hH.1.2 hbs⟩, hd.blk hH.2.1 (by omega), hH.2.2.trans hd⟩
 (try clear hH); (try clear hd)
 intro hH
 (try dsimp only at hH)
 clear hK K
 (try simp only [cq])
 refine wpAnyP_ready (rs := [24]) (by kernel_rfl) (by simp) ?_
 refine arcP1 (some 47) (fun K hK => ?_) AllReadyP.nil
 have zB : w.heap.size < _ := hH.2.1.lt
 go_simp
 first | refine oA hK ?_ (fun hH hA => ?_) | refine oD hK ?_ (fun hH hA => ?_)
 · (try dsimp only); exact ⟨⟨hH.1.1.alloc _, hH.1.2.alloc _⟩, hH.2.1.alloc _, hH.2.2.new _⟩
 (try dsimp only at hH)
 obtain ⟨bB, hbA⟩ : ∃ b, Blk.num hA = b := ⟨_, rfl⟩
 obtain ⟨V, hV⟩ : ∃ V, Blk.wld hA = V := ⟨_, rfl⟩
 simp only [Blk.num] at hbA
 simp only [Blk.wld] at hV
 first | replace rN := awR hV rN | replace rN := awR3 hV rN
 rw [hV] at hH hA ⊢
 rw [hbA] at hA ⊢
 replace zB : w.heap.size < bB := (by rw [← hbA]; exact zB)
 clear hV hbA
 have kB := hA
 clear hA
 clear hK K
 (try simp only [cq])
 refine wpAnyP_ready (rs := [25]) (by kernel_rfl) (by simp) ?_
 refine arcP1 (some 48) (fun K hK => ?_) AllReadyP.nil
 go_simp
 (refine (of_in bB 0 3 3 (fun i => [0, y1, y2].getD i 0) bs _ hH.2.2.seed (nB hH.2.2.seed kB (by decide)) (by omega) (by omega) (cells3 kB)).mono ?_; rintro e w' ⟨j, hj, rfl, hd⟩; replace rN := hd.row rN hbs; have hyb := pick3 (m := 5000) (show (0 : Int) ≤ 0 ∧ (0 : Int) ≤ 5000 by omega) (show 0 ≤ y1 ∧ y1 ≤ 5000 by omega) (show 0 ≤ y2 ∧ y2 ≤ 5000 by omega) j hj; obtain ⟨y3, hy3⟩ : ∃ z, [0, y1, y2].getD j 0 = z := ⟨_, rfl⟩; rw [hy3] at hyb ⊢; clear hy3 kB)
 refine hK.out _ _ ?_ ?_
 · (try dsimp only); exact ⟨⟨hd.blk hH.1.1 (nB hH.2.2.seed hH.1.1 (by decide)), hd.row hH.1.2 hbs⟩, hd.blk hH.2.1 (by omega), hH.2.2.trans hd⟩
 (try clear hH); (try clear hd)
 intro hH
 (try dsimp only at hH)
 clear hK K
 (try simp only [cq])
 refine tkX 26 (some 49) ?_ phC (ph1 hH (by kernel_rfl)) ?_ ?_
 rotate_left
 · intro w _; go_simp; (try with_reducible rfl)
 (try simp only [cq])
 refine wpAnyP_ready (rs := [27]) (by kernel_rfl) (by simp) ?_
 refine arcP1 (some 50) (fun K hK => ?_) AllReadyP.nil
 have e6 : IntKind.i64.wrap (y9 + y3) = y9 + y3 := IntWalk.i64_in _ (by omega)
 have zC : w.heap.size < _ := hH.2.1.lt
 go_simp
 first | refine oA hK ?_ (fun hH hA => ?_) | refine oD hK ?_ (fun hH hA => ?_)
 · (try dsimp only); exact ⟨⟨hH.1.1.alloc _, hH.1.2.alloc _⟩, hH.2.1.alloc _, hH.2.2.new _⟩
 (try dsimp only at hH)
 obtain ⟨bC, hbA⟩ : ∃ b, Blk.num hA = b := ⟨_, rfl⟩
 obtain ⟨V, hV⟩ : ∃ V, Blk.wld hA = V := ⟨_, rfl⟩
 simp only [Blk.num] at hbA
 simp only [Blk.wld] at hV
 first | replace rN := awR hV rN | replace rN := awR3 hV rN
 rw [hV] at hH hA ⊢
 rw [hbA] at hA ⊢
 replace zC : w.heap.size < bC := (by rw [← hbA]; exact zC)
 clear hV hbA
 have kC := hA
 clear hA
 clear hK K
 (try simp only [cq])
 refine wpAnyP_ready (rs := [28]) (by kernel_rfl) (by simp) ?_
 refine arcP2 (some 51) (fun K hK => ?_) AllReadyP.nil
 rw [if_pos (by rfl)]
 obtain ⟨gM, cM, w9, hr, hown, hgrow, hat, hlt⟩ := run_append_lies (P := Try.prog) _ 22 22 w.heap.size 3 i0 (.int .i64 0) 1 8 Try.underlying22 hi0 hz0 hz1 hz2 rfl (by decide) (.slice (some ⟨gL, 0, none⟩) (q + 1) cL) (q + 1) _ hH.1.2 ⟨bC, 0, none⟩ 1 1 [.int .i64 (y9 + y3)] rfl (news_one kC) (one1 _) (by omega) (by unfold maxLen; omega) (by omega) (by have := kC.lt; omega) _ rfl
 simp only [Oper.wp, execOp, resolve, invoke, builtin, Sem.run_bind, Sem.run_pure, Result.andThen_ok, List.map_toArray, List.map_cons, List.map_nil]
 change Oper.upon _ _ _ _ _ ((Sem.run Try.prog (Builtin.append_ #[22, 22] 22 #[(.slice (some ⟨gL, 0, none⟩) (q + 1) cL), .slice (some ⟨bC, 0, none⟩) 1 1]) _).andThen _)
 rw [hr]
 have zNM : gN ≠ gM := by
   rcases hat with e | e
   · intro e2
     exact zNL (e2.trans (Option.some.inj (show some gL = some gM from e)).symm)
   · have := (rN.lt gN rfl).2
     omega
 have HG := Lib.hid (And.intro (hH.2.1.grown3 hgrow (blk_row_ne2 hH.2.1 hH.1.2 (by decide))) (hH.2.2.grown hgrow (fun k e => (hH.1.2.lt k e).1) hbs))
 have kT := hH.1.1.grown3 hgrow (blk_row_ne2 hH.1.1 hH.1.2 (by decide))
 replace rN := rN.kept hgrow (.inr (fun e => zNL (Option.some.inj (show some gN = some gL from e))))
 have rM := hown
 clear hown hgrow hat hlt hr kC
 simp only [Result.andThen_ok, Oper.upon]
 refine hK.out _ _ ?_ ?_
 · (try dsimp only); exact HG.out
 (try clear hH); (try clear hd)
 intro hH
 (try dsimp only at hH)
 clear HG
 clear hK K
 (try simp only [cq])
 refine wpAnyP_ready (rs := [30]) (by kernel_rfl) (by simp) ?_
 refine arcP2 none (fun K hK => ?_) AllReadyP.nil
 obtain ⟨t0, t1⟩ := kT.c2
 have tf0 := kT.free 0
 have tf1 := kT.free 1
 have zzT := kT.lt
 have nN := blk_row_ne2 kT rN (by decide)
 have nM := blk_row_ne2 kT rM (by decide)
 have HS := Lib.hid (And.intro (kT.set 0 (.slice (some ⟨gN, 0, none⟩) (q + 1 + 1) cN)) (And.intro (row_store rN (b := bT) (o := 0) (u := (.slice (some ⟨gN, 0, none⟩) (q + 1 + 1) cN)) (fun e => nN bT e rfl)) (row_store rM (b := bT) (o := 0) (u := (.slice (some ⟨gN, 0, none⟩) (q + 1 + 1) cN)) (fun e => nM bT e rfl))))
 have HS2 := Lib.hid (And.intro (hH.1.other ⟨bT, 0, none⟩ (.slice (some ⟨gN, 0, none⟩) (q + 1 + 1) cN) (by show _ ≠ bT; omega)) (hH.2.set (p := ⟨bT, 0, none⟩) (by show _ ≤ bT; omega) hbs (.slice (some ⟨gN, 0, none⟩) (q + 1 + 1) cN)))
 clear kT rN rM nN nM
 go_simp
 refine hK.out _ _ ?_ ?_
 · (try dsimp only); exact HS2.out
 (try clear hH); (try clear hd)
 intro hH
 (try dsimp only at hH)
 obtain ⟨kT, rN, rM⟩ := HS.out
 clear HS HS2 t0 t1 tf0 tf1 zzT
 obtain ⟨V, hV⟩ : ∃ V, Blk.wld kT = V := ⟨_, rfl⟩
 simp only [Blk.wld] at hV
 rw [hV] at hH kT rN rM ⊢
 clear hV
 clear hK K
 (try simp only [cq])
 refine tkX 31 (some 53) ?_ phC (ph2 hH (by kernel_rfl) (by kernel_rfl)) ?_ ?_
 rotate_left
 · intro w _; go_simp; (try with_reducible rfl)
 (try simp only [cq])
 refine wpAnyP_ready (rs := [32]) (by kernel_rfl) (by simp) ?_
 refine arcP2 none (fun K hK => ?_) AllReadyP.nil
 obtain ⟨t0, t1⟩ := kT.c2
 have tf0 := kT.free 0
 have tf1 := kT.free 1
 have zzT := kT.lt
 have nN := blk_row_ne2 kT rN (by decide)
 have nM := blk_row_ne2 kT rM (by decide)
 have HS := Lib.hid (And.intro (kT.set 1 (.slice (some ⟨gM, 0, none⟩) (q + 1 + 1) cM)) (And.intro (row_store rN (b := bT) (o := 1) (u := (.slice (some ⟨gM, 0, none⟩) (q + 1 + 1) cM)) (fun e => nN bT e rfl)) (row_store rM (b := bT) (o := 1) (u := (.slice (some ⟨gM, 0, none⟩) (q + 1 + 1) cM)) (fun e => nM bT e rfl))))
 have HS2 := Lib.hid (And.intro (hH.1.other ⟨bT, 1, none⟩ (.slice (some ⟨gM, 0, none⟩) (q + 1 + 1) cM) (by show _ ≠ bT; omega)) (hH.2.set (p := ⟨bT, 1, none⟩) (by show _ ≤ bT; omega) hbs (.slice (some ⟨gM, 0, none⟩) (q + 1 + 1) cM)))
 clear kT rN rM nN nM
 go_simp
 refine hK.out _ _ ?_ ?_
 · (try dsimp only); exact HS2.out
 (try clear hH); (try clear hd)
 intro hH
 (try dsimp only at hH)
 clear hK K
 (try simp only [cq])
 refine wpAnyP_done (by kernel_rfl) ?_ _
 (try dsimp only [Act.put])
 (try simp only [cq])
 obtain ⟨kT, rN, rM⟩ := HS.out
 clear HS HS2 t0 t1 tf0 tf1 zzT
 obtain ⟨hx9, hy9⟩ := HXY.out
 have hUp2 := HUp.out.more a1 a2 hyb.1 hyb.2
 rw [hx9, hy9] at hUp2
 have HUp2 := Lib.hid hUp2
 clear hx9 hy9 hUp2 HXY
 go_wp2
 go_roundw
 case rel => exact ⟨q + 1, k - 1, gN, cN, gM, cM, upF H (q + 1) (x9 + x1), upF L (q + 1) (y9 + y3), rfl, by omega, by omega, kT, by rw [cat_upI]; exact rN, by rw [cat_upI]; exact rM, zNM, HUp2.out, hH.1, hH.2⟩
 case measure => simp [intOf]; omega )
end Go.Proofs.Ytpeogfcfiabcfaa
