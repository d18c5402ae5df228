/-
  Loads appended to a list; verdicts under narrower numbers.
-/
import Derived.Test.YtfakmggabicdjaaNarB
import Derived.Test.YtfakmggabicdjaaEndB
import Derived.Laws.AppendOwnNone
set_option linter.unusedVariables false
set_option linter.unusedSimpArgs false
namespace Go.Proofs.Ytfakmggabicdjaa
open Go.RowKit

theorem loads_news {w : World} {b o n : Nat} {L : Nat → Ld} (hc : ∀ i, i < n → w.cell? ⟨b, o + i * 4, none⟩ = some (.int .i64 (L i).me) ∧ w.cell? ⟨b, o + i * 4 + 1, none⟩ = some (.int .i64 (L i).w0) ∧ w.cell? ⟨b, o + i * 4 + 2, none⟩ = some (.int .i64 (L i).w1) ∧ w.cell? ⟨b, o + i * 4 + 3, none⟩ = some (.int .i64 (L i).st)) :
    ∀ (q : Nat) (u : Value), (catC (loadC L) n)[q]? = some u → w.cell? ((⟨b, o, none⟩ : Addr).add q) = some u := by
  intro q u h
  have hl := catC_len (loadC L) 4 (fun _ => rfl) n
  have hq : q < n * 4 := by
    rw [← hl]
    exact (List.getElem?_eq_some_iff.1 h).1
  obtain ⟨i, j, rfl, hj, hi⟩ : ∃ i j, q = i * 4 + j ∧ j < 4 ∧ i < n := ⟨q / 4, q % 4, by omega, by omega, by omega⟩
  rw [catC_at (loadC L) 4 (fun _ => rfl) i j hj n hi] at h
  have e : (⟨b, o, none⟩ : Addr).add (i * 4 + j) = ⟨b, o + i * 4 + j, none⟩ := by
    unfold Addr.add
    split <;> simp_all [Nat.add_assoc]
  rw [e]
  obtain ⟨h0, h1, h2, h3⟩ := hc i hi
  match j, hj with
  | 0, _ => rw [← h]; exact h0
  | 1, _ => rw [← h]; exact h1
  | 2, _ => rw [← h]; exact h2
  | 3, _ => rw [← h]; exact h3
theorem loads_one (L : Nat → Ld) : ∀ n, ∀ u ∈ catC (loadC L) n, u.oneCell' = true
  | 0, u, h => by simp [catC] at h
  | n + 1, u, h => by
    rw [catC, List.mem_append] at h
    rcases h with h | h
    · exact loads_one L n u h
    · simp only [loadC, List.mem_cons, List.not_mem_nil, or_false] at h
      rcases h with rfl | rfl | rfl | rfl <;> rfl
theorem append_nothingL (W : World) (base : Nat) (cap : Nat) {v : Value} {n : Nat} {xs : List Value} (h : W.ownsRow base 53 4 v n xs) :
    (Builtin.append_ #[43, 43] 43 #[v, .slice none 0 cap]).run Try.prog W = .ok v W := by
  obtain ⟨i0, hi0, _, _, _⟩ := info_parts Try.infoLoad
  obtain ⟨_, h2⟩ := h
  rcases h2 with ⟨e1, e2⟩ | ⟨g, c, cur, e1, _, _, hle, _⟩
  · subst e1 e2
    simp [Builtin.append_, run_underlying Try.underlying43, sizeOf, typeInfo, hi0, Builtin.lenOf, Builtin.firstCells]
  · subst e1
    simp [Builtin.append_, run_underlying Try.underlying43, sizeOf, typeInfo, hi0, Builtin.lenOf, Builtin.firstCells, hle, storeCells]
theorem append_loads {ops : Array Oper} {rest : List Oper} {o : Oper} {a : Act} {Q : Exit → Act → World → Prop} {W : World} (hgd : o.guard = none) (s x : Operand)
    (ho : o.op = .call { callee := .builtin .append, args := #[s, x], argTypes := #[43, 43] }) (hty : o.type = 43)
    (base : Nat) (v : Value) (n : Nat) (xs : List Value) (hs : a.eval s = v) (hown : W.ownsRow base 53 4 v n xs) (vd : Value) (m : Nat) (L : Nat → Ld) (hx : a.eval x = vd) (hd : LoadsAt W vd m L) (hm : n + m ≤ 1000000) (hbase : base ≤ W.heap.size)
    (h : ∀ v' w', w'.ownsRow base 53 4 v' (n + m) (xs ++ catC (loadC L) m) → W.grownBy w' v.ownBlock → wpList Try.prog ops Q rest (a.put o.dst v') w') : wpList Try.prog ops Q (o :: rest) a W := by
  obtain ⟨i0, hi0, hz0, hz1, hz2⟩ := info_parts Try.infoLoad
  obtain ⟨A, cap, rfl, h1, h2, h3⟩ := hd
  cases A with
  | none =>
    obtain rfl : m = 0 := by
      rcases Nat.eq_zero_or_pos m with h0 | h0
      · exact h0
      · obtain ⟨b, q, e, _⟩ := h3 h0
        exact absurd e (by simp)
    refine wpList_plain hgd fun K hK => ?_
    unfold Oper.wp execOp
    simp only [ho, hty, resolve, invoke, builtin, Sem.run_bind, Sem.run_pure, Result.andThen_ok, List.map_toArray, List.map_cons, List.map_nil, hs, hx, append_nothingL W base cap hown]
    exact hK _ _ (h v W (by simpa [catC] using hown) (World.grownBy.refl W _))
  | some ad =>
    rw [← hty] at ho
    by_cases h0 : 0 < m
    · obtain ⟨b, q, e, hc⟩ := h3 h0
      simp only [Option.some.injEq] at e
      subst e
      exact wpList_append_own_at W hgd s x _ ho base 53 i0 (.agg #[.int .i64 0, .int .i64 0, .int .i64 0, .int .i64 0]) 4 32 (by rw [hty]; exact Try.underlying43) hi0 hz0 hz1 hz2 rfl (by decide) v n xs hs hown ⟨b, q, none⟩ m cap (catC (loadC L) m) hx (catC_len (loadC L) 4 (fun _ => rfl) m) (loads_news hc) (loads_one L m) (by unfold maxLen; omega) (by omega) hbase (fun v' w' a1 a2 _ _ => h v' w' a1 a2)
    · obtain rfl : m = 0 := by omega
      exact wpList_append_own_at W hgd s x _ ho base 53 i0 (.agg #[.int .i64 0, .int .i64 0, .int .i64 0, .int .i64 0]) 4 32 (by rw [hty]; exact Try.underlying43) hi0 hz0 hz1 hz2 rfl (by decide) v n xs hs hown ad 0 cap (catC (loadC L) 0) hx (catC_len (loadC L) 4 (fun _ => rfl) 0) (fun j u hj => by simp [catC] at hj) (fun u hu => by simp [catC] at hu) (by unfold maxLen; omega) (by omega) hbase (fun v' w' a1 a2 _ _ => h v' w' a1 a2)

theorem bears_of {p q : Pl} {b c : Bool} {I0 I1 J0 J1 : Nat → Int} {nc : Nat} {C0 C1 D0 D1 : Nat → Int} {n : Nat} {L M : Nat → Ld} {x y : Ld}
    (hb : burdV q c n M y.me ≤ burdV p b n L x.me) (hl : limV p b (thickV p b I0 I1 nc C0 C1 x.me) x.st ≤ limV q c (thickV q c J0 J1 nc D0 D1 y.me) y.st) (h : bearsV p b I0 I1 nc C0 C1 n L x = true) : bearsV q c J0 J1 nc D0 D1 n M y = true := by
  unfold bearsV at h ⊢
  simp only [decide_eq_true_eq] at h ⊢
  omega
structure Within (p q : Pl) (ni : Nat) (I0 I1 J0 J1 : Nat → Int) (nc : Nat) (C0 C1 D0 D1 : Nat → Int) (n : Nat) (L M : Nat → Ld) : Prop where
  s0 : p.s0 ≤ q.s0
  s1 : q.s1 ≤ p.s1
  S : q.S = p.S
  C : q.C = p.C
  ne : q.ne = p.ne
  ed : q.ed = p.ed
  I : ∀ i, i < ni → I0 i ≤ J0 i ∧ J0 i ≤ J1 i ∧ J1 i ≤ I1 i
  K : ∀ i, i < nc → C0 i ≤ D0 i ∧ D0 i ≤ D1 i ∧ D1 i ≤ C1 i
  L : ∀ i, i < n → (M i).me = (L i).me ∧ (M i).st = (L i).st ∧ (L i).w0 ≤ (M i).w0 ∧ (M i).w0 ≤ (M i).w1 ∧ (M i).w1 ≤ (L i).w1
theorem thin_eq {p q : Pl} (h : q.ed = p.ed) (b : Bool) (x : Int) : thinV q b x = thinV p b x := by unfold thinV; rw [h]
theorem within_verd {p q : Pl} (hp : p.Ok) (hq : q.Ok) {ni : Nat} {I0 I1 J0 J1 : Nat → Int} {nc : Nat} {C0 C1 D0 D1 : Nat → Int} {n : Nat} {L M : Nat → Ld} (h : Within p q ni I0 I1 J0 J1 nc C0 C1 D0 D1 n L M)
    (hI : ∀ i, i < ni → 0 ≤ I0 i) (hL : ∀ i, i < n → (L i).Ok ni) {k : Nat} (hk : k < n) :
    (verdV p I0 I1 nc C0 C1 n L (L k) = 1 → verdV q J0 J1 nc D0 D1 n M (M k) = 1) ∧ (verdV p I0 I1 nc C0 C1 n L (L k) = 2 → verdV q J0 J1 nc D0 D1 n M (M k) = 2) := by
  obtain ⟨e1, e2, e3, e4, e5⟩ := h.L k hk
  have a0 := (hL k hk).me0
  have a1 := (hL k hk).me1
  have hj : ((L k).me / 100).toNat < ni := by omega
  have i := h.I _ hj
  have i0 := hI _ hj
  have hS : ∀ i, i < n → partL q M (M k).me i = partL p L (L k).me i := fun i hi => by unfold partL; rw [h.S, e1, (h.L i hi).1]
  have hcv := hp.C.val_in (L k).st
  have s0 := hp.s0
  have q01 := hq.s01
  have hs0 := h.s0
  have hs1 := h.s1
  have w1 : bearsV p false I0 I1 nc C0 C1 n L (L k) = true → bearsV q false J0 J1 nc D0 D1 n M (M k) = true := by
    refine bears_of (sumV_le n fun i hi => ?_) ?_
    · rw [hS i hi]
      exact Int.mul_le_mul_of_nonneg_right (by simpa [endV] using (h.L i hi).2.2.2.2) (part_in hp L _ i).1
    · unfold limV
      rw [h.C, e2, show thickV q false J0 J1 nc D0 D1 (M k).me = thinV p (nearV q false nc D0 D1 (L k).me) (endV false (J0 ((L k).me / 100).toNat) (J1 ((L k).me / 100).toNat)) by unfold thickV; rw [e1, thin_eq h.ed]]
      refine lim_mono (by simp [endV]; omega) (thin_in hp.ed0 hp.ed1 _ (by simpa [endV] using i0)).1 hcv.1 (by simpa [endV] using hs0) (thin_mono hp.ed0 hp.ed1 (by simpa [endV] using i0) (by simpa [endV] using i.1) ?_)
      refine anyV_imp nc fun j hj kk => ?_
      have c := h.K j hj
      simp only [decide_eq_true_eq, endV, awayL, Bool.false_eq_true, if_false, Int.max_le, h.ne] at kk ⊢
      omega
  have w2 : bearsV q true J0 J1 nc D0 D1 n M (M k) = true → bearsV p true I0 I1 nc C0 C1 n L (L k) = true := by
    refine bears_of (sumV_le n fun i hi => ?_) ?_
    · rw [hS i hi]
      exact Int.mul_le_mul_of_nonneg_right (by simpa [endV] using (h.L i hi).2.2.1) (part_in hp L _ i).1
    · unfold limV
      rw [h.C, e2, show thickV q true J0 J1 nc D0 D1 (M k).me = thinV p (nearV q true nc D0 D1 (L k).me) (endV true (J0 ((L k).me / 100).toNat) (J1 ((L k).me / 100).toNat)) by unfold thickV; rw [e1, thin_eq h.ed]]
      refine lim_mono (by simp [endV]; omega) (thin_in hp.ed0 hp.ed1 _ (by simp [endV]; omega)).1 hcv.1 (by simpa [endV] using hs1) (thin_mono hp.ed0 hp.ed1 (by simp [endV]; omega) (by simpa [endV] using i.2.2) ?_)
      refine anyV_imp nc fun j hj kk => ?_
      have c := h.K j hj
      simp only [decide_eq_true_eq, endV, awayH, if_true, Int.max_le, h.ne] at kk ⊢
      omega
  have w3 : bearsV q false J0 J1 nc D0 D1 n M (M k) = true → bearsV q true J0 J1 nc D0 D1 n M (M k) = true := by
    refine bears_of (sumV_le n fun i hi => ?_) ?_
    · exact Int.mul_le_mul_of_nonneg_right (by simpa [endV] using (h.L i hi).2.2.2.1) (part_in hq M _ i).1
    · unfold limV
      refine lim_mono (by simp [endV]; omega) (thin_in hq.ed0 hq.ed1 _ (by rw [e1]; simp [endV]; omega)).1 (hq.C.val_in _).1 (by simpa [endV] using q01) (thin_mono hq.ed0 hq.ed1 (by rw [e1]; simp [endV]; omega) (by rw [e1]; simpa [endV] using i.2.1) ?_)
      refine anyV_imp nc fun j hj kk => ?_
      have c := h.K j hj
      have t := far_spec (D0 j) (M k).me
      simp only [decide_eq_true_eq, endV, awayL, awayH, Bool.false_eq_true, if_true, if_false, Int.max_le] at kk ⊢
      omega
  unfold verdV
  cases h1 : bearsV p false I0 I1 nc C0 C1 n L (L k) with
  | true => exact ⟨fun _ => by rw [w1 h1]; rfl, fun e => by simp at e⟩
  | false =>
    refine ⟨fun e => by cases h2 : bearsV p true I0 I1 nc C0 C1 n L (L k) <;> rw [h2] at e <;> simp at e, fun e => ?_⟩
    cases h2 : bearsV p true I0 I1 nc C0 C1 n L (L k) with
    | true => rw [h2] at e; simp at e
    | false =>
      have g2 : bearsV q true J0 J1 nc D0 D1 n M (M k) = false := by
        cases g : bearsV q true J0 J1 nc D0 D1 n M (M k) with
        | false => rfl
        | true => rw [w2 g] at h2; simp at h2
      have g1 : bearsV q false J0 J1 nc D0 D1 n M (M k) = false := by
        cases g : bearsV q false J0 J1 nc D0 D1 n M (M k) with
        | false => rfl
        | true => rw [w3 g] at g2; simp at g2
      rw [g1, g2]
      rfl
end Go.Proofs.Ytfakmggabicdjaa
