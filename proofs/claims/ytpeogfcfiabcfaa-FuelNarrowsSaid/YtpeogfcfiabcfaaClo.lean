/-
  slices.Clone, and append of a whole list (package fuel's lists).
-/
import Derived.Test.YtpeogfcfiabcfaaTail
import Derived.Test.YtpeogfcfiabcfaaRow
import Derived.Laws.AppendOwnNone
import Derived.Lib.SliceRun
set_option linter.unusedVariables false
set_option linter.unusedSimpArgs false
namespace Go.Proofs.Ytpeogfcfiabcfaa
open Go.RowKit

theorem cat_news {W : World} {b o m s : Nat} {C : Nat → List Value} (hc : AtC W b o m s C) (hs : 0 < s) (hC : ∀ i, i < m → (C i).length = s) : ∀ (j : Nat) (u : Value), (catC C m)[j]? = some u → W.cell? ((⟨b, o, none⟩ : Addr).add j) = some u := by
  intro j u h
  have hj : j < m * s := by
    have := (List.getElem?_eq_some_iff.1 h).1
    rwa [catC_len C s m hC] at this
  have e1 : j / s * s + j % s = j := by rw [Nat.mul_comm]; exact Nat.div_add_mod j s
  have hi : j / s < m := (Nat.div_lt_iff_lt_mul hs).2 hj
  have hr : j % s < s := Nat.mod_lt _ hs
  have h2 := catC_at C s (j / s) (j % s) hr m hC hi
  rw [e1, h] at h2
  have h3 := hc (j / s) (j % s) u hi h2.symm
  have e2 : (⟨b, o, none⟩ : Addr).add j = ⟨b, o + j / s * s + j % s, none⟩ := by
    simp only [Addr.add, Addr.mk.injEq, and_true, true_and]
    rw [Nat.add_assoc, e1]
    split
    · rename_i h0; rw [h0]; rfl
    · rfl
  rw [e2]
  exact h3
theorem cat_one {C : Nat → List Value} (h : ∀ i, ∀ u ∈ C i, u.oneCell' = true) : ∀ m, ∀ u ∈ catC C m, u.oneCell' = true
  | 0, u, hu => by simp [catC] at hu
  | m + 1, u, hu => by
    rw [catC, List.mem_append] at hu
    rcases hu with hu | hu
    · exact cat_one h m u hu
    · exact h m u hu

theorem sp_nothing (W : World) (base : Nat) (cap : Nat) {v : Value} {n : Nat} {xs : List Value} (h : W.ownsRow base 26 2 v n xs) :
    (Builtin.append_ #[33, 33] 33 #[v, .slice none 0 cap]).run Try.prog W = .ok v W := by
  obtain ⟨i0, hi0, _, _, _⟩ := info_parts Try.infoSpan
  obtain ⟨_, h2⟩ := h
  rcases h2 with ⟨e1, e2⟩ | ⟨g, c, cur, e1, _, _, hle, _⟩
  · subst e1 e2
    simp [Builtin.append_, run_underlying Try.underlying33, sizeOf, typeInfo, hi0, Builtin.lenOf, Builtin.firstCells]
  · subst e1
    simp [Builtin.append_, run_underlying Try.underlying33, sizeOf, typeInfo, hi0, Builtin.lenOf, Builtin.firstCells, hle, storeCells]
theorem append_sp {ops : Array Oper} {rest : List Oper} {o : Oper} {a : Act} {Q : Exit → Act → World → Prop} {W : World} (hgd : o.guard = none) (s x0 : Operand)
    (ho : o.op = .call { callee := .builtin .append, args := #[s, x0], argTypes := #[33, 33] }) (hty : o.type = 33)
    (base : Nat) (v : Value) (n : Nat) (xs : List Value) (hs : a.eval s = v) (hown : W.ownsRow base 26 2 v n xs) (vd : Value) (m : Nat) (A B : Nat → Int) (hx : a.eval x0 = vd) (hd : LAt W vd m 2 (spC A B)) (hm : n + m ≤ 1000000) (hbase : base ≤ W.heap.size)
    (h : ∀ v' w', w'.ownsRow base 26 2 v' (n + m) (xs ++ catC (spC A B) m) → W.grownBy w' v.ownBlock → wpList Try.prog ops Q rest (a.put o.dst v') w') : wpList Try.prog ops Q (o :: rest) a W := by
  obtain ⟨i0, hi0, hz0, hz1, hz2⟩ := info_parts Try.infoSpan
  have hl : (catC (spC A B) m).length = m * 2 := catC_len _ _ _ (fun _ _ => rfl)
  have ho1 : ∀ u ∈ catC (spC A B) m, u.oneCell' = true := cat_one (fun i => one2 _ _) m
  obtain ⟨A9, cap, rfl, h1, h2, h3⟩ := hd
  cases A9 with
  | none =>
    obtain rfl : m = 0 := by
      rcases Nat.eq_zero_or_pos m with h0 | h0
      · exact h0
      · obtain ⟨b, q, e, _⟩ := h3 h0
        exact absurd e (by simp)
    refine wpList_plain hgd fun K hK => ?_
    unfold Oper.wp execOp
    simp only [ho, hty, resolve, invoke, builtin, Sem.run_bind, Sem.run_pure, Result.andThen_ok, List.map_toArray, List.map_cons, List.map_nil, hs, hx, sp_nothing W base cap hown]
    exact hK _ _ (h v W (by simpa [catC] using hown) (World.grownBy.refl W _))
  | some ad =>
    rw [← hty] at ho
    by_cases h0 : 0 < m
    · obtain ⟨b, q, e, hc⟩ := h3 h0
      simp only [Option.some.injEq] at e
      subst e
      refine wpList_append_own_at W hgd s x0 _ ho base 26 i0 (.agg #[.int .i64 0, .int .i64 0]) 2 16 (by rw [hty]; exact Try.underlying33) hi0 hz0 hz1 hz2 rfl (by decide) v n xs hs hown ⟨b, q, none⟩ m cap (catC (spC A B) m) hx (by first | exact hl | (rw [hl]; omega)) (cat_news hc (by decide) (fun _ _ => rfl)) ho1 (by unfold maxLen; omega) (by omega) hbase (fun v' w' a1 a2 _ _ => h v' w' a1 a2)
    · obtain rfl : m = 0 := by omega
      refine wpList_append_own_at W hgd s x0 _ ho base 26 i0 (.agg #[.int .i64 0, .int .i64 0]) 2 16 (by rw [hty]; exact Try.underlying33) hi0 hz0 hz1 hz2 rfl (by decide) v n xs hs hown ad 0 cap (catC (spC A B) 0) hx (by first | exact hl | rfl) (fun j u hj => by simp [catC] at hj) (fun u hu => by simp [catC] at hu) (by unfold maxLen; omega) (by omega) hbase (fun v' w' a1 a2 _ _ => h v' w' a1 a2)

theorem in_nothing (W : World) (base : Nat) (cap : Nat) {v : Value} {n : Nat} {xs : List Value} (h : W.ownsRow base 3 1 v n xs) :
    (Builtin.append_ #[22, 22] 22 #[v, .slice none 0 cap]).run Try.prog W = .ok v W := by
  obtain ⟨i0, hi0, _, _, _⟩ := info_parts Try.infoInt
  obtain ⟨_, h2⟩ := h
  rcases h2 with ⟨e1, e2⟩ | ⟨g, c, cur, e1, _, _, hle, _⟩
  · subst e1 e2
    simp [Builtin.append_, run_underlying Try.underlying22, sizeOf, typeInfo, hi0, Builtin.lenOf, Builtin.firstCells]
  · subst e1
    simp [Builtin.append_, run_underlying Try.underlying22, sizeOf, typeInfo, hi0, Builtin.lenOf, Builtin.firstCells, hle, storeCells]
theorem append_in {ops : Array Oper} {rest : List Oper} {o : Oper} {a : Act} {Q : Exit → Act → World → Prop} {W : World} (hgd : o.guard = none) (s x0 : Operand)
    (ho : o.op = .call { callee := .builtin .append, args := #[s, x0], argTypes := #[22, 22] }) (hty : o.type = 22)
    (base : Nat) (v : Value) (n : Nat) (xs : List Value) (hs : a.eval s = v) (hown : W.ownsRow base 3 1 v n xs) (vd : Value) (m : Nat) (x : Nat → Int) (hx : a.eval x0 = vd) (hd : LAt W vd m 1 (inC x)) (hm : n + m ≤ 1000000) (hbase : base ≤ W.heap.size)
    (h : ∀ v' w', w'.ownsRow base 3 1 v' (n + m) (xs ++ catC (inC x) m) → W.grownBy w' v.ownBlock → wpList Try.prog ops Q rest (a.put o.dst v') w') : wpList Try.prog ops Q (o :: rest) a W := by
  obtain ⟨i0, hi0, hz0, hz1, hz2⟩ := info_parts Try.infoInt
  have hl : (catC (inC x) m).length = m * 1 := catC_len _ _ _ (fun _ _ => rfl)
  have ho1 : ∀ u ∈ catC (inC x) m, u.oneCell' = true := cat_one (fun i => one1 _) m
  obtain ⟨A9, cap, rfl, h1, h2, h3⟩ := hd
  cases A9 with
  | none =>
    obtain rfl : m = 0 := by
      rcases Nat.eq_zero_or_pos m with h0 | h0
      · exact h0
      · obtain ⟨b, q, e, _⟩ := h3 h0
        exact absurd e (by simp)
    refine wpList_plain hgd fun K hK => ?_
    unfold Oper.wp execOp
    simp only [ho, hty, resolve, invoke, builtin, Sem.run_bind, Sem.run_pure, Result.andThen_ok, List.map_toArray, List.map_cons, List.map_nil, hs, hx, in_nothing W base cap hown]
    exact hK _ _ (h v W (by simpa [catC] using hown) (World.grownBy.refl W _))
  | some ad =>
    rw [← hty] at ho
    by_cases h0 : 0 < m
    · obtain ⟨b, q, e, hc⟩ := h3 h0
      simp only [Option.some.injEq] at e
      subst e
      refine wpList_append_own_at W hgd s x0 _ ho base 3 i0 (.int .i64 0) 1 8 (by rw [hty]; exact Try.underlying22) hi0 hz0 hz1 hz2 rfl (by decide) v n xs hs hown ⟨b, q, none⟩ m cap (catC (inC x) m) hx (by first | exact hl | (rw [hl]; omega)) (cat_news hc (by decide) (fun _ _ => rfl)) ho1 (by unfold maxLen; omega) (by omega) hbase (fun v' w' a1 a2 _ _ => h v' w' a1 a2)
    · obtain rfl : m = 0 := by omega
      refine wpList_append_own_at W hgd s x0 _ ho base 3 i0 (.int .i64 0) 1 8 (by rw [hty]; exact Try.underlying22) hi0 hz0 hz1 hz2 rfl (by decide) v n xs hs hown ad 0 cap (catC (inC x) 0) hx (by first | exact hl | rfl) (fun j u hj => by simp [catC] at hj) (fun u hu => by simp [catC] at hu) (by unfold maxLen; omega) (by omega) hbase (fun v' w' a1 a2 _ _ => h v' w' a1 a2)

set_option maxRecDepth 100000 in
set_option maxHeartbeats 1000000 in
theorem clone_spans (b o n cap : Nat) (A B : Nat → Int) (w : World) (hn : n ≤ 100000) (h : SpansAt w (.slice (some ⟨b, o, none⟩) n cap) n A B) :
    Calls Try.prog 91 #[.slice (some ⟨b, o, none⟩) n cap] w fun e w' => ∃ v, e = .returned v ∧ w'.ownsRow w.heap.size 26 2 v n (catC (spC A B) n) ∧ Below w.heap.size w w' := by
  have jO : ((w.alloc (.cells #[] 26))).ownsRow w.heap.size 26 2 (.slice (some ⟨w.heap.size, 0, none⟩) 0 0) 0 [] :=
    ⟨rfl, .inr ⟨w.heap.size, 0, #[], rfl, Nat.le_refl _, World.alloc_heap_new w _, Nat.le_refl _, Nat.zero_le _, rfl, rfl⟩⟩
  have hO : Below w.heap.size w (w.alloc (.cells #[] 26)) := by (repeat (first | exact Below.refl _ _ | assumption | refine Below.drew ?_ | refine Below.drewN ?_ _ | refine blT ?_ | refine blU ?_))
  have hL := h.later hO
  have hr : ∀ q, (Value.slice (some ⟨w.heap.size, 0, none⟩) 0 0).ownBlock = some q → w.heap.size ≤ q := fun q e => (jO.lt q e).1
  clear h
  have hnil := fun (W : World) => Go.Lib.run_eql_slice_nil (P := Try.prog) W 33 26 (some ⟨b, o, none⟩) n cap 0 0 Try.underlying33
  go_enter Try.func91, Try.ntmps91
  go_wp2_with (at_builtin; refine append_sp rfl _ _ rfl rfl w.heap.size _ 0 [] rfl jO _ n A B rfl hL (by omega) (by simp) ?_; intro v' w9 hown' hgrow; simp only [Nat.zero_add, List.nil_append] at hown'; have kB := grown_below hO hgrow hr (Nat.le_refl _))
  go_ret
  exact ⟨_, rfl, hown', kB⟩
end Go.Proofs.Ytpeogfcfiabcfaa
