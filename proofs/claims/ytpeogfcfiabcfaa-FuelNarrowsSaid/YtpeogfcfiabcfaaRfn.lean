/-
  slices.Clone of accounts and of moves.
  spans (package fuel): an array of pointers into the lists of a book.
  A book that is refined: spans stored into rows of one's own (mathematics, and stores).
  Refine (package fuel) at a book that has a truth.
-/
import Derived.Test.YtpeogfcfiabcfaaTail
import Derived.Test.YtpeogfcfiabcfaaClo
import Derived.Test.YtpeogfcfiabcfaaLos
import Derived.Laws.Rows
import Derived.Deep.WholeRow
import Derived.Test.YtpeogfcfiabcfaaLsg
set_option linter.unusedVariables false
set_option linter.unusedSimpArgs false
namespace Go.Proofs.Ytpeogfcfiabcfaa
open Go.RowKit

theorem one6 (s : ByteArray) (b c d e f : Int) : ∀ u ∈ [Value.string s, .int .i64 b, .int .i64 c, .int .i64 d, .int .i64 e, .int .i64 f], u.oneCell' = true := by
  intro u h
  simp only [List.mem_cons, List.not_mem_nil, or_false] at h
  rcases h with rfl | rfl | rfl | rfl | rfl | rfl <;> rfl
theorem Try.infoAccount : (Try.prog.info? 87).map (fun i => (i.zero, i.size, i.bytes)) = some (some (.agg #[.string ⟨#[]⟩, .int .i64 0, .int .i64 0, .int .i64 0, .int .i64 0, .int .i64 0]), 6, 56) := by kernel_rfl
theorem Try.infoMove : (Try.prog.info? 68).map (fun i => (i.zero, i.size, i.bytes)) = some (some (.agg #[.int .i64 0, .int .i64 0, .int .i64 0, .int .i64 0]), 4, 32) := by kernel_rfl
theorem ac_nothing (W : World) (base : Nat) (cap : Nat) {v : Value} {n : Nat} {xs : List Value} (h : W.ownsRow base 87 6 v n xs) :
    (Builtin.append_ #[41, 41] 41 #[v, .slice none 0 cap]).run Try.prog W = .ok v W := by
  obtain ⟨i0, hi0, _, _, _⟩ := info_parts Try.infoAccount
  obtain ⟨_, h2⟩ := h
  rcases h2 with ⟨e1, e2⟩ | ⟨g, c, cur, e1, _, _, hle, _⟩
  · subst e1 e2
    simp [Builtin.append_, run_underlying Try.underlying41, sizeOf, typeInfo, hi0, Builtin.lenOf, Builtin.firstCells]
  · subst e1
    simp [Builtin.append_, run_underlying Try.underlying41, sizeOf, typeInfo, hi0, Builtin.lenOf, Builtin.firstCells, hle, storeCells]
theorem append_ac {ops : Array Oper} {rest : List Oper} {o : Oper} {a : Act} {Q : Exit → Act → World → Prop} {W : World} (hgd : o.guard = none) (s x0 : Operand)
    (ho : o.op = .call { callee := .builtin .append, args := #[s, x0], argTypes := #[41, 41] }) (hty : o.type = 41)
    (base : Nat) (v : Value) (n : Nat) (xs : List Value) (hs : a.eval s = v) (hown : W.ownsRow base 87 6 v n xs) (vd : Value) (m : Nat) (A : Nat → Ac) (hx : a.eval x0 = vd) (hd : LAt W vd m 6 (acC A)) (hm : n + m ≤ 1000000) (hbase : base ≤ W.heap.size)
    (h : ∀ v' w', w'.ownsRow base 87 6 v' (n + m) (xs ++ catC (acC A) m) → W.grownBy w' v.ownBlock → wpList Try.prog ops Q rest (a.put o.dst v') w') : wpList Try.prog ops Q (o :: rest) a W := by
  obtain ⟨i0, hi0, hz0, hz1, hz2⟩ := info_parts Try.infoAccount
  have hl : (catC (acC A) m).length = m * 6 := catC_len _ _ _ (fun _ _ => rfl)
  have ho1 : ∀ u ∈ catC (acC A) m, u.oneCell' = true := cat_one (fun i => one6 _ _ _ _ _ _) m
  obtain ⟨A9, cap, rfl, h1, h2, h3⟩ := hd
  cases A9 with
  | none =>
    obtain rfl : m = 0 := by
      rcases Nat.eq_zero_or_pos m with h0 | h0
      · exact h0
      · obtain ⟨b, q, e, _⟩ := h3 h0
        exact absurd e (by simp)
    refine wpList_plain hgd fun K hK => ?_
    unfold Oper.wp execOp
    simp only [ho, hty, resolve, invoke, builtin, Sem.run_bind, Sem.run_pure, Result.andThen_ok, List.map_toArray, List.map_cons, List.map_nil, hs, hx, ac_nothing W base cap hown]
    exact hK _ _ (h v W (by simpa [catC] using hown) (World.grownBy.refl W _))
  | some ad =>
    rw [← hty] at ho
    by_cases h0 : 0 < m
    · obtain ⟨b, q, e, hc⟩ := h3 h0
      simp only [Option.some.injEq] at e
      subst e
      refine wpList_append_own_at W hgd s x0 _ ho base 87 i0 (.agg #[.string ⟨#[]⟩, .int .i64 0, .int .i64 0, .int .i64 0, .int .i64 0, .int .i64 0]) 6 56 (by rw [hty]; exact Try.underlying41) hi0 hz0 hz1 hz2 rfl (by decide) v n xs hs hown ⟨b, q, none⟩ m cap (catC (acC A) m) hx (by first | exact hl | (rw [hl]; omega)) (cat_news hc (by decide) (fun _ _ => rfl)) ho1 (by unfold maxLen; omega) (by omega) hbase (fun v' w' a1 a2 _ _ => h v' w' a1 a2)
    · obtain rfl : m = 0 := by omega
      refine wpList_append_own_at W hgd s x0 _ ho base 87 i0 (.agg #[.string ⟨#[]⟩, .int .i64 0, .int .i64 0, .int .i64 0, .int .i64 0, .int .i64 0]) 6 56 (by rw [hty]; exact Try.underlying41) hi0 hz0 hz1 hz2 rfl (by decide) v n xs hs hown ad 0 cap (catC (acC A) 0) hx (by first | exact hl | rfl) (fun j u hj => by simp [catC] at hj) (fun u hu => by simp [catC] at hu) (by unfold maxLen; omega) (by omega) hbase (fun v' w' a1 a2 _ _ => h v' w' a1 a2)
set_option maxRecDepth 100000 in
set_option maxHeartbeats 1000000 in
theorem clone_ac (ad : Addr) (n cap : Nat) (A : Nat → Ac) (w : World) (hn : n ≤ 100000) (h : LAt w (.slice (some ad) n cap) n 6 (acC A)) :
    Calls Try.prog 136 #[.slice (some ad) n cap] w fun e w' => ∃ v, e = .returned v ∧ w'.ownsRow w.heap.size 87 6 v n (catC (acC A) n) ∧ Below w.heap.size w w' := by
  have jO : ((w.alloc (.cells #[] 87))).ownsRow w.heap.size 87 6 (.slice (some ⟨w.heap.size, 0, none⟩) 0 0) 0 [] :=
    ⟨rfl, .inr ⟨w.heap.size, 0, #[], rfl, Nat.le_refl _, World.alloc_heap_new w _, Nat.le_refl _, Nat.zero_le _, rfl, rfl⟩⟩
  have hO : Below w.heap.size w (w.alloc (.cells #[] 87)) := by (repeat (first | exact Below.refl _ _ | assumption | refine Below.drew ?_ | refine Below.drewN ?_ _ | refine blT ?_ | refine blU ?_))
  have hL := h.later hO
  have hr : ∀ q, (Value.slice (some ⟨w.heap.size, 0, none⟩) 0 0).ownBlock = some q → w.heap.size ≤ q := fun q e => (jO.lt q e).1
  clear h
  have hnil := fun (W : World) => Go.Lib.run_eql_slice_nil (P := Try.prog) W 41 87 (some ad) n cap 0 0 Try.underlying41
  go_enter Try.func136, Try.ntmps136
  go_wp2_with (at_builtin; refine append_ac rfl _ _ rfl rfl w.heap.size _ 0 [] rfl jO _ n A rfl hL (by omega) (by simp) ?_; intro v' w9 hown' hgrow; simp only [Nat.zero_add, List.nil_append] at hown'; have kB := grown_below hO hgrow hr (Nat.le_refl _))
  go_ret
  exact ⟨_, rfl, hown', kB⟩
set_option maxRecDepth 100000 in
set_option maxHeartbeats 1000000 in
theorem clone_ac_nil (cap : Nat) (w : World) : Calls Try.prog 136 #[.slice none 0 cap] w fun e w' => e = .returned (.slice none 0 0) ∧ Below w.heap.size w w' := by
  have hO : Below w.heap.size w w := (by (repeat (first | exact Below.refl _ _ | assumption | refine Below.drew ?_ | refine Below.drewN ?_ _ | refine blT ?_ | refine blU ?_)))
  have hnil := fun (W : World) => Go.Lib.run_eql_slice_nil (P := Try.prog) W 41 87 none 0 cap 0 0 Try.underlying41
  go_enter Try.func136, Try.ntmps136
  go_wp2_with fail
  go_ret
  exact ⟨rfl, hO⟩
theorem clone_ac_any (v : Value) (n : Nat) (A : Nat → Ac) (w : World) (hn : n ≤ 100000) (h : LAt w v n 6 (acC A)) :
    Calls Try.prog 136 #[v] w fun e w' => ∃ v', e = .returned v' ∧ w'.ownsRow w.heap.size 87 6 v' n (catC (acC A) n) ∧ Below w.heap.size w w' := by
  obtain ⟨a, cap, e, h1, h2, h3⟩ := id h
  cases a with
  | none =>
    obtain rfl : n = 0 := by
      rcases Nat.eq_zero_or_pos n with h0 | h0
      · exact h0
      · obtain ⟨b, q, e, _⟩ := h3 h0
        exact absurd e (by simp)
    subst e
    refine (clone_ac_nil cap w).mono ?_
    rintro e w' ⟨rfl, hb⟩
    exact ⟨_, rfl, ⟨rfl, .inl ⟨rfl, rfl⟩⟩, hb⟩
  | some ad =>
    subst e
    exact clone_ac ad n cap A w hn h
theorem mv_nothing (W : World) (base : Nat) (cap : Nat) {v : Value} {n : Nat} {xs : List Value} (h : W.ownsRow base 68 4 v n xs) :
    (Builtin.append_ #[42, 42] 42 #[v, .slice none 0 cap]).run Try.prog W = .ok v W := by
  obtain ⟨i0, hi0, _, _, _⟩ := info_parts Try.infoMove
  obtain ⟨_, h2⟩ := h
  rcases h2 with ⟨e1, e2⟩ | ⟨g, c, cur, e1, _, _, hle, _⟩
  · subst e1 e2
    simp [Builtin.append_, run_underlying Try.underlying42, sizeOf, typeInfo, hi0, Builtin.lenOf, Builtin.firstCells]
  · subst e1
    simp [Builtin.append_, run_underlying Try.underlying42, sizeOf, typeInfo, hi0, Builtin.lenOf, Builtin.firstCells, hle, storeCells]
theorem append_mv {ops : Array Oper} {rest : List Oper} {o : Oper} {a : Act} {Q : Exit → Act → World → Prop} {W : World} (hgd : o.guard = none) (s x0 : Operand)
    (ho : o.op = .call { callee := .builtin .append, args := #[s, x0], argTypes := #[42, 42] }) (hty : o.type = 42)
    (base : Nat) (v : Value) (n : Nat) (xs : List Value) (hs : a.eval s = v) (hown : W.ownsRow base 68 4 v n xs) (vd : Value) (m : Nat) (A : Nat → Mv) (hx : a.eval x0 = vd) (hd : LAt W vd m 4 (mvC A)) (hm : n + m ≤ 1000000) (hbase : base ≤ W.heap.size)
    (h : ∀ v' w', w'.ownsRow base 68 4 v' (n + m) (xs ++ catC (mvC A) m) → W.grownBy w' v.ownBlock → wpList Try.prog ops Q rest (a.put o.dst v') w') : wpList Try.prog ops Q (o :: rest) a W := by
  obtain ⟨i0, hi0, hz0, hz1, hz2⟩ := info_parts Try.infoMove
  have hl : (catC (mvC A) m).length = m * 4 := catC_len _ _ _ (fun _ _ => rfl)
  have ho1 : ∀ u ∈ catC (mvC A) m, u.oneCell' = true := cat_one (fun i => one4 _ _ _ _) m
  obtain ⟨A9, cap, rfl, h1, h2, h3⟩ := hd
  cases A9 with
  | none =>
    obtain rfl : m = 0 := by
      rcases Nat.eq_zero_or_pos m with h0 | h0
      · exact h0
      · obtain ⟨b, q, e, _⟩ := h3 h0
        exact absurd e (by simp)
    refine wpList_plain hgd fun K hK => ?_
    unfold Oper.wp execOp
    simp only [ho, hty, resolve, invoke, builtin, Sem.run_bind, Sem.run_pure, Result.andThen_ok, List.map_toArray, List.map_cons, List.map_nil, hs, hx, mv_nothing W base cap hown]
    exact hK _ _ (h v W (by simpa [catC] using hown) (World.grownBy.refl W _))
  | some ad =>
    rw [← hty] at ho
    by_cases h0 : 0 < m
    · obtain ⟨b, q, e, hc⟩ := h3 h0
      simp only [Option.some.injEq] at e
      subst e
      refine wpList_append_own_at W hgd s x0 _ ho base 68 i0 (.agg #[.int .i64 0, .int .i64 0, .int .i64 0, .int .i64 0]) 4 32 (by rw [hty]; exact Try.underlying42) hi0 hz0 hz1 hz2 rfl (by decide) v n xs hs hown ⟨b, q, none⟩ m cap (catC (mvC A) m) hx (by first | exact hl | (rw [hl]; omega)) (cat_news hc (by decide) (fun _ _ => rfl)) ho1 (by unfold maxLen; omega) (by omega) hbase (fun v' w' a1 a2 _ _ => h v' w' a1 a2)
    · obtain rfl : m = 0 := by omega
      refine wpList_append_own_at W hgd s x0 _ ho base 68 i0 (.agg #[.int .i64 0, .int .i64 0, .int .i64 0, .int .i64 0]) 4 32 (by rw [hty]; exact Try.underlying42) hi0 hz0 hz1 hz2 rfl (by decide) v n xs hs hown ad 0 cap (catC (mvC A) 0) hx (by first | exact hl | rfl) (fun j u hj => by simp [catC] at hj) (fun u hu => by simp [catC] at hu) (by unfold maxLen; omega) (by omega) hbase (fun v' w' a1 a2 _ _ => h v' w' a1 a2)
set_option maxRecDepth 100000 in
set_option maxHeartbeats 1000000 in
theorem clone_mv (ad : Addr) (n cap : Nat) (A : Nat → Mv) (w : World) (hn : n ≤ 100000) (h : LAt w (.slice (some ad) n cap) n 4 (mvC A)) :
    Calls Try.prog 137 #[.slice (some ad) n cap] w fun e w' => ∃ v, e = .returned v ∧ w'.ownsRow w.heap.size 68 4 v n (catC (mvC A) n) ∧ Below w.heap.size w w' := by
  have jO : ((w.alloc (.cells #[] 68))).ownsRow w.heap.size 68 4 (.slice (some ⟨w.heap.size, 0, none⟩) 0 0) 0 [] :=
    ⟨rfl, .inr ⟨w.heap.size, 0, #[], rfl, Nat.le_refl _, World.alloc_heap_new w _, Nat.le_refl _, Nat.zero_le _, rfl, rfl⟩⟩
  have hO : Below w.heap.size w (w.alloc (.cells #[] 68)) := by (repeat (first | exact Below.refl _ _ | assumption | refine Below.drew ?_ | refine Below.drewN ?_ _ | refine blT ?_ | refine blU ?_))
  have hL := h.later hO
  have hr : ∀ q, (Value.slice (some ⟨w.heap.size, 0, none⟩) 0 0).ownBlock = some q → w.heap.size ≤ q := fun q e => (jO.lt q e).1
  clear h
  have hnil := fun (W : World) => Go.Lib.run_eql_slice_nil (P := Try.prog) W 42 68 (some ad) n cap 0 0 Try.underlying42
  go_enter Try.func137, Try.ntmps137
  go_wp2_with (at_builtin; refine append_mv rfl _ _ rfl rfl w.heap.size _ 0 [] rfl jO _ n A rfl hL (by omega) (by simp) ?_; intro v' w9 hown' hgrow; simp only [Nat.zero_add, List.nil_append] at hown'; have kB := grown_below hO hgrow hr (Nat.le_refl _))
  go_ret
  exact ⟨_, rfl, hown', kB⟩
set_option maxRecDepth 100000 in
set_option maxHeartbeats 1000000 in
theorem clone_mv_nil (cap : Nat) (w : World) : Calls Try.prog 137 #[.slice none 0 cap] w fun e w' => e = .returned (.slice none 0 0) ∧ Below w.heap.size w w' := by
  have hO : Below w.heap.size w w := (by (repeat (first | exact Below.refl _ _ | assumption | refine Below.drew ?_ | refine Below.drewN ?_ _ | refine blT ?_ | refine blU ?_)))
  have hnil := fun (W : World) => Go.Lib.run_eql_slice_nil (P := Try.prog) W 42 68 none 0 cap 0 0 Try.underlying42
  go_enter Try.func137, Try.ntmps137
  go_wp2_with fail
  go_ret
  exact ⟨rfl, hO⟩
theorem clone_mv_any (v : Value) (n : Nat) (A : Nat → Mv) (w : World) (hn : n ≤ 100000) (h : LAt w v n 4 (mvC A)) :
    Calls Try.prog 137 #[v] w fun e w' => ∃ v', e = .returned v' ∧ w'.ownsRow w.heap.size 68 4 v' n (catC (mvC A) n) ∧ Below w.heap.size w w' := by
  obtain ⟨a, cap, e, h1, h2, h3⟩ := id h
  cases a with
  | none =>
    obtain rfl : n = 0 := by
      rcases Nat.eq_zero_or_pos n with h0 | h0
      · exact h0
      · obtain ⟨b, q, e, _⟩ := h3 h0
        exact absurd e (by simp)
    subst e
    refine (clone_mv_nil cap w).mono ?_
    rintro e w' ⟨rfl, hb⟩
    exact ⟨_, rfl, ⟨rfl, .inl ⟨rfl, rfl⟩⟩, hb⟩
  | some ad =>
    subst e
    exact clone_mv ad n cap A w hn h
set_option maxRecDepth 100000 in
set_option maxHeartbeats 4000000 in
theorem copied_any (n m : Nat) (A : Nat → Ac) (M : Nat → Mv) (vA vM : Value) (w : World) (hn : n ≤ 1000) (hm : m ≤ 1000) (hA : AcsAt w vA n A) (hM : MvsAt w vM m M) :
    Calls Try.prog 95 #[.agg #[vA, vM]] w fun e w' => ∃ v u, e = .returned (.agg #[v, u]) ∧ w'.ownsRow w.heap.size 87 6 v n (catC (acC A) n) ∧ w'.ownsRow w.heap.size 68 4 u m (catC (mvC M) m) ∧ Below w.heap.size w w' := by
  obtain ⟨aA, cA, rfl, -, -, -⟩ := id hA
  obtain ⟨aM, cM, rfl, -, -, -⟩ := id hM
  have jX := (Blk.new w #[.slice aA n cA, .slice aM m cM] 44).alloc (.cells #[.slice none 0 0, .slice none 0 0] 44)
  have jT := Blk.new1 w (.cells #[.slice aA n cA, .slice aM m cM] 44) #[.slice none 0 0, .slice none 0 0] 44
  have jB : Below w.heap.size w ((w.alloc (.cells #[.slice aA n cA, .slice aM m cM] 44)).alloc (.cells #[.slice none 0 0, .slice none 0 0] 44)) := by (repeat (first | exact Below.refl _ _ | assumption | refine Below.drew ?_ | refine Below.drewN ?_ _ | refine blT ?_ | refine blU ?_))
  have HA := Lib.hid (fun (W : World) (h : Below w.heap.size w W) => clone_ac_any _ n A W (by omega) (hA.later h))
  have HM := Lib.hid (fun (W : World) (h : Below w.heap.size w W) => clone_mv_any _ m M W (by omega) (hM.later h))
  clear hA hM
  go_enter Try.func95, Try.ntmps95
  go_upto_region 1 with fail
  have kT : Two _ (w.heap.size + 1) 44 := ⟨_, _, jT⟩
  clear jT
  (
 refine wp_region_held_drew (S := (fun w' => Blk w' w.heap.size #[.slice aA n cA, .slice aM m cM] 44 ∧ Two w' (w.heap.size + 1) 44 ∧ Below w.heap.size w w')) (by kernel_rfl) ?_ (fun hH => ?_)
 · (try dsimp only); (exact ⟨jX.drew, kT, jB.drew⟩)
 refine tkY 0 (some 3) ?_ ?_ ?_
 rotate_left
 · intro w hS0; (try dsimp only at hS0); obtain ⟨k1, _, _⟩ := hS0; obtain ⟨c0, c1⟩ := k1.c2; have y1 := k1.lt;go_simp; (try with_reducible rfl)
 (try simp only [cq])
 refine tkY 1 (some 4) ?_ ?_ ?_
 rotate_left
 · intro w hS0; (try dsimp only at hS0); obtain ⟨k1, _, _⟩ := hS0; obtain ⟨c0, c1⟩ := k1.c2; have y1 := k1.lt;go_simp; (try with_reducible rfl)
 (try simp only [cq])
 refine tkY 3 (some 6) ?_ ?_ ?_
 rotate_left
 · intro w hS0; (try dsimp only at hS0); obtain ⟨k1, _, _⟩ := hS0; obtain ⟨c0, c1⟩ := k1.c2; have y1 := k1.lt;go_simp; (try with_reducible rfl)
 (try simp only [cq])
 refine tkY 4 (some 7) ?_ ?_ ?_
 rotate_left
 · intro w hS0; (try dsimp only at hS0); obtain ⟨k1, _, _⟩ := hS0; obtain ⟨c0, c1⟩ := k1.c2; have y1 := k1.lt;go_simp; (try with_reducible rfl)
 (try simp only [cq])
 refine wpAnyH_ready (rs := [2]) (by kernel_rfl) (by simp) ?_
 refine arc1 (some 5) fun K hK => ?_
 go_simp
 (have hsz := two_lt hH.2.1; refine (HA.out _ hH.2.2).mono ?_; rintro e w' ⟨v, rfl, hr, hb⟩; replace hr := ownsRow_base hr hsz; clear hsz; obtain ⟨av, cv, hvv, -, -, -⟩ := row_at hr (by omega); subst hvv)
 refine hK.out _ _ ?_ ?_
 · (exact ⟨hH.1.call hb, hH.2.1.call hb, bwS hH.2.2 (Nat.le_refl _) hb⟩)
 (try clear hH); (try clear hb)
 intro hH
 clear hK K
 (try simp only [cq])
 refine wpAnyH_ready (rs := [5]) (by kernel_rfl) (by simp) ?_
 refine arc1 (some 8) fun K hK => ?_
 go_simp
 (have hsz := two_lt hH.2.1; refine (HM.out _ hH.2.2).mono ?_; rintro e w' ⟨u, rfl, hs, hb⟩; replace hs := ownsRow_base hs hsz; clear hsz; replace hr := row_call hr hb; obtain ⟨au, cu, huu, -, -, -⟩ := row_at hs (by omega); subst huu)
 refine hK.out _ _ ?_ ?_
 · (exact ⟨hH.1.call hb, hH.2.1.call hb, bwS hH.2.2 (Nat.le_refl _) hb⟩)
 (try clear hH); (try clear hb)
 intro hH
 clear hK K
 (try simp only [cq])
 refine tkY 6 (some 9) ?_ ?_ ?_
 rotate_left
 · intro w _; go_simp; (try with_reducible rfl)
 (try simp only [cq])
 refine wpAnyH_ready (rs := [7]) (by kernel_rfl) (by simp) ?_
 refine arc1 none fun K hK => ?_
 obtain ⟨kX, ⟨t0, t1, kT⟩, kB⟩ := hH
 obtain ⟨r0, r1⟩ := kT.c2
 have f0 := kT.free 0
 have f1 := kT.free 1
 have zT := kT.lt
 have KT := Lib.hid ((kT.set 0 (.slice av n cv)).set 1 (.slice au m cu))
 have KX := Lib.hid ((kX.setOther (c := w.heap.size + 1) (by omega) 0 (.slice av n cv)).setOther (c := w.heap.size + 1) (by omega) 1 (.slice au m cu))
 have KB9 := Lib.hid ((kB.setCell (p := ⟨w.heap.size + 1, 0, none⟩) (by simp) (.slice av n cv)).setCell (p := ⟨w.heap.size + 1, 1, none⟩) (by simp) (.slice au m cu))
 have HRW := Lib.hid (row_set2 (b := w.heap.size + 1) hr (fun q e => by have := (hr.lt q e).1; omega) (.slice av n cv) (.slice au m cu))
 have HSW := Lib.hid (row_set2 (b := w.heap.size + 1) hs (fun q e => by have := (hs.lt q e).1; omega) (.slice av n cv) (.slice au m cu))
 go_simp
 refine hK.out _ _ ?_ ?_
 · exact ⟨KX.out, ⟨_, _, KT.out⟩, KB9.out⟩
 (try clear hH); (try clear hb)
 intro hH
 clear hK K
 (try simp only [cq])
 refine wpAnyH_done (by kernel_rfl) ?_ _
 (try dsimp only [Act.put])
 (try simp only [cq])
 clear hH r0 r1 f0 f1 zT
 obtain ⟨z0, z1⟩ := KT.out.c2
 go_wp2
 exact bodyPost_ret (v := .agg #[.slice av n cv, .slice au m cu]) (by simp [results, Try.results95, go_sem, z0, z1]) rfl ⟨_, _, rfl, ownsRow_base HRW.out (by omega), ownsRow_base HSW.out (by omega), KB9.out⟩ )
end Go.Proofs.Ytpeogfcfiabcfaa

namespace Go.Proofs.Ytpeogfcfiabcfaa
open Go.RowKit

def ptV (n bA oA bM oM i : Nat) : Value :=
  if i < 2 * n then .pointer (some ⟨bA, oA + i / 2 * 6 + (if i % 2 = 0 then 2 else 4), none⟩) else .pointer (some ⟨bM, oM + (i - 2 * n) * 4 + 2, none⟩)
def PtAt (w : World) (b k : Nat) (f : Nat → Value) : Prop := ∃ C, Blk w b C 124 ∧ C.size = 46 ∧ ∀ i, i < 46 → C[i]? = some (if i < k then f i else .pointer none)
theorem PtAt.lt {w : World} {b k : Nat} {f : Nat → Value} (h : PtAt w b k f) : b < w.heap.size := by
  obtain ⟨C, hC, _⟩ := h
  exact hC.lt
theorem PtAt.cell {w : World} {b k : Nat} {f : Nat → Value} (h : PtAt w b k f) (hk : k < 46) : w.cell? ⟨b, k, none⟩ = some (.pointer none) := by
  obtain ⟨C, hC, _, hc⟩ := h
  refine hC.cell _ ?_
  rw [hc k hk, if_neg (by omega)]
theorem PtAt.free {w : World} {b k : Nat} {f : Nat → Value} (h : PtAt w b k f) (j : Nat) : w.frozen? ⟨b, j, none⟩ = false := by
  obtain ⟨C, hC, _⟩ := h
  exact hC.free j
theorem PtAt.put {w : World} {b k : Nat} {f : Nat → Value} (h : PtAt w b k f) (hk : k < 46) (v : Value) (hv : v = f k) : PtAt (w.setCell ⟨b, k, none⟩ v) b (k + 1) f := by
  obtain ⟨C, hC, hs, hc⟩ := h
  refine ⟨_, hC.set k v, by simpa using hs, fun i hi => ?_⟩
  rw [Array.getElem?_setIfInBounds]
  by_cases e : k = i
  · subst e
    rw [if_pos rfl, if_pos (by omega), if_pos (by omega), hv]
  · rw [if_neg e, hc i hi]
    by_cases h1 : i < k
    · rw [if_pos h1, if_pos (by omega)]
    · rw [if_neg h1, if_neg (by omega)]
theorem PtAt.drew {w : World} {b k : Nat} {f : Nat → Value} (h : PtAt w b k f) : PtAt w.drew b k f := by
  obtain ⟨C, hC, hc⟩ := h
  exact ⟨C, hC.drew, hc⟩
def PtX (w : World) (b p s : Nat) (f : Nat → Value) : Prop := ∃ C, Blk w b C 124 ∧ C.size = 46 ∧ ∀ i, i < 46 → (i < p + s → C[i]? = some (f i)) ∧ (p + 2 ≤ i → C[i]? = some (.pointer none))
theorem PtAt.way {w : World} {b k : Nat} {f : Nat → Value} (h : PtAt w b k f) : PtX w b k 0 f := by
  obtain ⟨C, hC, hs, hc⟩ := h
  exact ⟨C, hC, hs, fun i hi => ⟨fun h1 => by rw [hc i hi, if_pos (by omega)], fun h1 => by rw [hc i hi, if_neg (by omega)]⟩⟩
theorem PtX.all {w : World} {b k : Nat} {f : Nat → Value} (h : PtX w b k 2 f) : PtAt w b (k + 2) f := by
  obtain ⟨C, hC, hs, hc⟩ := h
  refine ⟨C, hC, hs, fun i hi => ?_⟩
  by_cases h1 : i < k + 2
  · rw [if_pos h1]; exact (hc i hi).1 h1
  · rw [if_neg h1]; exact (hc i hi).2 (by omega)
theorem PtX.weak {w : World} {b k s : Nat} {f : Nat → Value} (h : PtX w b k s f) : PtX w b k 0 f := by
  obtain ⟨C, hC, hs, hc⟩ := h
  exact ⟨C, hC, hs, fun i hi => ⟨fun h1 => (hc i hi).1 (by omega), (hc i hi).2⟩⟩
theorem PtX.put {w : World} {b k s : Nat} {f : Nat → Value} (h : PtX w b k s f) (j : Nat) (hj : j = k + s) (h2 : s < 2) (hk : j < 46) (v : Value) (hv : v = f j) : PtX (w.setCell ⟨b, j, none⟩ v) b k (s + 1) f := by
  obtain ⟨C, hC, hs, hc⟩ := h
  refine ⟨_, hC.set j v, by simpa using hs, fun i hi => ?_⟩
  rw [Array.getElem?_setIfInBounds]
  by_cases e : j = i
  · subst e
    rw [if_pos rfl, if_pos (by omega), hv]
    exact ⟨fun _ => rfl, fun h1 => absurd h1 (by omega)⟩
  · rw [if_neg e]
    exact ⟨fun h1 => (hc i hi).1 (by omega), (hc i hi).2⟩
theorem PtX.cell {w : World} {b k s : Nat} {f : Nat → Value} (h : PtX w b k s f) {j : Nat} (hj : j < 46) : ∃ v, w.cell? ⟨b, j, none⟩ = some v := by
  obtain ⟨C, hC, hs, _⟩ := h
  exact ⟨C[j], hC.cell j (by simp [hs, hj])⟩
theorem PtX.free {w : World} {b k s : Nat} {f : Nat → Value} (h : PtX w b k s f) (j : Nat) : w.frozen? ⟨b, j, none⟩ = false := by
  obtain ⟨C, hC, _⟩ := h
  exact hC.free j
theorem PtX.lt {w : World} {b k s : Nat} {f : Nat → Value} (h : PtX w b k s f) : b < w.heap.size := by
  obtain ⟨C, hC, _⟩ := h
  exact hC.lt
theorem PtX.drew {w : World} {b k s : Nat} {f : Nat → Value} (h : PtX w b k s f) : PtX w.drew b k s f := by
  obtain ⟨C, hC, hc⟩ := h
  exact ⟨C, hC.drew, hc⟩
theorem setRow_same (w : World) (g : Nat) (C : Array Value) (t : TypeId) (h : w.heap[g]? = some (.cells C t (0, 0))) : w.setRow g C = w := by
  have e : (w.setRow g C).heap = w.heap := by
    apply Array.ext_getElem?
    intro i
    by_cases hi : g = i
    · subst hi
      rw [h]
      exact setRow_heap w g C _ t _ h
    · exact setRow_other w g i C (by first | exact hi | exact fun e => hi e.symm)
  cases w
  simp only [World.setRow] at e ⊢
  rw [e]
theorem pt_one {k : Nat} {f : Nat → Value} {C : Array Value} (hs : C.size = 46) (hc : ∀ i, i < 46 → C[i]? = some (if i < k then f i else .pointer none)) (h1 : ∀ i, (f i).oneCell' = true) : C.all (·.oneCell') = true := by
  rw [Array.all_eq_true]
  intro i hi
  have := hc i (by omega)
  rw [Array.getElem?_eq_getElem hi] at this
  simp only [Option.some.injEq] at this
  rw [this]
  by_cases h : i < k
  · rw [if_pos h]; exact h1 i
  · rw [if_neg h]; rfl
def PtX.wld {w : World} {b k s : Nat} {f : Nat → Value} (_ : PtX w b k s f) : World := w
set_option maxRecDepth 100000 in
set_option maxHeartbeats 4000000 in
theorem spans_any (n m bA oA cA bM oM cM : Nat) (aM : Option Addr) (w : World) (hn : n ≤ 8) (hm : m ≤ 30) (hcA : n ≤ cA ∧ cA ≤ 9223372036854775807) (hcM : m ≤ cM ∧ cM ≤ 9223372036854775807) (hM : 0 < m → aM = some ⟨bM, oM, none⟩) :
    Calls Try.prog 96 #[.agg #[.slice (some ⟨bA, oA, none⟩) n cA, .slice aM m cM]] w fun e w' => ∃ C, e = .returned (.agg C) ∧ C.size = 46 ∧ (∀ i, i < 46 → C[i]? = some (if i < 2 * n + m then ptV n bA oA bM oM i else .pointer none)) ∧ Below w.heap.size w w' := by
  have HM := Lib.hid hM
  have HcA := Lib.hid hcA
  have HcM := Lib.hid hcM
  clear hM hcA hcM
  have jX := (Blk.new w #[.slice (some ⟨bA, oA, none⟩) n cA, .slice aM m cM] 44)
  go_enter Try.func96, Try.ntmps96
  obtain ⟨f, hf⟩ : ∃ f, ptV n bA oA bM oM = f := ⟨_, rfl⟩
  have HFa : Hid (∀ k, k < n → Value.pointer (some ⟨bA, oA + k * 6 + 2, none⟩) = f (2 * k) ∧ Value.pointer (some ⟨bA, oA + k * 6 + 4, none⟩) = f (2 * k + 1)) := fun k hk => by
    rw [← hf]
    unfold ptV
    rw [if_pos (by omega), if_pos (by omega), if_pos (by omega), if_neg (by omega), show 2 * k / 2 = k by omega, show (2 * k + 1) / 2 = k by omega]
    exact ⟨rfl, rfl⟩
  have HFm : Hid (∀ k, k < m → Value.pointer (some ⟨bM, oM + k * 4 + 2, none⟩) = f (2 * n + k)) := fun k hk => by
    rw [← hf]
    unfold ptV
    rw [if_neg (by omega), show 2 * n + k - 2 * n = k by omega]
  have HF1 : Hid (∀ i, (f i).oneCell' = true) := fun i => by
    rw [← hf]
    unfold ptV
    by_cases h : i < 2 * n
    · rw [if_pos h]; rfl
    · rw [if_neg h]; rfl
  rw [hf]
  clear hf
  go_upto_region 1 with fail
  replace jX := jX.alloc (.cells #[.pointer none, .pointer none, .pointer none, .pointer none, .pointer none, .pointer none, .pointer none, .pointer none, .pointer none, .pointer none, .pointer none, .pointer none, .pointer none, .pointer none, .pointer none, .pointer none, .pointer none, .pointer none, .pointer none, .pointer none, .pointer none, .pointer none, .pointer none, .pointer none, .pointer none, .pointer none, .pointer none, .pointer none, .pointer none, .pointer none, .pointer none, .pointer none, .pointer none, .pointer none, .pointer none, .pointer none, .pointer none, .pointer none, .pointer none, .pointer none, .pointer none, .pointer none, .pointer none, .pointer none, .pointer none, .pointer none] 124)
  have jP : PtAt _ (w.heap.size + 1) (2 * 0) f := ⟨_, Blk.new1 w (.cells #[.slice (some ⟨bA, oA, none⟩) n cA, .slice aM m cM] 44) #[.pointer none, .pointer none, .pointer none, .pointer none, .pointer none, .pointer none, .pointer none, .pointer none, .pointer none, .pointer none, .pointer none, .pointer none, .pointer none, .pointer none, .pointer none, .pointer none, .pointer none, .pointer none, .pointer none, .pointer none, .pointer none, .pointer none, .pointer none, .pointer none, .pointer none, .pointer none, .pointer none, .pointer none, .pointer none, .pointer none, .pointer none, .pointer none, .pointer none, .pointer none, .pointer none, .pointer none, .pointer none, .pointer none, .pointer none, .pointer none, .pointer none, .pointer none, .pointer none, .pointer none, .pointer none, .pointer none] 124, rfl, fun i hi => by
    rw [if_neg (by omega)]
    have e : #[.pointer none, .pointer none, .pointer none, .pointer none, .pointer none, .pointer none, .pointer none, .pointer none, .pointer none, .pointer none, .pointer none, .pointer none, .pointer none, .pointer none, .pointer none, .pointer none, .pointer none, .pointer none, .pointer none, .pointer none, .pointer none, .pointer none, .pointer none, .pointer none, .pointer none, .pointer none, .pointer none, .pointer none, .pointer none, .pointer none, .pointer none, .pointer none, .pointer none, .pointer none, .pointer none, .pointer none, .pointer none, .pointer none, .pointer none, .pointer none, .pointer none, .pointer none, .pointer none, .pointer none, .pointer none, .pointer none] = Array.replicate 46 (Value.pointer none) := rfl
    rw [e]
    simp [hi]⟩
  have jB : Below w.heap.size w ((w.alloc (.cells #[.slice (some ⟨bA, oA, none⟩) n cA, .slice aM m cM] 44)).alloc (.cells #[.pointer none, .pointer none, .pointer none, .pointer none, .pointer none, .pointer none, .pointer none, .pointer none, .pointer none, .pointer none, .pointer none, .pointer none, .pointer none, .pointer none, .pointer none, .pointer none, .pointer none, .pointer none, .pointer none, .pointer none, .pointer none, .pointer none, .pointer none, .pointer none, .pointer none, .pointer none, .pointer none, .pointer none, .pointer none, .pointer none, .pointer none, .pointer none, .pointer none, .pointer none, .pointer none, .pointer none, .pointer none, .pointer none, .pointer none, .pointer none, .pointer none, .pointer none, .pointer none, .pointer none, .pointer none, .pointer none] 124)) := by (repeat (first | exact Below.refl _ _ | assumption | refine Below.drew ?_ | refine Below.drewN ?_ _ | refine blT ?_ | refine blU ?_))
  generalize (w.alloc (.cells #[.slice (some ⟨bA, oA, none⟩) n cA, .slice aM m cM] 44)).alloc (.cells #[.pointer none, .pointer none, .pointer none, .pointer none, .pointer none, .pointer none, .pointer none, .pointer none, .pointer none, .pointer none, .pointer none, .pointer none, .pointer none, .pointer none, .pointer none, .pointer none, .pointer none, .pointer none, .pointer none, .pointer none, .pointer none, .pointer none, .pointer none, .pointer none, .pointer none, .pointer none, .pointer none, .pointer none, .pointer none, .pointer none, .pointer none, .pointer none, .pointer none, .pointer none, .pointer none, .pointer none, .pointer none, .pointer none, .pointer none, .pointer none, .pointer none, .pointer none, .pointer none, .pointer none, .pointer none, .pointer none] 124) = V at jX jP jB ⊢
  obtain ⟨x0, x1⟩ := jX.c2
  have zX := jX.lt
  have hw2 : IntKind.i64.wrap (2 * (n : Int)) = ((2 * n : Nat) : Int) := by rw [IntWalk.i64_in _ (by omega)]; omega
  go_wp2_with fail
  clear x0 x1 zX
  go_loopw [13] (fun i wr => ∃ k : Nat, k ≤ n ∧ i = .int .i64 k ∧ Blk wr w.heap.size #[.slice (some ⟨bA, oA, none⟩) n cA, .slice aM m cM] 44 ∧ PtAt wr (w.heap.size + 1) (2 * k) f ∧ Below w.heap.size w wr) (fun i _ => n - (intOf i).toNat)
  case atStart => exact ⟨0, Nat.zero_le _, rfl, jX, jP, jB⟩
  case round =>
    clear jX jP jB
    obtain ⟨k, hk, rfl, jX, jP, jB⟩ := hrel
    by_cases hlt : k < n
    · have hltI : (k : Int) < n := by omega
      have hA := HcA.out
      obtain ⟨p, hp⟩ : ∃ p, 2 * k = p := ⟨_, rfl⟩
      obtain ⟨q, hq⟩ : ∃ q, p + 1 = q := ⟨_, rfl⟩
      have hw3 : IntKind.i64.wrap (2 * (k : Int)) = (p : Int) := by rw [IntWalk.i64_in _ (by omega)]; omega
      have hw4 : IntKind.i64.wrap ((p : Int) + 1) = (q : Int) := by rw [IntWalk.i64_in _ (by omega)]; omega
      obtain ⟨v1, v2⟩ := HFa.out k hlt
      rw [hp] at v1 v2 jP
      rw [hq] at v2
      have hpI : (p : Int) < 46 := by omega
      have hqI : (q : Int) < 46 := by omega
      have hpN : p < 46 := by omega
      have hqN : q < 46 := by omega
      have hne : p ≠ q := by omega
      have H2 := Lib.hid (And.intro hp hq)
      have V1 := Lib.hid v1
      have V2 := Lib.hid v2
      have jQ := jP.way
      clear v1 v2 hp hq jP
      go_upto_region 5 with fail
      refine wp_region_held_drew (S := (fun W => Blk W w.heap.size #[.slice (some ⟨bA, oA, none⟩) n cA, .slice aM m cM] 44 ∧ PtX W (w.heap.size + 1) p 0 f ∧ Below w.heap.size w W)) (by kernel_rfl) ?_ (fun hH => ?_)
      · (try dsimp only); (exact ⟨jX.drew, jQ.drew, jB.drew⟩)
      refine tkY 0 (some 16) ?_ ?_ ?_
      rotate_left
      · intro w _; go_simp; (try with_reducible rfl)
      (try simp only [cq])
      refine tkY 1 (some 17) ?_ ?_ ?_
      rotate_left
      · intro w _; go_simp; (try with_reducible rfl)
      (try simp only [cq])
      refine tkY 2 (some 18) ?_ ?_ ?_
      rotate_left
      · intro w _; go_simp; (try with_reducible rfl)
      (try simp only [cq])
      refine tkY 3 (some 19) ?_ ?_ ?_
      rotate_left
      · intro w _; go_simp; (try with_reducible rfl)
      (try simp only [cq])
      refine tkY 4 (some 20) ?_ ?_ ?_
      rotate_left
      · intro w _; go_simp; (try with_reducible rfl)
      (try simp only [cq])
      refine tkY 5 (some 21) ?_ ?_ ?_
      rotate_left
      · intro w hS0; (try dsimp only at hS0); obtain ⟨kX, _, _⟩ := hS0; obtain ⟨c0, c1⟩ := kX.c2; have y1 := kX.lt;go_simp; (try with_reducible rfl)
      (try simp only [cq])
      refine tkY 6 (some 22) ?_ ?_ ?_
      rotate_left
      · intro w hS0; (try dsimp only at hS0); obtain ⟨kX, _, _⟩ := hS0; obtain ⟨c0, c1⟩ := kX.c2; have y1 := kX.lt;go_simp; (try with_reducible rfl)
      (try simp only [cq])
      refine tkY 7 (some 23) ?_ ?_ ?_
      rotate_left
      · intro w _; go_simp; (try with_reducible rfl)
      (try simp only [cq])
      refine tkY 8 (some 24) ?_ ?_ ?_
      rotate_left
      · intro w hS0; (try dsimp only at hS0); obtain ⟨kX, _, _⟩ := hS0; obtain ⟨c0, c1⟩ := kX.c2; have y1 := kX.lt;go_simp; (try with_reducible rfl)
      (try simp only [cq])
      refine tkY 9 (some 25) ?_ ?_ ?_
      rotate_left
      · intro w hS0; (try dsimp only at hS0); obtain ⟨kX, _, _⟩ := hS0; obtain ⟨c0, c1⟩ := kX.c2; have y1 := kX.lt;go_simp; (try with_reducible rfl)
      (try simp only [cq])
      refine tkY 10 (some 26) ?_ ?_ ?_
      rotate_left
      · intro w hS0; (try dsimp only at hS0); obtain ⟨kX, _, _⟩ := hS0; obtain ⟨c0, c1⟩ := kX.c2; have y1 := kX.lt;go_simp; (try with_reducible rfl)
      (try simp only [cq])
      refine tkY 11 (some 27) ?_ ?_ ?_
      rotate_left
      · intro w hS0; (try dsimp only at hS0); obtain ⟨kX, _, _⟩ := hS0; obtain ⟨c0, c1⟩ := kX.c2; have y1 := kX.lt;go_simp; (try with_reducible rfl)
      (try simp only [cq])
      refine tkY 12 (some 28) ?_ ?_ ?_
      rotate_left
      · intro w _; go_simp; (try with_reducible rfl)
      (try simp only [cq])
      refine tkY 13 (some 29) ?_ ?_ ?_
      rotate_left
      · intro w hS0; (try dsimp only at hS0); obtain ⟨kX, _, _⟩ := hS0; obtain ⟨c0, c1⟩ := kX.c2; have y1 := kX.lt;go_simp; (try with_reducible rfl)
      (try simp only [cq])
      refine tkY 14 (some 30) ?_ ?_ ?_
      rotate_left
      · intro w hS0; (try dsimp only at hS0); obtain ⟨kX, _, _⟩ := hS0; obtain ⟨c0, c1⟩ := kX.c2; have y1 := kX.lt;go_simp; (try with_reducible rfl)
      (try simp only [cq])
      refine tkY 15 (some 31) ?_ ?_ ?_
      rotate_left
      · intro w hS0; (try dsimp only at hS0); obtain ⟨kX, _, _⟩ := hS0; obtain ⟨c0, c1⟩ := kX.c2; have y1 := kX.lt;go_simp; (try with_reducible rfl)
      (try simp only [cq])
      refine wpAnyH_ready (rs := [16]) (by kernel_rfl) (by simp) ?_
      refine arc1 none fun K hK => ?_
      obtain ⟨kX, kP, kB⟩ := hH
      obtain ⟨o1, r1⟩ := kP.cell hpN
      have f1 := kP.free p
      obtain ⟨o2, r2⟩ := kP.cell hqN
      have f2 := kP.free q
      have zP := kP.lt
      have KP := Lib.hid (kP.put p rfl (by omega) hpN _ V1.out)
      have KX := Lib.hid (kX.setOther (c := w.heap.size + 1) (by omega) p (.pointer (some ⟨bA, oA + k * 6 + 2, none⟩)))
      have KB := Lib.hid (kB.setCell (p := ⟨w.heap.size + 1, p, none⟩) (by simp) (.pointer (some ⟨bA, oA + k * 6 + 2, none⟩)))
      clear kP kX kB
      go_simp
      refine hK.out _ _ ?_ ?_
      · exact ⟨KX.out, KP.out.weak, KB.out⟩
      (try clear hH)
      intro hH
      clear hK K
      (try simp only [cq])
      refine tkY 17 (some 32) ?_ ?_ ?_
      rotate_left
      · intro w hS0; (try dsimp only at hS0); obtain ⟨kX, _, _⟩ := hS0; obtain ⟨c0, c1⟩ := kX.c2; have y1 := kX.lt;go_simp; (try with_reducible rfl)
      (try simp only [cq])
      refine wpAnyH_ready (rs := [18]) (by kernel_rfl) (by simp) ?_
      refine arc1 none fun K hK => ?_
      clear r1 f1 hH
      change wr.cell? _ = _ at r2
      change wr.frozen? _ = _ at f2
      have KP2 := Lib.hid (KP.out.put q (by have := H2.out.2; omega) (by omega) hqN _ V2.out)
      have KX2 := Lib.hid (KX.out.setOther (c := w.heap.size + 1) (by omega) q (.pointer (some ⟨bA, oA + k * 6 + 4, none⟩)))
      have KB2 := Lib.hid (KB.out.setCell (p := ⟨w.heap.size + 1, q, none⟩) (by simp) (.pointer (some ⟨bA, oA + k * 6 + 4, none⟩)))
      go_simp
      refine hK.out _ _ ?_ ?_
      · exact ⟨KX2.out, KP2.out.weak, KB2.out⟩
      (try clear hH)
      intro hH
      clear hK K
      (try simp only [cq])
      refine wpAnyH_done (by kernel_rfl) ?_ _
      (try dsimp only [Act.put])
      (try simp only [cq])
      clear r2 f2 zP KX KP KB jX jQ jB
      obtain ⟨jX, -, jB⟩ := hH
      have jQ : PtX (Blk.wld jX) (w.heap.size + 1) p 2 f := KP2.out
      obtain ⟨U, hU⟩ : ∃ U, Blk.wld jX = U := ⟨_, rfl⟩
      simp only [Blk.wld] at hU jQ
      rw [hU] at jX jQ jB ⊢
      clear hU KX2 KP2 KB2
      have jP := jQ.all
      have hp := H2.out.1
      rw [← hp, show 2 * k + 2 = 2 * (k + 1) by omega] at jP
      clear jQ hp hw3 hw4 hA
      go_wp2_with fail
      go_roundw
      case rel => exact ⟨k + 1, by omega, by go_num, jX, jP, jB⟩
      case measure => simp [intOf]; omega
    · have ek : n = k := by omega
      subst ek
      clear HFa
      have hltI : ¬ ((n : Int) < n) := by omega
      have zX := jX.lt
      obtain ⟨x0, x1⟩ := jX.c2
      go_wp2_with fail
      clear x0 x1 zX hltI
      go_loopw [37] (fun i wr => ∃ k : Nat, k ≤ m ∧ i = .int .i64 k ∧ Blk wr w.heap.size #[.slice (some ⟨bA, oA, none⟩) n cA, .slice aM m cM] 44 ∧ PtAt wr (w.heap.size + 1) (2 * n + k) f ∧ Below w.heap.size w wr) (fun i _ => m - (intOf i).toNat)
      case atStart => exact ⟨0, Nat.zero_le _, rfl, jX, jP, jB⟩
      case round =>
        clear jX jP jB
        obtain ⟨k, hk, rfl, jX, jP, jB⟩ := hrel
        by_cases hlt : k < m
        · have e := HM.out (by omega)
          subst e
          have hltI : (k : Int) < m := by omega
          have hA := HcM.out
          obtain ⟨p, hp⟩ : ∃ p, 2 * n + k = p := ⟨_, rfl⟩
          have hw3 : IntKind.i64.wrap (2 * (n : Int) + (k : Int)) = (p : Int) := by rw [IntWalk.i64_in _ (by omega)]; omega
          have hpe : 2 * (n : Int) + (k : Int) = (p : Int) := by omega
          have v1 := HFm.out k hlt
          rw [hp] at v1 jP
          have hpI : (p : Int) < 46 := by omega
          have hpN : p < 46 := by omega
          have H2 := Lib.hid hp
          have V1 := Lib.hid v1
          clear v1 hp
          have zX := jX.lt
          obtain ⟨x0, x1⟩ := jX.c2
          have zP := jP.lt
          have r0 := jP.cell hpN
          have f0 := jP.free p
          have KP := Lib.hid (jP.put hpN _ V1.out)
          have KX := Lib.hid (jX.setOther (c := w.heap.size + 1) (by omega) p (.pointer (some ⟨bM, oM + k * 4 + 2, none⟩)))
          have KB := Lib.hid (jB.setCell (p := ⟨w.heap.size + 1, p, none⟩) (by simp) (.pointer (some ⟨bM, oM + k * 4 + 2, none⟩)))
          clear jX jP jB
          go_wp2_with fail
          clear x0 x1 zX r0 f0 zP
          go_roundw
          case rel => exact ⟨k + 1, by omega, by go_num, KX.out, (show PtAt _ _ (2 * n + (k + 1)) f from by rw [show 2 * n + (k + 1) = p + 1 by have := H2.out; omega]; exact KP.out), KB.out⟩
          case measure => simp [intOf]; omega
        · have ek : m = k := by omega
          subst ek
          have hltI : ¬ ((m : Int) < m) := by omega
          clear HFm HM HcA HcM
          obtain ⟨C, hC, hs, hc⟩ := jP
          have z := hC.lt
          have hi : (Try.prog.info? 124).map (·.size) = some C.size := by rw [hs]; kernel_rfl
          have h1 := pt_one hs hc HF1.out
          go_upto_region 12 with fail
          refine wp_region_list ?_
          refine wpList_load_row rfl _ _ rfl (w.heap.size + 1) rfl _ C (0, 0) _ hC Try.underlying124 rfl hi ?_
          refine wpList_store_row rfl _ _ _ rfl (w.heap.size + 1) C rfl rfl _ C hC hi rfl h1 ?_
          rw [setRow_same wr _ C _ hC]
          simp only [Act.put]
          clear hi h1 HF1
          go_wp2
          exact bodyPost_ret (v := .agg C) (results_cell_row (by first | exact Try.results96 | kernel_rfl) _ wr (w.heap.size + 1) _ C (0, 0) _ rfl hC Try.underlying124 rfl (by rw [hs]; kernel_rfl)) rfl ⟨C, rfl, hs, hc, jB⟩
end Go.Proofs.Ytpeogfcfiabcfaa

namespace Go.Proofs.Ytpeogfcfiabcfaa
open Go.RowKit

theorem catC_set (C D : Nat → List Value) (s : Nat) (hC : ∀ i, (C i).length = s) (hD : ∀ i, (D i).length = s) (hs : 0 < s) (k j : Nat) (hj : j < s) (u : Value) (hne : ∀ i, i ≠ k → D i = C i) (hk : D k = (C k).set j u) (n : Nat) (hkn : k < n) :
    (catC C n).set (k * s + j) u = catC D n := by
  have e1 := catC_len C s n (fun i _ => hC i)
  have e2 := catC_len D s n (fun i _ => hD i)
  have hlt : k * s + j < n * s := by
    have : (k + 1) * s ≤ n * s := Nat.mul_le_mul (by omega) (Nat.le_refl s)
    rw [Nat.add_mul] at this
    omega
  apply List.ext_getElem?
  intro i
  by_cases hi : i < n * s
  · have h1 : i / s < n := (Nat.div_lt_iff_lt_mul hs).2 hi
    have h2 : i % s < s := Nat.mod_lt _ hs
    have h3 : i = i / s * s + i % s := by rw [Nat.mul_comm]; exact (Nat.div_add_mod i s).symm
    have q2 := catC_at D s (i / s) (i % s) h2 n (fun i _ => hD i) h1
    rw [← h3] at q2
    rw [q2]
    by_cases he : i = k * s + j
    · rw [he, List.getElem?_set_self (by omega)]
      have d1 : (k * s + j) / s = k := by rw [Nat.add_comm, Nat.add_mul_div_right _ _ hs, Nat.div_eq_of_lt hj, Nat.zero_add]
      have d2 : (k * s + j) % s = j := by rw [Nat.add_comm, Nat.add_mul_mod_self_right, Nat.mod_eq_of_lt hj]
      rw [d1, d2, hk, List.getElem?_set_self (by rw [hC]; exact hj)]
    · rw [List.getElem?_set_ne (fun e => he e.symm)]
      have q1 := catC_at C s (i / s) (i % s) h2 n (fun i _ => hC i) h1
      rw [← h3] at q1
      rw [q1]
      by_cases hik : i / s = k
      · rw [hik, hk, List.getElem?_set_ne]
        intro e
        apply he
        rw [h3, hik, ← e]
      · rw [hne _ hik]
  · rw [List.getElem?_eq_none (by rw [List.length_set]; omega), List.getElem?_eq_none (by omega)]
theorem row_at_set {W : World} {base s : Nat} {t : TypeId} {b n cap : Nat} {xs : List Value} (h : W.ownsRow base t s (.slice (some ⟨b, 0, none⟩) n cap) n xs) (j : Nat) (u : Value) :
    (W.setCell ⟨b, j, none⟩ u).ownsRow base t s (.slice (some ⟨b, 0, none⟩) n cap) n (xs.set j u) := by
  obtain ⟨hl, h2⟩ := h
  refine ⟨by rw [List.length_set]; exact hl, ?_⟩
  rcases h2 with ⟨hv, _⟩ | ⟨g, cap', cur, hv, hg, hc, hn, hm, hz, ht⟩
  · simp at hv
  · simp only [Value.slice.injEq, Option.some.injEq, Addr.mk.injEq, and_true, true_and] at hv
    obtain ⟨rfl, rfl⟩ := hv
    have k : Blk W b cur t := hc
    refine .inr ⟨b, cap, cur.setIfInBounds j u, rfl, hg, k.set j u, hn, hm, by simpa using hz, ?_⟩
    rw [← ht]
    simp [List.take_set]
theorem row_put2 {W : World} {base s : Nat} {t : TypeId} {b n cap : Nat} {C E : Nat → List Value} (h : W.ownsRow base t s (.slice (some ⟨b, 0, none⟩) n cap) n (catC C n)) (hC : ∀ i, (C i).length = s) (hE : ∀ i, (E i).length = s) (j p : Nat) (hj : j < n) (hp : p + 1 < s) (u v : Value) (hne : ∀ i, i ≠ j → E i = C i) (he : E j = ((C j).set p u).set (p + 1) v) :
    ((W.setCell ⟨b, j * s + p, none⟩ u).setCell ⟨b, j * s + p + 1, none⟩ v).ownsRow base t s (.slice (some ⟨b, 0, none⟩) n cap) n (catC E n) := by
  have h1 := row_at_set h (j * s + p) u
  have hD : ∀ i, ((fun i => if i = j then (C j).set p u else C i) i).length = s := by
    intro i
    by_cases e : i = j
    · simp only [e, if_pos]; rw [List.length_set]; exact hC j
    · simp only [e, if_false]; exact hC i
  rw [catC_set C (fun i => if i = j then (C j).set p u else C i) s hC hD (by omega) j p (by omega) u (fun i hi => if_neg hi) (if_pos rfl) n hj] at h1
  have h2 := row_at_set h1 (j * s + p + 1) v
  rw [Nat.add_assoc, catC_set (fun i => if i = j then (C j).set p u else C i) E s hD hE (by omega) j (p + 1) (by omega) v (fun i hi => by rw [hne i hi]; exact (if_neg hi).symm) (by rw [he]; simp) n hj] at h2
  rw [Nat.add_assoc]
  exact h2
def rfA (KA KB : Nat → Int) (A : Nat → Ac) (k i : Nat) : Ac := ⟨(A i).nm, (A i).ki, if 2 * i < k then KA (2 * i) else (A i).o0, if 2 * i < k then KB (2 * i) else (A i).o1, if 2 * i + 1 < k then KA (2 * i + 1) else (A i).c0, if 2 * i + 1 < k then KB (2 * i + 1) else (A i).c1⟩
def rfM (KA KB : Nat → Int) (P : Nat) (M : Nat → Mv) (k i : Nat) : Mv := ⟨(M i).fr, (M i).tt, if P + i < k then KA (P + i) else (M i).lo, if P + i < k then KB (P + i) else (M i).hi⟩
theorem rfA_o (KA KB : Nat → Int) (A : Nat → Ac) (k j : Nat) (hk : k = 2 * j) : acC (rfA KA KB A (k + 1)) j = ((acC (rfA KA KB A k) j).set 2 (.int .i64 (KA k))).set 3 (.int .i64 (KB k)) := by
  subst hk
  simp only [acC, rfA, List.set_cons_succ, List.set_cons_zero]
  rw [if_pos (by omega), if_pos (by omega), if_neg (by omega), if_neg (by omega), if_neg (by omega), if_neg (by omega)]
theorem rfA_c (KA KB : Nat → Int) (A : Nat → Ac) (k j : Nat) (hk : k = 2 * j + 1) : acC (rfA KA KB A (k + 1)) j = ((acC (rfA KA KB A k) j).set 4 (.int .i64 (KA k))).set 5 (.int .i64 (KB k)) := by
  subst hk
  simp only [acC, rfA, List.set_cons_succ, List.set_cons_zero]
  rw [if_pos (by omega), if_pos (by omega), if_pos (by omega), if_pos (by omega), if_pos (by omega), if_pos (by omega)]
theorem rfA_ne (KA KB : Nat → Int) (A : Nat → Ac) (k i : Nat) (h : i ≠ k / 2) : rfA KA KB A (k + 1) i = rfA KA KB A k i := by
  have e1 : (2 * i < k + 1) = (2 * i < k) := propext (by omega)
  have e2 : (2 * i + 1 < k + 1) = (2 * i + 1 < k) := propext (by omega)
  unfold rfA
  simp only [e1, e2]
theorem rfM_k (KA KB : Nat → Int) (P : Nat) (M : Nat → Mv) (k j : Nat) (hk : k = P + j) : mvC (rfM KA KB P M (k + 1)) j = ((mvC (rfM KA KB P M k) j).set 2 (.int .i64 (KA k))).set 3 (.int .i64 (KB k)) := by
  subst hk
  simp only [mvC, rfM, List.set_cons_succ, List.set_cons_zero]
  rw [if_pos (by omega), if_pos (by omega)]
theorem rfM_ne (KA KB : Nat → Int) (P : Nat) (M : Nat → Mv) (k i : Nat) (h : P + i ≠ k) : rfM KA KB P M (k + 1) i = rfM KA KB P M k i := by
  have e1 : (P + i < k + 1) = (P + i < k) := propext (by omega)
  unfold rfM
  simp only [e1]
theorem rfA_0 (KA KB : Nat → Int) (A : Nat → Ac) (i : Nat) : rfA KA KB A 0 i = A i := by
  unfold rfA
  rw [if_neg (by omega), if_neg (by omega), if_neg (by omega), if_neg (by omega)]
theorem rfM_0 (KA KB : Nat → Int) (P : Nat) (M : Nat → Mv) (i : Nat) : rfM KA KB P M 0 i = M i := by
  unfold rfM
  rw [if_neg (by omega), if_neg (by omega)]
theorem rfM_lo (KA KB : Nat → Int) (P : Nat) (M : Nat → Mv) (k i : Nat) (h : k ≤ P) : rfM KA KB P M k i = M i := by
  unfold rfM
  rw [if_neg (by omega), if_neg (by omega)]
def ptO (k : Nat) : Nat := k / 2 * 6 + (if k % 2 = 0 then 2 else 4)
theorem row_rfA {W : World} {base : Nat} {t : TypeId} {b n cap : Nat} {KA KB : Nat → Int} {A : Nat → Ac} {k : Nat} (h : W.ownsRow base t 6 (.slice (some ⟨b, 0, none⟩) n cap) n (catC (acC (rfA KA KB A k)) n)) (hk : k < 2 * n) :
    ((W.setCell ⟨b, ptO k, none⟩ (.int .i64 (KA k))).setCell ⟨b, ptO k + 1, none⟩ (.int .i64 (KB k))).ownsRow base t 6 (.slice (some ⟨b, 0, none⟩) n cap) n (catC (acC (rfA KA KB A (k + 1))) n) := by
  have hne : ∀ i, i ≠ k / 2 → acC (rfA KA KB A (k + 1)) i = acC (rfA KA KB A k) i := fun i hi => by
    unfold acC
    rw [rfA_ne KA KB A k i hi]
  unfold ptO
  by_cases e : k % 2 = 0
  · rw [if_pos e]
    exact row_put2 h (fun _ => rfl) (fun _ => rfl) (k / 2) 2 (by omega) (by omega) _ _ hne (rfA_o KA KB A k (k / 2) (by omega))
  · rw [if_neg e]
    exact row_put2 h (fun _ => rfl) (fun _ => rfl) (k / 2) 4 (by omega) (by omega) _ _ hne (rfA_c KA KB A k (k / 2) (by omega))
theorem row_rfM {W : World} {base : Nat} {t : TypeId} {b m cap P : Nat} {KA KB : Nat → Int} {M : Nat → Mv} {j : Nat} (h : W.ownsRow base t 4 (.slice (some ⟨b, 0, none⟩) m cap) m (catC (mvC (rfM KA KB P M (P + j))) m)) (hj : j < m) :
    ((W.setCell ⟨b, j * 4 + 2, none⟩ (.int .i64 (KA (P + j)))).setCell ⟨b, j * 4 + 2 + 1, none⟩ (.int .i64 (KB (P + j)))).ownsRow base t 4 (.slice (some ⟨b, 0, none⟩) m cap) m (catC (mvC (rfM KA KB P M (P + j + 1))) m) :=
  row_put2 h (fun _ => rfl) (fun _ => rfl) j 2 hj (by omega) _ _ (fun i hi => by
    unfold mvC
    rw [rfM_ne KA KB P M (P + j) i (by omega)]) (rfM_k KA KB P M (P + j) j rfl)
end Go.Proofs.Ytpeogfcfiabcfaa

namespace Go.Proofs.Ytpeogfcfiabcfaa
open Go.RowKit

theorem row_free {W : World} {base s : Nat} {t : TypeId} {b n cap : Nat} {xs : List Value} (h : W.ownsRow base t s (.slice (some ⟨b, 0, none⟩) n cap) n xs) : (∀ j, W.frozen? ⟨b, j, none⟩ = false) ∧ base ≤ b ∧ b < W.heap.size := by
  obtain ⟨hl, h2⟩ := h
  rcases h2 with ⟨hv, _⟩ | ⟨g, cap', cur, hv, hg, hc, hn, hm, hz, ht⟩
  · simp at hv
  · simp only [Value.slice.injEq, Option.some.injEq, Addr.mk.injEq, and_true, true_and] at hv
    obtain ⟨rfl, rfl⟩ := hv
    have k : Blk W b cur t := hc
    exact ⟨k.free, hg, k.lt⟩
theorem row_rf_cells {W : World} {base : Nat} {t : TypeId} {b n cap : Nat} {A : Nat → Ac} (h : W.ownsRow base t 6 (.slice (some ⟨b, 0, none⟩) n cap) n (catC (acC A) n)) {k : Nat} (hk : k < 2 * n) : (∃ v, W.cell? ⟨b, ptO k, none⟩ = some v) ∧ ∃ v, W.cell? ⟨b, ptO k + 1, none⟩ = some v := by
  have e : ∀ j, j < 6 → ∃ v, W.cell? ⟨b, k / 2 * 6 + j, none⟩ = some v := fun j hj => by
    refine ⟨(acC A (k / 2))[j], ?_⟩
    rw [h.cellAt (k / 2 * 6 + j) (by omega), catC_at (acC A) 6 (k / 2) j hj n (fun _ _ => rfl) (by omega)]
    exact List.getElem?_eq_getElem (by exact hj)
  unfold ptO
  by_cases q : k % 2 = 0
  · rw [if_pos q]; exact ⟨e 2 (by omega), e 3 (by omega)⟩
  · rw [if_neg q]; exact ⟨e 4 (by omega), e 5 (by omega)⟩
theorem row_rm_cells {W : World} {base : Nat} {t : TypeId} {b n cap : Nat} {M : Nat → Mv} (h : W.ownsRow base t 4 (.slice (some ⟨b, 0, none⟩) n cap) n (catC (mvC M) n)) {k : Nat} (hk : k < n) : (∃ v, W.cell? ⟨b, k * 4 + 2, none⟩ = some v) ∧ ∃ v, W.cell? ⟨b, k * 4 + 2 + 1, none⟩ = some v := by
  have e : ∀ j, j < 4 → ∃ v, W.cell? ⟨b, k * 4 + j, none⟩ = some v := fun j hj => by
    refine ⟨(mvC M k)[j], ?_⟩
    rw [h.cellAt (k * 4 + j) (by omega), catC_at (mvC M) 4 k j hj n (fun _ _ => rfl) hk]
    exact List.getElem?_eq_getElem (by exact hj)
  exact ⟨e 2 (by omega), e 3 (by omega)⟩
theorem rfA_row (KA KB : Nat → Int) (A : Nat → Ac) (k n : Nat) (h : 2 * n ≤ k) : catC (acC (rfA KA KB A (k + 1))) n = catC (acC (rfA KA KB A k)) n := catC_congr n (fun i hi => by
  unfold acC
  rw [rfA_ne KA KB A k i (by omega)])
theorem rfM_row (KA KB : Nat → Int) (P : Nat) (M : Nat → Mv) (k m : Nat) (h : k < P ∨ P + m ≤ k) : catC (mvC (rfM KA KB P M (k + 1))) m = catC (mvC (rfM KA KB P M k)) m := catC_congr m (fun i hi => by
  unfold mvC
  rw [rfM_ne KA KB P M k i (by omega)])
theorem ptV_a (n bA bM oM i : Nat) (h : i < 2 * n) : ptV n bA 0 bM oM i = .pointer (some ⟨bA, ptO i, none⟩) := by
  unfold ptV ptO
  rw [if_pos h, Nat.zero_add]
theorem ptV_m (n bA oA bM i : Nat) : ptV n bA oA bM 0 (2 * n + i) = .pointer (some ⟨bM, i * 4 + 2, none⟩) := by
  unfold ptV
  rw [if_neg (by omega), show 2 * n + i - 2 * n = i by omega, Nat.zero_add]
theorem row_other2 {W : World} {base s n b : Nat} {e : TypeId} {v : Value} {xs : List Value} (h : W.ownsRow base e s v n xs) (hb : v.ownBlock ≠ some b) (p q : Nat) (u1 u2 : Value) : ((W.setCell ⟨b, p, none⟩ u1).setCell ⟨b, q, none⟩ u2).ownsRow base e s v n xs := row_store (row_store h hb) hb
theorem KnAt.other2 {w : World} {b c n : Nat} {A B : Nat → Int} (h : KnAt w b n A B) (hne : b ≠ c) (p q : Nat) (u v : Value) : KnAt ((w.setCell ⟨c, p, none⟩ u).setCell ⟨c, q, none⟩ v) b n A B := by
  obtain ⟨C, p1, p2⟩ := h
  exact ⟨C, (p1.setOther (c := c) hne p u).setOther (c := c) hne q v, p2⟩
theorem index_pt (C : Array Value) (k : Nat) (v : Value) (hk : k < 46) (hv : C[k]? = some v) (W : World) : (Instr.index 124 (.agg C) (.int .i64 (k : Int))).run Try.prog W = .ok v W := by
  simp [Instr.index, run_underlying Try.underlying124, asIntOf, go_sem, hv, show (k : Int) < 46 by omega]
  intro h
  omega
set_option maxRecDepth 100000 in
set_option maxHeartbeats 4000000 in
theorem refine_ok (n : Nat) (A : Nat → Ac) (m : Nat) (M : Nat → Mv) (vA vM : Value) (w : World) (h0 : 1 ≤ n) (hn : n ≤ 8) (hm : m ≤ 30) (hM0 : ∀ i, i < m → 0 ≤ (M i).fr ∧ 0 ≤ (M i).tt) (hA : AcsAt w vA n A) (hM : MvsAt w vM m M) (hs : NmOk n A) (hR : eRows n A m M = 0)
    (hE : FlOk (flE n A m M) (flN n m)) (hC : CutS (flE n A m M) (flN n m) (2 ^ (n + 1))) (KA KB : Nat → Int) (hKA : (knA (flE n A m M) (flN n m) (2 ^ (n + 1))).1 = KA) (hKB : (knA (flE n A m M) (flN n m) (2 ^ (n + 1))).2 = KB) :
    Calls Try.prog 41 #[.agg #[vA, vM]] w fun e w' => ∃ v u, e = .returned (.tuple #[.agg #[v, u], .int .i64 0]) ∧
      w'.ownsRow w.heap.size 87 6 v n (catC (acC (rfA KA KB A 46)) n) ∧ w'.ownsRow w.heap.size 68 4 u m (catC (mvC (rfM KA KB (2 * n) M 46)) m) ∧ Below w.heap.size w w' := by
  have HK := Lib.hid (fun (W : World) (h : Below w.heap.size w W) => known_ok n A m M vA vM W hn hm hM0 (hA.later h) (hM.later h) hs hR hE hC)
  have HCo := Lib.hid (fun (W : World) (h : Below w.heap.size w W) => copied_any n m A M vA vM W (by omega) (by omega) (hA.later h) (hM.later h))
  rw [hKA, hKB] at HK
  obtain ⟨aA, cA, rfl, h1, h2, h3⟩ := hA
  obtain ⟨aM, cM, rfl, g1, g2, g3⟩ := hM
  clear h3 g3 hR hs hM0 hE hC hKA hKB
  have jX := (Blk.new w #[.slice aA n cA, .slice aM m cM] 44).alloc (.cells #[.slice none 0 0, .slice none 0 0] 44)
  have jT := Blk.new1 w (.cells #[.slice aA n cA, .slice aM m cM] 44) #[.slice none 0 0, .slice none 0 0] 44
  have jB : Below w.heap.size w ((w.alloc (.cells #[.slice aA n cA, .slice aM m cM] 44)).alloc (.cells #[.slice none 0 0, .slice none 0 0] 44)) := by (repeat (first | exact Below.refl _ _ | assumption | refine Below.drew ?_ | refine Below.drewN ?_ _ | refine blT ?_ | refine blU ?_))
  have hNle : 46 ≤ flN n m ∨ flN n m < 46 := by omega
  have hN2 : 2 * n + m < flN n m := by unfold flN; omega
  obtain ⟨N, hNN⟩ : ∃ N, flN n m = N := ⟨_, rfl⟩
  rw [hNN] at HK hN2
  clear hNN hNle
  go_enter Try.func41, Try.ntmps41
  go_wp2_with fail
  refine (HK.out _ jB).mono ?_
  rintro e w1 ⟨bk, cap, rfl, q1, q2, q3, hK, hb⟩
  replace jX := jX.call hb
  replace jT := jT.call hb
  replace jB := bwS jB (Nat.le_refl _) hb
  clear hb HK
  simp only [World.size_alloc] at q3
  obtain ⟨x0, x1⟩ := jX.c2
  have zX := jX.lt
  go_wp2_with fail
  refine (HCo.out _ jB).mono ?_
  rintro e w2 ⟨v, u, rfl, rA, rM, hb⟩
  have zbk := hK.lt
  replace jX := jX.call hb
  replace jT := jT.call hb
  replace hK := hK.later hb
  replace jB := bwS jB (Nat.le_refl _) hb
  obtain ⟨B0, hB0⟩ : ∃ B, w1.heap.size = B := ⟨_, rfl⟩
  have zw : w.heap.size + 1 < B0 := by omega
  rw [hB0] at rA rM zbk
  clear hb HCo x0 x1 zX hB0
  obtain ⟨aA', cA', rfl, fA1, fA2, fA3⟩ := row_at rA (by omega)
  obtain ⟨gA, eA, -⟩ := fA3 (by omega)
  obtain ⟨aM', cM', rfl, fM1, fM2, fM3⟩ := row_at rM (by omega)
  subst eA
  obtain ⟨r0, r1⟩ := jX.c2
  have f0 := jX.free 0
  have f1 := jX.free 1
  have zX := jX.lt
  have hgM : ∃ gM, (0 < m → aM' = some ⟨gM, 0, none⟩) ∧ (Value.slice aM' m cM').ownBlock ≠ some gA := by
    have ne : (Value.slice aM' m cM').ownBlock ≠ some gA := by
      intro e
      obtain ⟨_, h2⟩ := rA
      obtain ⟨_, h3⟩ := rM
      rcases h2 with ⟨e1, _⟩ | ⟨g, c, cur, e1, _, hc1, _⟩
      · simp at e1
      · rcases h3 with ⟨e2, _⟩ | ⟨g2, c2, cur2, e2, _, hc2, _⟩
        · rw [e2] at e; simp [Value.ownBlock] at e
        · rw [e2] at e
          simp only [Value.ownBlock, Option.some.injEq] at e
          simp only [Value.slice.injEq, Option.some.injEq, Addr.mk.injEq] at e1
          rw [e, e1.1.1] at hc2
          rw [hc1] at hc2
          simp at hc2
    by_cases h : 0 < m
    · obtain ⟨_, h3⟩ := rM
      rcases h3 with ⟨e2, e3⟩ | ⟨g2, c2, cur2, e2, _⟩
      · omega
      · simp only [Value.slice.injEq] at e2
        exact ⟨g2, fun _ => e2.1, ne⟩
    · exact ⟨0, fun h' => absurd h' h, ne⟩
  obtain ⟨gM, hgM, hneM⟩ := hgM
  have zgA := (row_free rA).2.1
  have JX := Lib.hid ((jX.set 0 (.slice (some ⟨gA, 0, none⟩) n cA')).set 1 (.slice aM' m cM'))
  have JT := Lib.hid ((jT.setOther (c := w.heap.size) (by omega) 0 (.slice (some ⟨gA, 0, none⟩) n cA')).setOther (c := w.heap.size) (by omega) 1 (.slice aM' m cM'))
  have JK := Lib.hid (hK.other2 (c := w.heap.size) (by omega) 0 1 (.slice (some ⟨gA, 0, none⟩) n cA') (.slice aM' m cM'))
  have RA := Lib.hid (row_other2 rA (b := w.heap.size) (by intro e; simp only [Value.ownBlock, Option.some.injEq] at e; omega) 0 1 (.slice (some ⟨gA, 0, none⟩) n cA') (.slice aM' m cM'))
  have RM := Lib.hid (row_other2 rM (b := w.heap.size) (by intro e; have := (rM.lt _ e).1; omega) 0 1 (.slice (some ⟨gA, 0, none⟩) n cA') (.slice aM' m cM'))
  have JB := Lib.hid ((jB.setCell (p := ⟨w.heap.size, 0, none⟩) (by simp) (.slice (some ⟨gA, 0, none⟩) n cA')).setCell (p := ⟨w.heap.size, 1, none⟩) (by simp) (.slice aM' m cM'))
  clear jX jT hK jB rA rM
  have HSp := Lib.hid (fun (W : World) => spans_any n m gA 0 cA' gM 0 cM' aM' W hn hm ⟨fA1, fA2⟩ ⟨fM1, fM2⟩ hgM)
  go_wp2_with fail
  clear r0 r1 f0 f1 zX
  have jX := JX.out
  have jT := JT.out
  have hK := JK.out
  have rA := RA.out
  have rM := RM.out
  have jB := JB.out
  clear JX JT JK RA RM JB
  obtain ⟨V, hV⟩ : ∃ V, Blk.wld jX = V := ⟨_, rfl⟩
  simp only [Blk.wld] at hV
  rw [hV] at jX jT hK rA rM jB ⊢
  clear hV
  refine (HSp.out _).mono ?_
  rintro e w3 ⟨C, rfl, hs, hc, hb⟩
  replace jX := jX.call hb
  replace jT := jT.call hb
  replace hK := hK.later hb
  replace rA := row_call rA hb
  replace rM := row_call rM hb
  replace jB := bwS jB (Nat.le_refl _) hb
  have HCc := Lib.hid hc
  have e0 : (fun i => acC (rfA KA KB A 0) i) = acC A := funext fun i => by unfold acC; rw [rfA_0]
  have e1 : (fun i => mvC (rfM KA KB (2 * n) M 0) i) = mvC M := funext fun i => by unfold mvC; rw [rfM_0]
  have eA : catC (acC (rfA KA KB A 0)) n = catC (acC A) n := catC_congr n (fun i _ => by unfold acC; rw [rfA_0])
  have eM : catC (mvC (rfM KA KB (2 * n) M 0)) m = catC (mvC M) m := catC_congr m (fun i _ => by unfold mvC; rw [rfM_0])
  rw [← eA] at rA
  rw [← eM] at rM
  have HGM := Lib.hid hgM
  have HNE := Lib.hid hneM
  clear hb HSp hc e0 e1 eA eM fA3 fM3 hgM hneM
  go_wp2_with fail
  go_loopw [21] (fun i wr => ∃ k : Nat, k ≤ 46 ∧ i = .int .i64 k ∧ Blk wr w.heap.size #[.slice (some ⟨gA, 0, none⟩) n cA', .slice aM' m cM'] 44 ∧ Blk wr (w.heap.size + 1) #[.slice none 0 0, .slice none 0 0] 44 ∧ KnAt wr bk N KA KB ∧ wr.ownsRow B0 87 6 (.slice (some ⟨gA, 0, none⟩) n cA') n (catC (acC (rfA KA KB A k)) n) ∧ wr.ownsRow B0 68 4 (.slice aM' m cM') m (catC (mvC (rfM KA KB (2 * n) M k)) m) ∧ Below w.heap.size w wr) (fun i _ => 46 - (intOf i).toNat)
  case atStart => exact ⟨0, by omega, rfl, jX, jT, hK, rA, rM, jB⟩
  case round =>
    clear jX jT hK rA rM jB
    obtain ⟨k, hk, rfl, jX, jT, hK, rA, rM, jB⟩ := hrel
    by_cases hlt : k < 46
    · have hltI : (k : Int) < 46 := by omega
      by_cases c1 : k < 2 * n
      · have hv : C[k]? = some (.pointer (some ⟨gA, ptO k, none⟩)) := by rw [HCc.out k hlt, if_pos (by omega), ptV_a _ _ _ _ _ c1]
        obtain ⟨⟨y0, a0⟩, y1, a1⟩ := row_rf_cells rA c1
        obtain ⟨b0, b1⟩ := hK.cell (i := k) (by omega)
        have fr := (row_free rA).1
        have fr0 := fr (ptO k)
        have fr1 := fr (ptO k + 1)
        have zA := (row_free rA).2.2
        have zK := hK.lt
        have hkN : k < N := by omega
        have hkNI : (k : Int) < N := by omega
        obtain ⟨p, hp⟩ : ∃ p, ptO k = p := ⟨_, rfl⟩
        have RA := Lib.hid (row_rfA rA c1)
        have RM := Lib.hid ((by rw [rfM_row KA KB (2 * n) M k m (by omega)]; exact row_other2 rM HNE.out p (p + 1) (.int .i64 (KA k)) (.int .i64 (KB k))) : (World.setCell (World.setCell wr ⟨gA, p, none⟩ (.int .i64 (KA k))) ⟨gA, p + 1, none⟩ (.int .i64 (KB k))).ownsRow B0 68 4 (.slice aM' m cM') m (catC (mvC (rfM KA KB (2 * n) M (k + 1))) m))
        have zgA' := (row_free rA).2.1
        have JX := Lib.hid ((jX.setOther (c := gA) (by omega) p (.int .i64 (KA k))).setOther (c := gA) (by omega) (p + 1) (.int .i64 (KB k)))
        have JT := Lib.hid ((jT.setOther (c := gA) (by omega) p (.int .i64 (KA k))).setOther (c := gA) (by omega) (p + 1) (.int .i64 (KB k)))
        have JK := Lib.hid (hK.other2 (c := gA) (by omega) p (p + 1) (.int .i64 (KA k)) (.int .i64 (KB k)))
        have JB := Lib.hid ((jB.setCell (p := ⟨gA, p, none⟩) (by show w.heap.size ≤ gA; omega) (.int .i64 (KA k))).setCell (p := ⟨gA, p + 1, none⟩) (by show w.heap.size ≤ gA; omega) (.int .i64 (KB k)))
        rw [hp] at hv a0 a1 fr0 fr1 RA
        have hix := index_pt C k _ hlt hv
        clear fr rA rM jX jT hK jB hp
        generalize KA k = x at *
        generalize KB k = y at *
        go_wp2_with fail
        go_roundw
        case rel => exact ⟨k + 1, by omega, by go_num, JX.out, JT.out, JK.out, RA.out, RM.out, JB.out⟩
        case measure => simp [intOf]; omega
      · by_cases c2 : k < 2 * n + m
        · obtain ⟨j, hkj⟩ : ∃ j, 2 * n + j = k := ⟨k - 2 * n, by omega⟩
          have hj : j < m := by omega
          have hgM := HGM.out (by omega)
          subst hgM
          have hv : C[k]? = some (.pointer (some ⟨gM, j * 4 + 2, none⟩)) := by rw [HCc.out _ hlt, if_pos (by omega), ← hkj, ptV_m]
          obtain ⟨⟨y0, a0⟩, y1, a1⟩ := row_rm_cells rM hj
          obtain ⟨b0, b1⟩ := hK.cell (i := k) (by omega)
          obtain ⟨fr, zgM, zM⟩ := row_free rM
          have hneg : gA ≠ gM := fun e => HNE.out (by rw [e]; rfl)
          obtain ⟨p, hp⟩ : ∃ p, j * 4 + 2 = p := ⟨_, rfl⟩
          have RM0 := row_rfM (P := 2 * n) (j := j) (by rw [hkj]; exact rM) hj
          rw [hkj] at RM0
          have RA := Lib.hid ((by rw [rfA_row KA KB A k n (by omega)]; exact row_other2 rA (by intro e; exact hneg (by simpa [Value.ownBlock] using e)) p (p + 1) (.int .i64 (KA k)) (.int .i64 (KB k))) : (World.setCell (World.setCell wr ⟨gM, p, none⟩ (.int .i64 (KA k))) ⟨gM, p + 1, none⟩ (.int .i64 (KB k))).ownsRow B0 87 6 (.slice (some ⟨gA, 0, none⟩) n cA') n (catC (acC (rfA KA KB A (k + 1))) n))
          have JX := Lib.hid ((jX.setOther (c := gM) (by omega) p (.int .i64 (KA k))).setOther (c := gM) (by omega) (p + 1) (.int .i64 (KB k)))
          have JT := Lib.hid ((jT.setOther (c := gM) (by omega) p (.int .i64 (KA k))).setOther (c := gM) (by omega) (p + 1) (.int .i64 (KB k)))
          have JK := Lib.hid (hK.other2 (c := gM) (by omega) p (p + 1) (.int .i64 (KA k)) (.int .i64 (KB k)))
          have JB := Lib.hid ((jB.setCell (p := ⟨gM, p, none⟩) (by show w.heap.size ≤ gM; omega) (.int .i64 (KA k))).setCell (p := ⟨gM, p + 1, none⟩) (by show w.heap.size ≤ gM; omega) (.int .i64 (KB k)))
          rw [hp] at hv a0 a1 RM0
          have RM := Lib.hid RM0
          clear RM0
          have hix := index_pt C _ _ hlt hv
          have fr0 := fr p
          have fr1 := fr (p + 1)
          have zK := hK.lt
          have hkN : k < N := by omega
          have hkNI : (k : Int) < N := by omega
          have HKJ := Lib.hid hkj
          clear hkj fr rA rM jX jT hK jB hp c2
          generalize KA k = x at *
          generalize KB k = y at *
          go_wp2_with fail
          go_roundw
          case rel => exact ⟨k + 1, by omega, by go_num, JX.out, JT.out, JK.out, RA.out, RM.out, JB.out⟩
          case measure => simp [intOf]; omega
        · have hv : C[k]? = some (.pointer none) := by rw [HCc.out k hlt, if_neg c2]
          have hix := index_pt C k _ hlt hv
          rw [← rfA_row KA KB A k n (by omega)] at rA
          rw [← rfM_row KA KB (2 * n) M k m (by omega)] at rM
          clear c1 c2
          go_wp2_with fail
          go_roundw
          case rel => exact ⟨k + 1, by omega, by go_num, jX, jT, hK, rA, rM, jB⟩
          case measure => simp [intOf]; omega
    · obtain rfl : k = 46 := by omega
      obtain ⟨x0, x1⟩ := jX.c2
      obtain ⟨r0, r1⟩ := jT.c2
      have f0 := jT.free 0
      have f1 := jT.free 1
      have zX := jX.lt
      have zT := jT.lt
      have z0' := (jT.set 0 (.slice (some ⟨gA, 0, none⟩) n cA')).set 1 (.slice aM' m cM')
      obtain ⟨z0, z1⟩ := z0'.c2
      have zgA' := (row_free rA).2.1
      have RA := Lib.hid (row_other2 rA (b := w.heap.size + 1) (by intro e; simp only [Value.ownBlock, Option.some.injEq] at e; omega) 0 1 (.slice (some ⟨gA, 0, none⟩) n cA') (.slice aM' m cM'))
      have RM := Lib.hid (row_other2 rM (b := w.heap.size + 1) (by intro e; have := (rM.lt _ e).1; omega) 0 1 (.slice (some ⟨gA, 0, none⟩) n cA') (.slice aM' m cM'))
      have JB := Lib.hid ((jB.setCell (p := ⟨w.heap.size + 1, 0, none⟩) (by simp) (.slice (some ⟨gA, 0, none⟩) n cA')).setCell (p := ⟨w.heap.size + 1, 1, none⟩) (by simp) (.slice aM' m cM'))
      have Z0 := Lib.hid z0
      have Z1 := Lib.hid z1
      clear z0 z1 z0' rA rM jX jT hK jB
      go_wp2
      exact bodyPost_ret (v := .tuple #[.agg #[.slice (some ⟨gA, 0, none⟩) n cA', .slice aM' m cM'], .int .i64 0]) (by simp [results, Try.results41, go_sem, Z0.out, Z1.out]) rfl ⟨_, _, rfl, ownsRow_base RA.out (by omega), ownsRow_base RM.out (by omega), JB.out⟩
end Go.Proofs.Ytpeogfcfiabcfaa
