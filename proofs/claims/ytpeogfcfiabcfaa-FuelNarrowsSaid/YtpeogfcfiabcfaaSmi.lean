/-
  Same (sastrugikit), of two lists of numbers that say the same; Own, a list of one's own.
-/
import Derived.Test.YtpeogfcfiabcfaaTail
import Derived.Test.YtpeogfcfiabcfaaTab
import Derived.Test.YtpeogfcfiabcfaaRow
set_option linter.unusedVariables false
set_option linter.unusedSimpArgs false
namespace Go.Proofs.Ytpeogfcfiabcfaa
open Go.RowKit

set_option maxRecDepth 100000 in
set_option maxHeartbeats 1000000 in
theorem samei_ok (n : Nat) (A C : Nat → Int) (hAC : ∀ i, i < n → A i = C i) (v v2 : Value) (w : World) (h1 : IntsAt w v n A) (h2 : IntsAt w v2 n C) :
    Calls Try.prog 21 #[v, v2] w fun e w' => e = .returned (.bool true) ∧ Below w.heap.size w w' := by
  obtain ⟨a, c, rfl, p1, p2, p3⟩ := h1
  obtain ⟨a2, c2, rfl, q1, q2, q3⟩ := h2
  have HA := Lib.hid p3
  have HC := Lib.hid q3
  have HE := Lib.hid hAC
  clear p3 q3 hAC
  have e0 : ((n : Int) != n) = false := by simp
  go_enter Try.func21, Try.ntmps21
  go_wp2_with fail
  go_loopw [5] (fun i wr => ∃ k : Nat, k ≤ n ∧ i = .int .i64 k ∧ Below w.heap.size w wr) (fun i _ => n - (intOf i).toNat)
  case atStart => exact ⟨0, Nat.zero_le _, rfl, Below.refl _ _⟩
  case round =>
    obtain ⟨k, hk, rfl, hB⟩ := hrel
    by_cases hlt : k < n
    · obtain ⟨b, o, ha, hc⟩ := HA.out (by omega)
      obtain ⟨b2, o2, ha2, hc2⟩ := HC.out (by omega)
      subst ha ha2
      have hcA : AtC w b o n 1 (inC A) := hc
      have hcC : AtC w b2 o2 n 1 (inC C) := hc2
      clear hc hc2
      have x0 := hcA.c1 hlt rfl
      have y0 := hcC.c1 hlt rfl
      have g1 := HE.out k hlt
      rw [g1] at x0
      clear g1 hcA hcC
      have hltI : (k : Int) < n := by omega
      generalize C k = x at x0 y0
      have HV := Lib.hid (fun (W : World) (hW : Below w.heap.size w W) => And.intro (cell_later hW x0) (cell_later hW y0))
      clear x0 y0
      go_upto_region 6 with fail
      refine wp_region_held_drew (S := (fun wx => Below w.heap.size w wx)) (by kernel_rfl) ?_ (fun hH => ?_)
      · (try dsimp only); (exact hB.drew)
      refine tkY 0 (some 17) ?_ ?_ ?_
      rotate_left
      · intro w _; go_simp; (try with_reducible rfl)
      (try simp only [cq])
      refine tkY 1 (some 18) ?_ ?_ ?_
      rotate_left
      · intro w _; go_simp; (try with_reducible rfl)
      (try simp only [cq])
      refine tkY 2 (some 19) ?_ ?_ ?_
      rotate_left
      · intro w hS0; (try dsimp only at hS0); obtain ⟨r1, r2⟩ := HV.out _ hS0; have y3 := World.block_lt_of_cell? _ _ r1; have y4 := World.block_lt_of_cell? _ _ r2;go_simp; (try with_reducible rfl)
      (try simp only [cq])
      refine tkY 3 (some 20) ?_ ?_ ?_
      rotate_left
      · intro w hS0; (try dsimp only at hS0); obtain ⟨r1, r2⟩ := HV.out _ hS0; have y3 := World.block_lt_of_cell? _ _ r1; have y4 := World.block_lt_of_cell? _ _ r2;go_simp; (try with_reducible rfl)
      (try simp only [cq])
      refine tkY 4 (some 21) ?_ ?_ ?_
      rotate_left
      · intro w _; go_simp; (try with_reducible rfl)
      (try simp only [cq])
      refine tkY 5 (some 22) ?_ ?_ ?_
      rotate_left
      · intro w _; go_simp; (try with_reducible rfl)
      (try simp only [cq])
      refine tkY 6 (some 23) ?_ ?_ ?_
      rotate_left
      · intro w hS0; (try dsimp only at hS0); obtain ⟨r1, r2⟩ := HV.out _ hS0; have y3 := World.block_lt_of_cell? _ _ r1; have y4 := World.block_lt_of_cell? _ _ r2;go_simp; (try with_reducible rfl)
      (try simp only [cq])
      refine tkY 7 (some 24) ?_ ?_ ?_
      rotate_left
      · intro w hS0; (try dsimp only at hS0); obtain ⟨r1, r2⟩ := HV.out _ hS0; have y3 := World.block_lt_of_cell? _ _ r1; have y4 := World.block_lt_of_cell? _ _ r2;go_simp; (try with_reducible rfl)
      (try simp only [cq])
      refine tkY 8 (some 25) ?_ ?_ ?_
      rotate_left
      · intro w _; go_simp; (try with_reducible rfl)
      (try simp only [cq])
      refine wpAnyH_done (by kernel_rfl) ?_ _
      (try dsimp only [Act.put])
      (try simp only [cq])
      clear hB
      go_wp2
      go_roundw
      case rel => exact ⟨k + 1, by omega, by go_num, hH⟩
      case measure => simp [intOf]; omega
    · obtain rfl : k = n := by omega
      go_wp2
      go_ret
      exact ⟨rfl, hB⟩

theorem append_noints (W : World) (base : Nat) (cap : Nat) {v : Value} {n : Nat} {xs : List Value} (h : W.ownsRow base 3 1 v n xs) :
    (Builtin.append_ #[22, 22] 22 #[v, .slice none 0 cap]).run Try.prog W = .ok v W := by
  obtain ⟨i0, hi0, _, _, _⟩ := info_parts Try.infoInt
  obtain ⟨_, h2⟩ := h
  rcases h2 with ⟨e1, e2⟩ | ⟨g, c, cur, e1, _, _, hle, _⟩
  · subst e1 e2
    simp [Builtin.append_, run_underlying Try.underlying22, sizeOf, typeInfo, hi0, Builtin.lenOf, Builtin.firstCells]
  · subst e1
    simp [Builtin.append_, run_underlying Try.underlying22, sizeOf, typeInfo, hi0, Builtin.lenOf, Builtin.firstCells, hle, storeCells]
theorem inC_news {W : World} {b o m : Nat} {X : Nat → Int} (h : AtC W b o m 1 (inC X)) : ∀ (j : Nat) (u : Value), (catC (inC X) m)[j]? = some u → W.cell? ((⟨b, o, none⟩ : Addr).add j) = some u := by
  intro j u hj
  have hl := catC_len (inC X) 1 m (fun _ _ => rfl)
  have hjm : j < m := by
    have := (List.getElem?_eq_some_iff.1 hj).1
    omega
  have h1 := catC_at (inC X) 1 j 0 (by omega) m (fun _ _ => rfl) hjm
  rw [show j * 1 + 0 = j by omega] at h1
  rw [h1] at hj
  have h2 := h j 0 u hjm hj
  rw [show o + j * 1 + 0 = o + j by omega] at h2
  rw [show (⟨b, o, none⟩ : Addr).add j = ⟨b, o + j, none⟩ by simp [Addr.add]]
  exact h2
theorem inC_one (X : Nat → Int) : ∀ m, ∀ u ∈ catC (inC X) m, u.oneCell' = true
  | 0, u, h => by simp [catC] at h
  | m + 1, u, h => by
    rw [catC, List.mem_append] at h
    rcases h with h | h
    · exact inC_one X m u h
    · exact one1 (X m) u h
set_option maxHeartbeats 1000000 in
theorem append_ints {ops : Array Oper} {rest : List Oper} {o : Oper} {a : Act} {Q : Exit → Act → World → Prop} {W : World} (hgd : o.guard = none) (s x : Operand)
    (ho : o.op = .call { callee := .builtin .append, args := #[s, x], argTypes := #[22, 22] }) (hty : o.type = 22)
    (base : Nat) (v : Value) (n : Nat) (xs : List Value) (hs : a.eval s = v) (hown : W.ownsRow base 3 1 v n xs) (vd : Value) (m : Nat) (X : Nat → Int) (hx : a.eval x = vd) (hd : IntsAt W vd m X) (hm : n + m ≤ 1000000) (hbase : base ≤ W.heap.size)
    (h : ∀ v' w', w'.ownsRow base 3 1 v' (n + m) (xs ++ catC (inC X) m) → W.grownBy w' v.ownBlock → wpList Try.prog ops Q rest (a.put o.dst v') w') : wpList Try.prog ops Q (o :: rest) a W := by
  obtain ⟨i0, hi0, hz0, hz1, hz2⟩ := info_parts Try.infoInt
  obtain ⟨A, cap, rfl, h1, h2, h3⟩ := hd
  cases A with
  | none =>
    obtain rfl : m = 0 := by
      rcases Nat.eq_zero_or_pos m with h0 | h0
      · exact h0
      · obtain ⟨b, q, e, _⟩ := h3 h0
        exact absurd e (by simp)
    refine wpList_plain hgd fun K hK => ?_
    unfold Oper.wp execOp
    simp only [ho, hty, resolve, invoke, builtin, Sem.run_bind, Sem.run_pure, Result.andThen_ok, List.map_toArray, List.map_cons, List.map_nil, hs, hx, append_noints W base cap hown]
    exact hK _ _ (h v W (by simpa [catC] using hown) (World.grownBy.refl W _))
  | some ad =>
    rw [← hty] at ho
    have hlen : ∀ m, (catC (inC X) m).length = m * 1 := fun m => catC_len (inC X) 1 m (fun _ _ => rfl)
    by_cases h0 : 0 < m
    · obtain ⟨b, q, e, hc⟩ := h3 h0
      simp only [Option.some.injEq] at e
      subst e
      have hc' : AtC W b q m 1 (inC X) := hc
      refine wpList_append_own_at W hgd s x _ ho base 3 i0 (.int .i64 0) 1 8 (by rw [hty]; exact Try.underlying22) hi0 hz0 hz1 hz2 rfl (by decide) v n xs hs hown ⟨b, q, none⟩ m cap (catC (inC X) m) hx (hlen m) (inC_news hc') (inC_one X m) (by unfold maxLen; omega) (by omega) hbase (fun v' w' a1 a2 _ _ => h v' w' a1 a2)
    · obtain rfl : m = 0 := by omega
      refine wpList_append_own_at W hgd s x _ ho base 3 i0 (.int .i64 0) 1 8 (by rw [hty]; exact Try.underlying22) hi0 hz0 hz1 hz2 rfl (by decide) v n xs hs hown ad 0 cap (catC (inC X) 0) hx (hlen 0) (fun j u hj => by simp [catC] at hj) (fun u hu => by simp [catC] at hu) (by unfold maxLen; omega) (by omega) hbase (fun v' w' a1 a2 _ _ => h v' w' a1 a2)

set_option maxRecDepth 100000 in
set_option maxHeartbeats 1000000 in
theorem own_any (n : Nat) (hn : n ≤ 1000000) (X : Nat → Int) (v : Value) (w : World) (h : IntsAt w v n X) :
    Calls Try.prog 18 #[v] w fun e w' => ∃ v', e = .returned v' ∧ IntsAt w' v' n X ∧ w'.ownsRow w.heap.size 3 1 v' n (catC (inC X) n) ∧ Below w.heap.size w w' := by
  have jB := bwA (Below.refl w.heap.size w) (Nat.le_refl _) (.cells #[] 3)
  have jO : (w.alloc (.cells #[] 3)).ownsRow w.heap.size 3 1 (.slice (some ⟨w.heap.size, 0, none⟩) 0 0) 0 [] := ⟨rfl, .inr ⟨w.heap.size, 0, #[], rfl, Nat.le_refl _, World.alloc_heap_new w _, Nat.le_refl _, Nat.zero_le _, rfl, rfl⟩⟩
  have hx : IntsAt (w.alloc (.cells #[] 3)) v n X := h.later (bwA (Below.refl w.heap.size w) (Nat.le_refl _) (.cells #[] 3))
  obtain ⟨a, c, rfl, -, -, -⟩ := id h
  clear h
  have HX := Lib.hid hx
  clear hx
  go_enter Try.func18, Try.ntmps18
  go_wp2_with (at_builtin; refine append_ints rfl _ _ rfl rfl w.heap.size _ 0 [] rfl jO _ n X rfl HX.out (by omega) (by simp) ?_; intro own w10 hown' hgrow; simp only [Nat.zero_add, List.nil_append] at hown'; have hb10 : Below w.heap.size w w10 := jB.grown hgrow (by have := jB.size; omega) (fun p e => by have := (jO.lt p e).1; omega); clear hgrow)
  go_ret
  exact ⟨_, rfl, lat_of_row hown' (by omega) (fun _ _ => rfl), hown', hb10⟩
end Go.Proofs.Ytpeogfcfiabcfaa
