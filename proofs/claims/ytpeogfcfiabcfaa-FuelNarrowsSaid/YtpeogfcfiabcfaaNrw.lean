/-
  parter.of, OwnBook (sastrugikit).
  PartOf (sastrugikit): a book with narrower spans, in which a truth still lies.
  Post (package fuel) where the book is valid with one move more, too.
  Narrower books, and a move of no litres more (mathematics).
  FuelNarrows: books with narrower spans, and with a move of no litres more.
-/
import Derived.Test.YtpeogfcfiabcfaaTail
import Derived.Test.YtpeogfcfiabcfaaExa
import Derived.Test.YtpeogfcfiabcfaaSam
set_option linter.unusedVariables false
set_option linter.unusedSimpArgs false
namespace Go.Proofs.Ytpeogfcfiabcfaa
open Go.RowKit

set_option maxRecDepth 100000 in
set_option maxHeartbeats 4000000 in
theorem part_in (lo hi n : Int) (bs : Nat) (w : World) (hs : SeedAt bs w) (h1 : 0 ≤ lo ∧ lo ≤ n) (h2 : n ≤ hi ∧ hi ≤ 1000000000) :
    Calls Try.prog 107 #[.agg #[.pointer (some ⟨bs, 0, none⟩)], .agg #[.int .i64 lo, .int .i64 hi], .int .i64 n] w fun e w' => ∃ x y, e = .returned (.agg #[.int .i64 x, .int .i64 y]) ∧ lo ≤ x ∧ x ≤ n ∧ n ≤ y ∧ y ≤ hi ∧ Drawn bs w w' := by
  have hbs : bs < w.heap.size := hs.choose_spec.lt
  have j3 := ((Blk.new w #[.pointer (some ⟨bs, 0, none⟩)] 134).alloc (.cells #[.int .i64 lo, .int .i64 hi] 26)).alloc (.cells #[.int .i64 0, .int .i64 0] 26)
  have j4 := (Blk.new1 w (.cells #[.pointer (some ⟨bs, 0, none⟩)] 134) #[.int .i64 lo, .int .i64 hi] 26).alloc (.cells #[.int .i64 0, .int .i64 0] 26)
  have j6 := Blk.new2 w (.cells #[.pointer (some ⟨bs, 0, none⟩)] 134) (.cells #[.int .i64 lo, .int .i64 hi] 26) #[.int .i64 0, .int .i64 0] 26
  have hD : Drawn bs w (((w.alloc (.cells #[.pointer (some ⟨bs, 0, none⟩)] 134)).alloc (.cells #[.int .i64 lo, .int .i64 hi] 26)).alloc (.cells #[.int .i64 0, .int .i64 0] 26)) := ((Drawn.alloc hs _).new _).new _
  go_enter Try.func107, Try.ntmps107
  go_upto_region 1 with fail
  have k6 : Two _ (w.heap.size + 1 + 1) 26 := ⟨_, _, j6⟩
  clear j6
  (
 refine wp_region_held_drew (S := (fun W => Blk W w.heap.size #[.pointer (some ⟨bs, 0, none⟩)] 134 ∧ Blk W (w.heap.size + 1) #[.int .i64 lo, .int .i64 hi] 26 ∧ Two W (w.heap.size + 1 + 1) 26 ∧ Drawn bs w W)) (by kernel_rfl) ?_ (fun hH => ?_)
 · (try dsimp only); (exact ⟨j3.drew, j4.drew, k6, hD.trans (Drawn.drew hD.seed)⟩)
 refine tkY 0 (some 7) ?_ ?_ ?_
 rotate_left
 · intro w hS0; (try dsimp only at hS0); obtain ⟨k3, k4, _, _⟩ := hS0; have p0 := k3.cell 0 rfl; obtain ⟨c0, c1⟩ := k4.c2; have y1 := k3.lt; have y2 := k4.lt;go_simp; (try with_reducible rfl)
 (try simp only [cq])
 refine tkY 1 (some 8) ?_ ?_ ?_
 rotate_left
 · intro w hS0; (try dsimp only at hS0); obtain ⟨k3, k4, _, _⟩ := hS0; have p0 := k3.cell 0 rfl; obtain ⟨c0, c1⟩ := k4.c2; have y1 := k3.lt; have y2 := k4.lt;go_simp; (try with_reducible rfl)
 (try simp only [cq])
 refine tkY 2 (some 9) ?_ ?_ ?_
 rotate_left
 · intro w hS0; (try dsimp only at hS0); obtain ⟨k3, k4, _, _⟩ := hS0; have p0 := k3.cell 0 rfl; obtain ⟨c0, c1⟩ := k4.c2; have y1 := k3.lt; have y2 := k4.lt;go_simp; (try with_reducible rfl)
 (try simp only [cq])
 refine tkY 3 (some 10) ?_ ?_ ?_
 rotate_left
 · intro w hS0; (try dsimp only at hS0); obtain ⟨k3, k4, _, _⟩ := hS0; have p0 := k3.cell 0 rfl; obtain ⟨c0, c1⟩ := k4.c2; have y1 := k3.lt; have y2 := k4.lt;go_simp; (try with_reducible rfl)
 (try simp only [cq])
 refine tkY 4 (some 11) ?_ ?_ ?_
 rotate_left
 · intro w _; go_simp; (try with_reducible rfl)
 (try simp only [cq])
 refine tkY 6 (some 13) ?_ ?_ ?_
 rotate_left
 · intro w hS0; (try dsimp only at hS0); obtain ⟨k3, k4, _, _⟩ := hS0; have p0 := k3.cell 0 rfl; obtain ⟨c0, c1⟩ := k4.c2; have y1 := k3.lt; have y2 := k4.lt;go_simp; (try with_reducible rfl)
 (try simp only [cq])
 refine tkY 7 (some 14) ?_ ?_ ?_
 rotate_left
 · intro w hS0; (try dsimp only at hS0); obtain ⟨k3, k4, _, _⟩ := hS0; have p0 := k3.cell 0 rfl; obtain ⟨c0, c1⟩ := k4.c2; have y1 := k3.lt; have y2 := k4.lt;go_simp; (try with_reducible rfl)
 (try simp only [cq])
 refine tkY 8 (some 15) ?_ ?_ ?_
 rotate_left
 · intro w _; go_simp; (try with_reducible rfl)
 (try simp only [cq])
 refine tkY 9 (some 16) ?_ ?_ ?_
 rotate_left
 · intro w hS0; (try dsimp only at hS0); obtain ⟨k3, k4, _, _⟩ := hS0; have p0 := k3.cell 0 rfl; obtain ⟨c0, c1⟩ := k4.c2; have y1 := k3.lt; have y2 := k4.lt;go_simp; (try with_reducible rfl)
 (try simp only [cq])
 refine tkY 10 (some 17) ?_ ?_ ?_
 rotate_left
 · intro w hS0; (try dsimp only at hS0); obtain ⟨k3, k4, _, _⟩ := hS0; have p0 := k3.cell 0 rfl; obtain ⟨c0, c1⟩ := k4.c2; have y1 := k3.lt; have y2 := k4.lt;go_simp; (try with_reducible rfl)
 (try simp only [cq])
 refine wpAnyH_ready (rs := [5]) (by kernel_rfl) (by simp) ?_
 refine arc1 (some 12) fun K hK => ?_
 go_simp
 (refine (from_in lo n bs _ hH.2.2.2.seed (by omega) (by omega) (by omega) (by omega)).mono ?_; rintro e w' ⟨x, rfl, a0, a1, hd⟩; replace a1 : x ≤ n := by omega)
 refine hK.out _ _ ?_ ?_
 · (exact ⟨hd.blk hH.1 (by omega), hd.blk hH.2.1 (by omega), two_drawn hH.2.2.1 hd (by omega), hH.2.2.2.trans hd⟩)
 (try clear hH); (try clear hd)
 intro hH
 clear hK K
 (try simp only [cq])
 refine wpAnyH_ready (rs := [11]) (by kernel_rfl) (by simp) ?_
 refine arc1 (some 18) fun K hK => ?_
 go_simp
 (refine (from_in n hi bs _ hH.2.2.2.seed (by omega) (by omega) (by omega) (by omega)).mono ?_; rintro e w' ⟨y, rfl, b0, b1, hd⟩; replace b1 : y ≤ hi := by omega)
 refine hK.out _ _ ?_ ?_
 · (exact ⟨hd.blk hH.1 (by omega), hd.blk hH.2.1 (by omega), two_drawn hH.2.2.1 hd (by omega), hH.2.2.2.trans hd⟩)
 (try clear hH); (try clear hd)
 intro hH
 clear hK K
 (try simp only [cq])
 refine tkY 12 (some 19) ?_ ?_ ?_
 rotate_left
 · intro w _; go_simp; (try with_reducible rfl)
 (try simp only [cq])
 refine wpAnyH_ready (rs := [13]) (by kernel_rfl) (by simp) ?_
 refine arc1 none fun K hK => ?_
 obtain ⟨kX, kY, ⟨t0, t1, kT⟩, kB⟩ := hH
 obtain ⟨r0, r1⟩ := kT.c2
 have f0 := kT.free 0
 have f1 := kT.free 1
 have zT := kT.lt
 have KT := Lib.hid ((kT.set 0 (.int .i64 x)).set 1 (.int .i64 y))
 have KX := Lib.hid (And.intro ((kX.setOther (c := w.heap.size + 1 + 1) (by omega) 0 (.int .i64 x)).setOther (c := w.heap.size + 1 + 1) (by omega) 1 (.int .i64 y)) ((kY.setOther (c := w.heap.size + 1 + 1) (by omega) 0 (.int .i64 x)).setOther (c := w.heap.size + 1 + 1) (by omega) 1 (.int .i64 y)))
 have KB9 := Lib.hid ((kB.set (p := ⟨w.heap.size + 1 + 1, 0, none⟩) (by show _ ≤ w.heap.size + 1 + 1; omega) hbs (.int .i64 x)).set (p := ⟨w.heap.size + 1 + 1, 1, none⟩) (by show _ ≤ w.heap.size + 1 + 1; omega) hbs (.int .i64 y))
 go_simp
 refine hK.out _ _ ?_ ?_
 · exact ⟨KX.out.1, KX.out.2, ⟨_, _, KT.out⟩, KB9.out⟩
 (try clear hH); (try clear hd)
 intro hH
 clear hK K
 (try simp only [cq])
 refine wpAnyH_done (by kernel_rfl) ?_ _
 (try dsimp only [Act.put])
 (try simp only [cq])
 clear hH r0 r1 f0 f1 zT
 obtain ⟨z0, z1⟩ := KT.out.c2
 go_wp2
 exact bodyPost_ret (v := .agg #[.int .i64 x, .int .i64 y]) (by simp [results, Try.results107, go_sem, z0, z1]) rfl ⟨x, y, rfl, a0, a1, b0, b1, KB9.out⟩ )
theorem run_app_ac (W : World) (base g : Nat) (hb : base ≤ g) (k : Blk W g #[] 87) (vd : Value) (m : Nat) (A : Nat → Ac) (hd : LAt W vd m 6 (acC A)) (hm : m ≤ 1000) (hbase : base ≤ W.heap.size) :
    ∃ a c W', (Builtin.append_ #[41, 41] 41 #[.slice (some ⟨g, 0, none⟩) 0 0, vd]).run Try.prog W = .ok (.slice a m c) W' ∧ W'.ownsRow base 87 6 (.slice a m c) m (catC (acC A) m) ∧ W.grownBy W' (some g) := by
  obtain ⟨i0, hi0, hz0, hz1, hz2⟩ := info_parts Try.infoAccount
  have hown : W.ownsRow base 87 6 (.slice (some ⟨g, 0, none⟩) 0 0) 0 [] := ⟨rfl, .inr ⟨g, 0, #[], rfl, hb, k, Nat.le_refl _, Nat.zero_le _, rfl, rfl⟩⟩
  have hl : (catC (acC A) m).length = m * 6 := catC_len _ _ _ (fun _ _ => rfl)
  have ho1 : ∀ u ∈ catC (acC A) m, u.oneCell' = true := cat_one (fun i => one6 _ _ _ _ _ _) m
  obtain ⟨A9, cap, rfl, h1, h2, h3⟩ := hd
  have fin : ∀ v' W', W'.ownsRow base 87 6 v' (0 + m) ([] ++ catC (acC A) m) → W.grownBy W' (some g) → (Builtin.append_ #[41, 41] 41 #[.slice (some ⟨g, 0, none⟩) 0 0, .slice A9 m cap]).run Try.prog W = .ok v' W' → ∃ a c W', (Builtin.append_ #[41, 41] 41 #[.slice (some ⟨g, 0, none⟩) 0 0, .slice A9 m cap]).run Try.prog W = .ok (.slice a m c) W' ∧ W'.ownsRow base 87 6 (.slice a m c) m (catC (acC A) m) ∧ W.grownBy W' (some g) := fun v' W' r gr e => by
    simp only [Nat.zero_add, List.nil_append] at r
    obtain ⟨a, c, rfl, -⟩ := row_at r (by omega)
    exact ⟨a, c, W', e, r, gr⟩
  cases A9 with
  | none =>
    obtain rfl : m = 0 := by
      rcases Nat.eq_zero_or_pos m with h0 | h0
      · exact h0
      · obtain ⟨b, q, e, _⟩ := h3 h0
        exact absurd e (by simp)
    exact fin _ W hown (World.grownBy.refl W _) (ac_nothing W base cap hown)
  | some ad =>
    have hnews : ∀ (j : Nat) (u : Value), (catC (acC A) m)[j]? = some u → W.cell? (ad.add j) = some u := by
      rcases Nat.eq_zero_or_pos m with h0 | h0
      · subst h0; intro j u hj; simp [catC] at hj
      · obtain ⟨b, q, e, hc⟩ := h3 h0
        simp only [Option.some.injEq] at e
        subst e
        exact cat_news hc (by decide) (fun _ _ => rfl)
    obtain ⟨v', W', hr, q2, q3, -, -⟩ := run_append_own_at (P := Try.prog) W base 41 41 87 i0 (.agg #[.string ⟨#[]⟩, .int .i64 0, .int .i64 0, .int .i64 0, .int .i64 0, .int .i64 0]) 6 56 Try.underlying41 hi0 hz0 hz1 hz2 rfl (by decide) _ 0 [] hown ad m cap (catC (acC A) m) hl hnews ho1 (by unfold maxLen; omega) (by omega) hbase
    exact fin v' W' q2 q3 hr
theorem run_app_mv (W : World) (base g : Nat) (hb : base ≤ g) (k : Blk W g #[] 68) (vd : Value) (m : Nat) (A : Nat → Mv) (hd : LAt W vd m 4 (mvC A)) (hm : m ≤ 1000) (hbase : base ≤ W.heap.size) :
    ∃ a c W', (Builtin.append_ #[42, 42] 42 #[.slice (some ⟨g, 0, none⟩) 0 0, vd]).run Try.prog W = .ok (.slice a m c) W' ∧ W'.ownsRow base 68 4 (.slice a m c) m (catC (mvC A) m) ∧ W.grownBy W' (some g) := by
  obtain ⟨i0, hi0, hz0, hz1, hz2⟩ := info_parts Try.infoMove
  have hown : W.ownsRow base 68 4 (.slice (some ⟨g, 0, none⟩) 0 0) 0 [] := ⟨rfl, .inr ⟨g, 0, #[], rfl, hb, k, Nat.le_refl _, Nat.zero_le _, rfl, rfl⟩⟩
  have hl : (catC (mvC A) m).length = m * 4 := catC_len _ _ _ (fun _ _ => rfl)
  have ho1 : ∀ u ∈ catC (mvC A) m, u.oneCell' = true := cat_one (fun i => one4 _ _ _ _) m
  obtain ⟨A9, cap, rfl, h1, h2, h3⟩ := hd
  have fin : ∀ v' W', W'.ownsRow base 68 4 v' (0 + m) ([] ++ catC (mvC A) m) → W.grownBy W' (some g) → (Builtin.append_ #[42, 42] 42 #[.slice (some ⟨g, 0, none⟩) 0 0, .slice A9 m cap]).run Try.prog W = .ok v' W' → ∃ a c W', (Builtin.append_ #[42, 42] 42 #[.slice (some ⟨g, 0, none⟩) 0 0, .slice A9 m cap]).run Try.prog W = .ok (.slice a m c) W' ∧ W'.ownsRow base 68 4 (.slice a m c) m (catC (mvC A) m) ∧ W.grownBy W' (some g) := fun v' W' r gr e => by
    simp only [Nat.zero_add, List.nil_append] at r
    obtain ⟨a, c, rfl, -⟩ := row_at r (by omega)
    exact ⟨a, c, W', e, r, gr⟩
  cases A9 with
  | none =>
    obtain rfl : m = 0 := by
      rcases Nat.eq_zero_or_pos m with h0 | h0
      · exact h0
      · obtain ⟨b, q, e, _⟩ := h3 h0
        exact absurd e (by simp)
    exact fin _ W hown (World.grownBy.refl W _) (mv_nothing W base cap hown)
  | some ad =>
    have hnews : ∀ (j : Nat) (u : Value), (catC (mvC A) m)[j]? = some u → W.cell? (ad.add j) = some u := by
      rcases Nat.eq_zero_or_pos m with h0 | h0
      · subst h0; intro j u hj; simp [catC] at hj
      · obtain ⟨b, q, e, hc⟩ := h3 h0
        simp only [Option.some.injEq] at e
        subst e
        exact cat_news hc (by decide) (fun _ _ => rfl)
    obtain ⟨v', W', hr, q2, q3, -, -⟩ := run_append_own_at (P := Try.prog) W base 42 42 68 i0 (.agg #[.int .i64 0, .int .i64 0, .int .i64 0, .int .i64 0]) 4 32 Try.underlying42 hi0 hz0 hz1 hz2 rfl (by decide) _ 0 [] hown ad m cap (catC (mvC A) m) hl hnews ho1 (by unfold maxLen; omega) (by omega) hbase
    exact fin v' W' q2 q3 hr
theorem two_alloc {w : World} {b : Nat} {t : TypeId} (h : Two w b t) (o : Obj) : Two (w.alloc o) b t := by
  obtain ⟨x, y, h⟩ := h
  exact ⟨x, y, h.alloc o⟩
theorem two_grown {w w' : World} {r : Option Nat} {b : Nat} {t : TypeId} (h : Two w b t) (g : w.grownBy w' r) (hr : ∀ k, r = some k → b ≠ k) : Two w' b t := by
  obtain ⟨x, y, h⟩ := h
  exact ⟨x, y, h.grown3 g hr⟩
theorem row_blk_ne {W : World} {base s n b : Nat} {e t : TypeId} {v : Value} {xs : List Value} {C : Array Value} (h : W.ownsRow base e s v n xs) (k : Blk W b C t) (ht : t ≠ e) : v.ownBlock ≠ some b := fun q => blk_row_ne2 k h ht b q rfl
set_option maxRecDepth 100000 in
set_option maxHeartbeats 4000000 in
theorem ownbook_any (n m : Nat) (A : Nat → Ac) (M : Nat → Mv) (vA vM : Value) (w : World) (hn : n ≤ 1000) (hm : m ≤ 1000) (hA : AcsAt w vA n A) (hM : MvsAt w vM m M) :
    Calls Try.prog 30 #[.agg #[vA, vM]] w fun e w' => ∃ v u, e = .returned (.agg #[v, u]) ∧ w'.ownsRow w.heap.size 87 6 v n (catC (acC A) n) ∧ w'.ownsRow w.heap.size 68 4 u m (catC (mvC M) m) ∧ Below w.heap.size w w' := by
  obtain ⟨aA, cA, rfl, -, -, -⟩ := id hA
  obtain ⟨aM, cM, rfl, -, -, -⟩ := id hM
  have LA := Lib.hid (fun (W : World) (h : Below w.heap.size w W) => hA.later h)
  have LM := Lib.hid (fun (W : World) (h : Below w.heap.size w W) => hM.later h)
  clear hA hM
  have jX := (Blk.new w #[.slice aA n cA, .slice aM m cM] 44).alloc (.cells #[.slice none 0 0, .slice none 0 0] 44)
  have jT := Blk.new1 w (.cells #[.slice aA n cA, .slice aM m cM] 44) #[.slice none 0 0, .slice none 0 0] 44
  have jB : Below w.heap.size w ((w.alloc (.cells #[.slice aA n cA, .slice aM m cM] 44)).alloc (.cells #[.slice none 0 0, .slice none 0 0] 44)) := by (repeat (first | exact Below.refl _ _ | assumption | refine Below.drew ?_ | refine Below.drewN ?_ _ | refine blT ?_ | refine blU ?_))
  go_enter Try.func30, Try.ntmps30
  go_upto_region 1 with fail
  have kT : Two _ (w.heap.size + 1) 44 := ⟨_, _, jT⟩
  clear jT
  obtain ⟨V0, hV0⟩ : ∃ V, Blk.wld jX = V := ⟨_, rfl⟩
  simp only [Blk.wld] at hV0
  rw [hV0] at jX kT jB ⊢
  clear hV0
  (
 refine wp_region_held_drew (S := (fun w' => Blk w' w.heap.size #[.slice aA n cA, .slice aM m cM] 44 ∧ Two w' (w.heap.size + 1) 44 ∧ Below w.heap.size w w')) (by kernel_rfl) ?_ (fun hH => ?_)
 · (try dsimp only); (exact ⟨jX.drew, kT, jB.drew⟩)
 refine tkY 1 (some 4) ?_ ?_ ?_
 rotate_left
 · intro w hS0; (try dsimp only at hS0); obtain ⟨k1, _, _⟩ := hS0; obtain ⟨c0, c1⟩ := k1.c2; have y1 := k1.lt;go_simp; (try with_reducible rfl)
 (try simp only [cq])
 refine tkY 2 (some 5) ?_ ?_ ?_
 rotate_left
 · intro w hS0; (try dsimp only at hS0); obtain ⟨k1, _, _⟩ := hS0; obtain ⟨c0, c1⟩ := k1.c2; have y1 := k1.lt;go_simp; (try with_reducible rfl)
 (try simp only [cq])
 refine tkY 5 (some 8) ?_ ?_ ?_
 rotate_left
 · intro w hS0; (try dsimp only at hS0); obtain ⟨k1, _, _⟩ := hS0; obtain ⟨c0, c1⟩ := k1.c2; have y1 := k1.lt;go_simp; (try with_reducible rfl)
 (try simp only [cq])
 refine tkY 6 (some 9) ?_ ?_ ?_
 rotate_left
 · intro w hS0; (try dsimp only at hS0); obtain ⟨k1, _, _⟩ := hS0; obtain ⟨c0, c1⟩ := k1.c2; have y1 := k1.lt;go_simp; (try with_reducible rfl)
 (try simp only [cq])
 refine wpAnyH_ready (rs := [0, 4]) (by kernel_rfl) (by simp) ?_
 refine arc (some 3) (fun K hK => ?_) ?_
 {
 have zb0 := two_lt hH.2.1
 go_simp
 first | refine oA hK ?_ (fun hH hA => ?_) | refine oD hK ?_ (fun hH hA => ?_)
 · exact ⟨hH.1.alloc _, two_alloc hH.2.1 _, bwA hH.2.2 (Nat.le_refl _) _⟩
 obtain ⟨b0, hbA⟩ : ∃ b, Blk.num hA = b := ⟨_, rfl⟩
 obtain ⟨V, hV⟩ : ∃ V, Blk.wld hA = V := ⟨_, rfl⟩
 simp only [Blk.num] at hbA
 simp only [Blk.wld] at hV
 (try first | replace kb4 := awB hV kb4 | replace kb4 := awD hV kb4)
 rw [hV] at hH hA ⊢
 rw [hbA] at hA ⊢
 replace zb0 : w.heap.size + 1 + 1 ≤ b0 := (by rw [← hbA]; exact zb0)
 clear hV hbA
 have kb0 := hA
 clear hA
 clear hK K
 (try simp only [cq])
 refine wpAnyH_ready (rs := [3, 4]) (by kernel_rfl) (by simp) ?_
 refine arc (some 6) (fun K hK => ?_) ?_
 {
 rw [if_pos (by rfl)]
 obtain ⟨a3, c3, w83, hr, r3, hgrow⟩ := run_app_ac _ w.heap.size b0 (by omega) kb0 _ _ _ (LA.out _ hH.2.2) (by omega) hH.2.2.size
 simp only [Oper.wp, execOp, resolve, invoke, builtin, Sem.run_bind, Sem.run_pure, Result.andThen_ok, List.map_toArray, List.map_cons, List.map_nil]
 change Oper.upon _ _ _ _ _ ((Sem.run Try.prog (Builtin.append_ #[41, 41] 41 #[.slice (some ⟨b0, 0, none⟩) 0 0, .slice aA n cA]) _).andThen _)
 rw [hr]
 have HG := Lib.hid (And.intro (hH.1.grown3 hgrow (fun q e => by have := Option.some.inj e; omega)) (And.intro (two_grown hH.2.1 hgrow (fun q e => by have := Option.some.inj e; omega)) (grown_below hH.2.2 hgrow (fun q e => by have := Option.some.inj e; omega) (Nat.le_refl _))))
 (try replace kb4 := kb4.grown3 hgrow (fun q e => by have := blk_ne kb4 kb0 (by decide); have := Option.some.inj e; omega))
 clear hr hgrow kb0 zb0
 simp only [Result.andThen_ok, Oper.upon]
 refine hK.out _ _ ?_ ?_
 · exact HG.out
 (try clear hH)
 intro hH
 clear hK K
 (try simp only [cq])
 refine wpAnyH_ready (rs := [4]) (by kernel_rfl) (by simp) ?_
 refine arc1 (some 7) fun K hK => ?_
 have zb4 := two_lt hH.2.1
 go_simp
 first | refine oA hK ?_ (fun hH hA => ?_) | refine oD hK ?_ (fun hH hA => ?_)
 · exact ⟨hH.1.alloc _, two_alloc hH.2.1 _, bwA hH.2.2 (Nat.le_refl _) _⟩
 obtain ⟨b4, hbA⟩ : ∃ b, Blk.num hA = b := ⟨_, rfl⟩
 obtain ⟨V, hV⟩ : ∃ V, Blk.wld hA = V := ⟨_, rfl⟩
 simp only [Blk.num] at hbA
 simp only [Blk.wld] at hV
 (try first | replace kb0 := awB hV kb0 | replace kb0 := awD hV kb0)
 (try first | replace r3 := awR hV r3 | replace r3 := awR3 hV r3)
 rw [hV] at hH hA ⊢
 rw [hbA] at hA ⊢
 replace zb4 : w.heap.size + 1 + 1 ≤ b4 := (by rw [← hbA]; exact zb4)
 clear hV hbA
 have kb4 := hA
 clear hA
 clear hK K
 (try simp only [cq])
 refine wpAnyH_ready (rs := [7]) (by kernel_rfl) (by simp) ?_
 refine arc1 (some 10) fun K hK => ?_
 rw [if_pos (by rfl)]
 obtain ⟨a7, c7, w87, hr, r7, hgrow⟩ := run_app_mv _ w.heap.size b4 (by omega) kb4 _ _ _ (LM.out _ hH.2.2) (by omega) hH.2.2.size
 simp only [Oper.wp, execOp, resolve, invoke, builtin, Sem.run_bind, Sem.run_pure, Result.andThen_ok, List.map_toArray, List.map_cons, List.map_nil]
 change Oper.upon _ _ _ _ _ ((Sem.run Try.prog (Builtin.append_ #[42, 42] 42 #[.slice (some ⟨b4, 0, none⟩) 0 0, .slice aM m cM]) _).andThen _)
 rw [hr]
 have HG2 := Lib.hid (And.intro (hH.1.grown3 hgrow (fun q e => by have := Option.some.inj e; omega)) (And.intro (two_grown hH.2.1 hgrow (fun q e => by have := Option.some.inj e; omega)) (grown_below hH.2.2 hgrow (fun q e => by have := Option.some.inj e; omega) (Nat.le_refl _))))
 replace r3 := r3.kept hgrow (.inr (row_blk_ne r3 kb4 (by decide)))
 clear hr hgrow kb4 zb4
 simp only [Result.andThen_ok, Oper.upon]
 refine hK.out _ _ ?_ ?_
 · exact HG2.out
 (try clear hH)
 intro hH
 clear hK K
 (try simp only [cq])
 refine tkY 8 (some 11) ?_ ?_ ?_
 rotate_left
 · intro w _; go_simp; (try with_reducible rfl)
 (try simp only [cq])
 refine wpAnyH_ready (rs := [9]) (by kernel_rfl) (by simp) ?_
 refine arc1 none fun K hK => ?_
 obtain ⟨kX, ⟨t0, t1, kT⟩, kB⟩ := hH
 obtain ⟨s0, s1⟩ := kT.c2
 have f0 := kT.free 0
 have f1 := kT.free 1
 have zT := kT.lt
 have KT := Lib.hid ((kT.set 0 (.slice a3 n c3)).set 1 (.slice a7 m c7))
 have KX := Lib.hid ((kX.setOther (c := w.heap.size + 1) (by omega) 0 (.slice a3 n c3)).setOther (c := w.heap.size + 1) (by omega) 1 (.slice a7 m c7))
 have KB9 := Lib.hid ((kB.setCell (p := ⟨w.heap.size + 1, 0, none⟩) (by simp) (.slice a3 n c3)).setCell (p := ⟨w.heap.size + 1, 1, none⟩) (by simp) (.slice a7 m c7))
 have HRW := Lib.hid (And.intro (row_store (row_store r3 (b := w.heap.size + 1) (o := 0) (u := .slice a3 n c3) (row_blk_ne r3 kT (by decide))) (b := w.heap.size + 1) (o := 1) (u := .slice a7 m c7) (row_blk_ne r3 kT (by decide))) (row_store (row_store r7 (b := w.heap.size + 1) (o := 0) (u := .slice a3 n c3) (row_blk_ne r7 kT (by decide))) (b := w.heap.size + 1) (o := 1) (u := .slice a7 m c7) (row_blk_ne r7 kT (by decide))))
 go_simp
 refine hK.out _ _ ?_ ?_
 · exact ⟨KX.out, ⟨_, _, KT.out⟩, KB9.out⟩
 (try clear hH)
 intro hH
 clear hK K
 (try simp only [cq])
 refine wpAnyH_done (by kernel_rfl) ?_ _
 (try dsimp only [Act.put])
 (try simp only [cq])
 clear hH s0 s1 f0 f1 zT
 obtain ⟨z0, z1⟩ := KT.out.c2
 go_wp2
 exact bodyPost_ret (v := .agg #[.slice a3 n c3, .slice a7 m c7]) (by simp [results, Try.results30, go_sem, z0, z1]) rfl ⟨_, _, rfl, HRW.out.1, HRW.out.2, KB9.out⟩
 }
 refine arc (some 7) (fun K hK => ?_) ?_
 {
 have zb4 := two_lt hH.2.1
 go_simp
 first | refine oA hK ?_ (fun hH hA => ?_) | refine oD hK ?_ (fun hH hA => ?_)
 · exact ⟨hH.1.alloc _, two_alloc hH.2.1 _, bwA hH.2.2 (Nat.le_refl _) _⟩
 obtain ⟨b4, hbA⟩ : ∃ b, Blk.num hA = b := ⟨_, rfl⟩
 obtain ⟨V, hV⟩ : ∃ V, Blk.wld hA = V := ⟨_, rfl⟩
 simp only [Blk.num] at hbA
 simp only [Blk.wld] at hV
 (try first | replace kb0 := awB hV kb0 | replace kb0 := awD hV kb0)
 (try first | replace r3 := awR hV r3 | replace r3 := awR3 hV r3)
 rw [hV] at hH hA ⊢
 rw [hbA] at hA ⊢
 replace zb4 : w.heap.size + 1 + 1 ≤ b4 := (by rw [← hbA]; exact zb4)
 clear hV hbA
 have kb4 := hA
 clear hA
 clear hK K
 (try simp only [cq])
 refine wpAnyH_ready (rs := [3]) (by kernel_rfl) (by simp) ?_
 refine arc1 (some 6) fun K hK => ?_
 rw [if_pos (by rfl)]
 obtain ⟨a3, c3, w83, hr, r3, hgrow⟩ := run_app_ac _ w.heap.size b0 (by omega) kb0 _ _ _ (LA.out _ hH.2.2) (by omega) hH.2.2.size
 simp only [Oper.wp, execOp, resolve, invoke, builtin, Sem.run_bind, Sem.run_pure, Result.andThen_ok, List.map_toArray, List.map_cons, List.map_nil]
 change Oper.upon _ _ _ _ _ ((Sem.run Try.prog (Builtin.append_ #[41, 41] 41 #[.slice (some ⟨b0, 0, none⟩) 0 0, .slice aA n cA]) _).andThen _)
 rw [hr]
 have HG := Lib.hid (And.intro (hH.1.grown3 hgrow (fun q e => by have := Option.some.inj e; omega)) (And.intro (two_grown hH.2.1 hgrow (fun q e => by have := Option.some.inj e; omega)) (grown_below hH.2.2 hgrow (fun q e => by have := Option.some.inj e; omega) (Nat.le_refl _))))
 (try replace kb4 := kb4.grown3 hgrow (fun q e => by have := blk_ne kb4 kb0 (by decide); have := Option.some.inj e; omega))
 clear hr hgrow kb0 zb0
 simp only [Result.andThen_ok, Oper.upon]
 refine hK.out _ _ ?_ ?_
 · exact HG.out
 (try clear hH)
 intro hH
 clear hK K
 (try simp only [cq])
 refine wpAnyH_ready (rs := [7]) (by kernel_rfl) (by simp) ?_
 refine arc1 (some 10) fun K hK => ?_
 rw [if_pos (by rfl)]
 obtain ⟨a7, c7, w87, hr, r7, hgrow⟩ := run_app_mv _ w.heap.size b4 (by omega) kb4 _ _ _ (LM.out _ hH.2.2) (by omega) hH.2.2.size
 simp only [Oper.wp, execOp, resolve, invoke, builtin, Sem.run_bind, Sem.run_pure, Result.andThen_ok, List.map_toArray, List.map_cons, List.map_nil]
 change Oper.upon _ _ _ _ _ ((Sem.run Try.prog (Builtin.append_ #[42, 42] 42 #[.slice (some ⟨b4, 0, none⟩) 0 0, .slice aM m cM]) _).andThen _)
 rw [hr]
 have HG2 := Lib.hid (And.intro (hH.1.grown3 hgrow (fun q e => by have := Option.some.inj e; omega)) (And.intro (two_grown hH.2.1 hgrow (fun q e => by have := Option.some.inj e; omega)) (grown_below hH.2.2 hgrow (fun q e => by have := Option.some.inj e; omega) (Nat.le_refl _))))
 replace r3 := r3.kept hgrow (.inr (row_blk_ne r3 kb4 (by decide)))
 clear hr hgrow kb4 zb4
 simp only [Result.andThen_ok, Oper.upon]
 refine hK.out _ _ ?_ ?_
 · exact HG2.out
 (try clear hH)
 intro hH
 clear hK K
 (try simp only [cq])
 refine tkY 8 (some 11) ?_ ?_ ?_
 rotate_left
 · intro w _; go_simp; (try with_reducible rfl)
 (try simp only [cq])
 refine wpAnyH_ready (rs := [9]) (by kernel_rfl) (by simp) ?_
 refine arc1 none fun K hK => ?_
 obtain ⟨kX, ⟨t0, t1, kT⟩, kB⟩ := hH
 obtain ⟨s0, s1⟩ := kT.c2
 have f0 := kT.free 0
 have f1 := kT.free 1
 have zT := kT.lt
 have KT := Lib.hid ((kT.set 0 (.slice a3 n c3)).set 1 (.slice a7 m c7))
 have KX := Lib.hid ((kX.setOther (c := w.heap.size + 1) (by omega) 0 (.slice a3 n c3)).setOther (c := w.heap.size + 1) (by omega) 1 (.slice a7 m c7))
 have KB9 := Lib.hid ((kB.setCell (p := ⟨w.heap.size + 1, 0, none⟩) (by simp) (.slice a3 n c3)).setCell (p := ⟨w.heap.size + 1, 1, none⟩) (by simp) (.slice a7 m c7))
 have HRW := Lib.hid (And.intro (row_store (row_store r3 (b := w.heap.size + 1) (o := 0) (u := .slice a3 n c3) (row_blk_ne r3 kT (by decide))) (b := w.heap.size + 1) (o := 1) (u := .slice a7 m c7) (row_blk_ne r3 kT (by decide))) (row_store (row_store r7 (b := w.heap.size + 1) (o := 0) (u := .slice a3 n c3) (row_blk_ne r7 kT (by decide))) (b := w.heap.size + 1) (o := 1) (u := .slice a7 m c7) (row_blk_ne r7 kT (by decide))))
 go_simp
 refine hK.out _ _ ?_ ?_
 · exact ⟨KX.out, ⟨_, _, KT.out⟩, KB9.out⟩
 (try clear hH)
 intro hH
 clear hK K
 (try simp only [cq])
 refine wpAnyH_done (by kernel_rfl) ?_ _
 (try dsimp only [Act.put])
 (try simp only [cq])
 clear hH s0 s1 f0 f1 zT
 obtain ⟨z0, z1⟩ := KT.out.c2
 go_wp2
 exact bodyPost_ret (v := .agg #[.slice a3 n c3, .slice a7 m c7]) (by simp [results, Try.results30, go_sem, z0, z1]) rfl ⟨_, _, rfl, HRW.out.1, HRW.out.2, KB9.out⟩
 }
 exact AllReadyH.nil
 }
 refine arc (some 7) (fun K hK => ?_) ?_
 {
 have zb4 := two_lt hH.2.1
 go_simp
 first | refine oA hK ?_ (fun hH hA => ?_) | refine oD hK ?_ (fun hH hA => ?_)
 · exact ⟨hH.1.alloc _, two_alloc hH.2.1 _, bwA hH.2.2 (Nat.le_refl _) _⟩
 obtain ⟨b4, hbA⟩ : ∃ b, Blk.num hA = b := ⟨_, rfl⟩
 obtain ⟨V, hV⟩ : ∃ V, Blk.wld hA = V := ⟨_, rfl⟩
 simp only [Blk.num] at hbA
 simp only [Blk.wld] at hV
 (try first | replace kb0 := awB hV kb0 | replace kb0 := awD hV kb0)
 (try first | replace r3 := awR hV r3 | replace r3 := awR3 hV r3)
 rw [hV] at hH hA ⊢
 rw [hbA] at hA ⊢
 replace zb4 : w.heap.size + 1 + 1 ≤ b4 := (by rw [← hbA]; exact zb4)
 clear hV hbA
 have kb4 := hA
 clear hA
 clear hK K
 (try simp only [cq])
 refine wpAnyH_ready (rs := [0]) (by kernel_rfl) (by simp) ?_
 refine arc1 (some 3) fun K hK => ?_
 have zb0 := two_lt hH.2.1
 go_simp
 first | refine oA hK ?_ (fun hH hA => ?_) | refine oD hK ?_ (fun hH hA => ?_)
 · exact ⟨hH.1.alloc _, two_alloc hH.2.1 _, bwA hH.2.2 (Nat.le_refl _) _⟩
 obtain ⟨b0, hbA⟩ : ∃ b, Blk.num hA = b := ⟨_, rfl⟩
 obtain ⟨V, hV⟩ : ∃ V, Blk.wld hA = V := ⟨_, rfl⟩
 simp only [Blk.num] at hbA
 simp only [Blk.wld] at hV
 (try first | replace kb4 := awB hV kb4 | replace kb4 := awD hV kb4)
 rw [hV] at hH hA ⊢
 rw [hbA] at hA ⊢
 replace zb0 : w.heap.size + 1 + 1 ≤ b0 := (by rw [← hbA]; exact zb0)
 clear hV hbA
 have kb0 := hA
 clear hA
 clear hK K
 (try simp only [cq])
 refine wpAnyH_ready (rs := [3]) (by kernel_rfl) (by simp) ?_
 refine arc1 (some 6) fun K hK => ?_
 rw [if_pos (by rfl)]
 obtain ⟨a3, c3, w83, hr, r3, hgrow⟩ := run_app_ac _ w.heap.size b0 (by omega) kb0 _ _ _ (LA.out _ hH.2.2) (by omega) hH.2.2.size
 simp only [Oper.wp, execOp, resolve, invoke, builtin, Sem.run_bind, Sem.run_pure, Result.andThen_ok, List.map_toArray, List.map_cons, List.map_nil]
 change Oper.upon _ _ _ _ _ ((Sem.run Try.prog (Builtin.append_ #[41, 41] 41 #[.slice (some ⟨b0, 0, none⟩) 0 0, .slice aA n cA]) _).andThen _)
 rw [hr]
 have HG := Lib.hid (And.intro (hH.1.grown3 hgrow (fun q e => by have := Option.some.inj e; omega)) (And.intro (two_grown hH.2.1 hgrow (fun q e => by have := Option.some.inj e; omega)) (grown_below hH.2.2 hgrow (fun q e => by have := Option.some.inj e; omega) (Nat.le_refl _))))
 (try replace kb4 := kb4.grown3 hgrow (fun q e => by have := blk_ne kb4 kb0 (by decide); have := Option.some.inj e; omega))
 clear hr hgrow kb0 zb0
 simp only [Result.andThen_ok, Oper.upon]
 refine hK.out _ _ ?_ ?_
 · exact HG.out
 (try clear hH)
 intro hH
 clear hK K
 (try simp only [cq])
 refine wpAnyH_ready (rs := [7]) (by kernel_rfl) (by simp) ?_
 refine arc1 (some 10) fun K hK => ?_
 rw [if_pos (by rfl)]
 obtain ⟨a7, c7, w87, hr, r7, hgrow⟩ := run_app_mv _ w.heap.size b4 (by omega) kb4 _ _ _ (LM.out _ hH.2.2) (by omega) hH.2.2.size
 simp only [Oper.wp, execOp, resolve, invoke, builtin, Sem.run_bind, Sem.run_pure, Result.andThen_ok, List.map_toArray, List.map_cons, List.map_nil]
 change Oper.upon _ _ _ _ _ ((Sem.run Try.prog (Builtin.append_ #[42, 42] 42 #[.slice (some ⟨b4, 0, none⟩) 0 0, .slice aM m cM]) _).andThen _)
 rw [hr]
 have HG2 := Lib.hid (And.intro (hH.1.grown3 hgrow (fun q e => by have := Option.some.inj e; omega)) (And.intro (two_grown hH.2.1 hgrow (fun q e => by have := Option.some.inj e; omega)) (grown_below hH.2.2 hgrow (fun q e => by have := Option.some.inj e; omega) (Nat.le_refl _))))
 replace r3 := r3.kept hgrow (.inr (row_blk_ne r3 kb4 (by decide)))
 clear hr hgrow kb4 zb4
 simp only [Result.andThen_ok, Oper.upon]
 refine hK.out _ _ ?_ ?_
 · exact HG2.out
 (try clear hH)
 intro hH
 clear hK K
 (try simp only [cq])
 refine tkY 8 (some 11) ?_ ?_ ?_
 rotate_left
 · intro w _; go_simp; (try with_reducible rfl)
 (try simp only [cq])
 refine wpAnyH_ready (rs := [9]) (by kernel_rfl) (by simp) ?_
 refine arc1 none fun K hK => ?_
 obtain ⟨kX, ⟨t0, t1, kT⟩, kB⟩ := hH
 obtain ⟨s0, s1⟩ := kT.c2
 have f0 := kT.free 0
 have f1 := kT.free 1
 have zT := kT.lt
 have KT := Lib.hid ((kT.set 0 (.slice a3 n c3)).set 1 (.slice a7 m c7))
 have KX := Lib.hid ((kX.setOther (c := w.heap.size + 1) (by omega) 0 (.slice a3 n c3)).setOther (c := w.heap.size + 1) (by omega) 1 (.slice a7 m c7))
 have KB9 := Lib.hid ((kB.setCell (p := ⟨w.heap.size + 1, 0, none⟩) (by simp) (.slice a3 n c3)).setCell (p := ⟨w.heap.size + 1, 1, none⟩) (by simp) (.slice a7 m c7))
 have HRW := Lib.hid (And.intro (row_store (row_store r3 (b := w.heap.size + 1) (o := 0) (u := .slice a3 n c3) (row_blk_ne r3 kT (by decide))) (b := w.heap.size + 1) (o := 1) (u := .slice a7 m c7) (row_blk_ne r3 kT (by decide))) (row_store (row_store r7 (b := w.heap.size + 1) (o := 0) (u := .slice a3 n c3) (row_blk_ne r7 kT (by decide))) (b := w.heap.size + 1) (o := 1) (u := .slice a7 m c7) (row_blk_ne r7 kT (by decide))))
 go_simp
 refine hK.out _ _ ?_ ?_
 · exact ⟨KX.out, ⟨_, _, KT.out⟩, KB9.out⟩
 (try clear hH)
 intro hH
 clear hK K
 (try simp only [cq])
 refine wpAnyH_done (by kernel_rfl) ?_ _
 (try dsimp only [Act.put])
 (try simp only [cq])
 clear hH s0 s1 f0 f1 zT
 obtain ⟨z0, z1⟩ := KT.out.c2
 go_wp2
 exact bodyPost_ret (v := .agg #[.slice a3 n c3, .slice a7 m c7]) (by simp [results, Try.results30, go_sem, z0, z1]) rfl ⟨_, _, rfl, HRW.out.1, HRW.out.2, KB9.out⟩
 }
 exact AllReadyH.nil )
end Go.Proofs.Ytpeogfcfiabcfaa

namespace Go.Proofs.Ytpeogfcfiabcfaa
open Go.RowKit

def PtA (n : Nat) (A A2 : Nat → Ac) (O C : Nat → Int) : Prop := ∀ i, i < n → (A2 i).nm = (A i).nm ∧ (A2 i).ki = (A i).ki ∧ (A i).o0 ≤ (A2 i).o0 ∧ (A2 i).o0 ≤ O i ∧ O i ≤ (A2 i).o1 ∧ (A2 i).o1 ≤ (A i).o1 ∧ (A i).c0 ≤ (A2 i).c0 ∧ (A2 i).c0 ≤ C i ∧ C i ≤ (A2 i).c1 ∧ (A2 i).c1 ≤ (A i).c1
def PtM (m : Nat) (M M2 : Nat → Mv) (X : Nat → Int) : Prop := ∀ i, i < m → (M2 i).fr = (M i).fr ∧ (M2 i).tt = (M i).tt ∧ (M i).lo ≤ (M2 i).lo ∧ (M2 i).lo ≤ X i ∧ X i ≤ (M2 i).hi ∧ (M2 i).hi ≤ (M i).hi
theorem PtA.put {n : Nat} {A A2 : Nat → Ac} {O C : Nat → Int} (h : PtA n A A2 O C) {k : Nat} {x y u v : Int} (h1 : (A2 k).o0 ≤ x ∧ x ≤ O k) (h2 : O k ≤ y ∧ y ≤ (A2 k).o1) (h3 : (A2 k).c0 ≤ u ∧ u ≤ C k) (h4 : C k ≤ v ∧ v ≤ (A2 k).c1) : PtA n A (upAc A2 k ⟨(A2 k).nm, (A2 k).ki, x, y, u, v⟩) O C := fun i hi => by
  have a := h i hi
  by_cases e : i = k
  · subst e
    rw [upAc_at]
    refine ⟨a.1, a.2.1, ?_, ?_, ?_, ?_, ?_, ?_, ?_, ?_⟩
    all_goals (dsimp only; omega)
  · rw [upAc_ne _ _ _ _ e]; exact a
theorem PtM.put {m : Nat} {M M2 : Nat → Mv} {X : Nat → Int} (h : PtM m M M2 X) {k : Nat} {x y : Int} (h1 : (M2 k).lo ≤ x ∧ x ≤ X k) (h2 : X k ≤ y ∧ y ≤ (M2 k).hi) : PtM m M (upM M2 k ⟨(M2 k).fr, (M2 k).tt, x, y⟩) X := fun i hi => by
  have a := h i hi
  by_cases e : i = k
  · subst e
    rw [upM_at]
    refine ⟨a.1, a.2.1, ?_, ?_, ?_, ?_⟩
    all_goals (dsimp only; omega)
  · rw [upM_ne _ _ _ _ e]; exact a
structure Pb (w : World) (bs B1 b7 n m gA cA2 : Nat) (aM2 : Option Addr) (cM2 : Nat) (aO aC aX : Option Addr) (cO cC cX : Nat) (O C X : Nat → Int) (A2 : Nat → Ac) (M2 : Nat → Mv) (W : World) : Prop where
  jb : Blk W w.heap.size #[.slice (some ⟨gA, 0, none⟩) n cA2, .slice aM2 m cM2] 44
  jt : Blk W (w.heap.size + 1) #[.slice aO n cO, .slice aC n cC, .slice aX m cX] 46
  jr : Blk W (w.heap.size + 1 + 1) #[.slice none 0 0, .slice none 0 0] 44
  jp : Blk W b7 #[.pointer (some ⟨bs, 0, none⟩)] 134
  rA : W.ownsRow (w.heap.size + 3) 87 6 (.slice (some ⟨gA, 0, none⟩) n cA2) n (catC (acC A2) n)
  rM : W.ownsRow (w.heap.size + 3) 68 4 (.slice aM2 m cM2) m (catC (mvC M2) m)
  rO : W.ownsRow B1 3 1 (.slice aO n cO) n (catC (inC O) n)
  rC : W.ownsRow B1 3 1 (.slice aC n cC) n (catC (inC C) n)
  rX : W.ownsRow B1 3 1 (.slice aX m cX) m (catC (inC X) m)
  hD : Drawn bs w W
section
variable {w W W' : World} {bs B1 b7 n m gA cA2 : Nat} {aM2 : Option Addr} {cM2 : Nat} {aO aC aX : Option Addr} {cO cC cX : Nat} {O C X : Nat → Int} {A2 : Nat → Ac} {M2 : Nat → Mv}
theorem Pb.drawn (h : Pb w bs B1 b7 n m gA cA2 aM2 cM2 aO aC aX cO cC cX O C X A2 M2 W) (hbs : bs < w.heap.size) (hB : bs < B1) (g : Drawn bs W W') : Pb w bs B1 b7 n m gA cA2 aM2 cM2 aO aC aX cO cC cX O C X A2 M2 W' :=
  ⟨g.blk h.jb (by omega), g.blk h.jt (by omega), g.blk h.jr (by omega), g.blk h.jp (seed_ne h.jp h.hD.seed (by decide)), g.row h.rA (by omega), g.row h.rM (by omega), g.row h.rO hB, g.row h.rC hB, g.row h.rX hB, h.hD.trans g⟩
theorem Pb.drew (h : Pb w bs B1 b7 n m gA cA2 aM2 cM2 aO aC aX cO cC cX O C X A2 M2 W) (hbs : bs < w.heap.size) (hB : bs < B1) : Pb w bs B1 b7 n m gA cA2 aM2 cM2 aO aC aX cO cC cX O C X A2 M2 W.drew := h.drawn hbs hB (Drawn.drew h.hD.seed)
theorem Pb.putA (h : Pb w bs B1 b7 n m gA cA2 aM2 cM2 aO aC aX cO cC cX O C X A2 M2 W) (hbs : bs < w.heap.size) {i : Nat} (hi : i < n) (p : Nat) (hp : p + 1 < 6) (x y : Int) (z : Ac) (hz : acC (upAc A2 i z) i = ((acC A2 i).set p (.int .i64 x)).set (p + 1) (.int .i64 y)) :
    Pb w bs B1 b7 n m gA cA2 aM2 cM2 aO aC aX cO cC cX O C X (upAc A2 i z) M2 ((W.setCell ⟨gA, i * 6 + p, none⟩ (.int .i64 x)).setCell ⟨gA, i * 6 + p + 1, none⟩ (.int .i64 y)) := by
  have zg := (row_free' h.rA).1
  have k : ∀ {b s2 n2 : Nat} {t2 : TypeId} {v2 : Value} {x2 : List Value}, W.ownsRow b t2 s2 v2 n2 x2 → t2 ≠ 87 → ((W.setCell ⟨gA, i * 6 + p, none⟩ (.int .i64 x)).setCell ⟨gA, i * 6 + p + 1, none⟩ (.int .i64 y)).ownsRow b t2 s2 v2 n2 x2 := fun r ht => row_store (row_store r (apt_ne (row_apart r h.rA ht))) (apt_ne (row_apart r h.rA ht))
  have kB : ∀ {b : Nat} {D : Array Value} {t2 : TypeId}, Blk W b D t2 → t2 ≠ 87 → Blk ((W.setCell ⟨gA, i * 6 + p, none⟩ (.int .i64 x)).setCell ⟨gA, i * 6 + p + 1, none⟩ (.int .i64 y)) b D t2 := fun q ht => (q.setOther (blk_row_ne2 q h.rA ht _ rfl) _ _).setOther (blk_row_ne2 q h.rA ht _ rfl) _ _
  exact ⟨kB h.jb (by decide), kB h.jt (by decide), kB h.jr (by decide), kB h.jp (by decide), row_put2 h.rA (fun _ => rfl) (fun _ => rfl) i p hi hp _ _ (fun j hj => by unfold acC; rw [upAc_ne _ _ _ _ hj]) hz, k h.rM (by decide), k h.rO (by decide), k h.rC (by decide), k h.rX (by decide), (h.hD.set (p := ⟨gA, i * 6 + p, none⟩) (by show _ ≤ gA; omega) hbs _).set (p := ⟨gA, i * 6 + p + 1, none⟩) (by show _ ≤ gA; omega) hbs _⟩
theorem Pb.putM {gM : Nat} (h : Pb w bs B1 b7 n m gA cA2 (some ⟨gM, 0, none⟩) cM2 aO aC aX cO cC cX O C X A2 M2 W) (hbs : bs < w.heap.size) {i : Nat} (hi : i < m) (x y : Int) :
    Pb w bs B1 b7 n m gA cA2 (some ⟨gM, 0, none⟩) cM2 aO aC aX cO cC cX O C X A2 (upM M2 i ⟨(M2 i).fr, (M2 i).tt, x, y⟩) ((W.setCell ⟨gM, i * 4 + 2, none⟩ (.int .i64 x)).setCell ⟨gM, i * 4 + 2 + 1, none⟩ (.int .i64 y)) := by
  have zg := (row_free' h.rM).1
  have k : ∀ {b s2 n2 : Nat} {t2 : TypeId} {v2 : Value} {x2 : List Value}, W.ownsRow b t2 s2 v2 n2 x2 → t2 ≠ 68 → ((W.setCell ⟨gM, i * 4 + 2, none⟩ (.int .i64 x)).setCell ⟨gM, i * 4 + 2 + 1, none⟩ (.int .i64 y)).ownsRow b t2 s2 v2 n2 x2 := fun r ht => row_store (row_store r (apt_ne (row_apart r h.rM ht))) (apt_ne (row_apart r h.rM ht))
  have kB : ∀ {b : Nat} {D : Array Value} {t2 : TypeId}, Blk W b D t2 → t2 ≠ 68 → Blk ((W.setCell ⟨gM, i * 4 + 2, none⟩ (.int .i64 x)).setCell ⟨gM, i * 4 + 2 + 1, none⟩ (.int .i64 y)) b D t2 := fun q ht => (q.setOther (blk_row_ne2 q h.rM ht _ rfl) _ _).setOther (blk_row_ne2 q h.rM ht _ rfl) _ _
  exact ⟨kB h.jb (by decide), kB h.jt (by decide), kB h.jr (by decide), kB h.jp (by decide), k h.rA (by decide), row_put2 h.rM (fun _ => rfl) (fun _ => rfl) i 2 hi (by omega) _ _ (fun j hj => by unfold mvC; rw [upM_ne _ _ _ _ hj]) (by unfold mvC; rw [upM_at]; rfl), k h.rO (by decide), k h.rC (by decide), k h.rX (by decide), (h.hD.set (p := ⟨gM, i * 4 + 2, none⟩) (by show _ ≤ gM; omega) hbs _).set (p := ⟨gM, i * 4 + 2 + 1, none⟩) (by show _ ≤ gM; omega) hbs _⟩
end
def Pb.wld {w W : World} {bs B1 b7 n m gA cA2 : Nat} {aM2 : Option Addr} {cM2 : Nat} {aO aC aX : Option Addr} {cO cC cX : Nat} {O C X : Nat → Int} {A2 : Nat → Ac} {M2 : Nat → Mv} (_ : Pb w bs B1 b7 n m gA cA2 aM2 cM2 aO aC aX cO cC cX O C X A2 M2 W) : World := W
theorem upAc_up (A : Nat → Ac) (j : Nat) (x y : Ac) : upAc (upAc A j x) j y = upAc A j y := by
  funext i
  unfold upAc
  by_cases e : i = j
  · rw [if_pos e, if_pos e]
  · rw [if_neg e, if_neg e, if_neg e]
theorem row_acs {W : World} {base : Nat} {t : TypeId} {b n cap : Nat} {A : Nat → Ac} (h : W.ownsRow base t 6 (.slice (some ⟨b, 0, none⟩) n cap) n (catC (acC A) n)) {k : Nat} (hk : k < n) : W.cell? ⟨b, k * 6 + 2, none⟩ = some (.int .i64 (A k).o0) ∧ W.cell? ⟨b, k * 6 + 2 + 1, none⟩ = some (.int .i64 (A k).o1) ∧ W.cell? ⟨b, k * 6 + 3, none⟩ = some (.int .i64 (A k).o1) ∧ W.cell? ⟨b, k * 6 + 4, none⟩ = some (.int .i64 (A k).c0) ∧ W.cell? ⟨b, k * 6 + 4 + 1, none⟩ = some (.int .i64 (A k).c1) ∧ W.cell? ⟨b, k * 6 + 5, none⟩ = some (.int .i64 (A k).c1) := by
  have e : ∀ j (hj : j < 6), W.cell? ⟨b, k * 6 + j, none⟩ = some (acC A k)[j] := fun j hj => by
    rw [h.cellAt (k * 6 + j) (by omega), catC_at (acC A) 6 k j hj n (fun _ _ => rfl) hk]
    exact List.getElem?_eq_getElem (by exact hj)
  exact ⟨e 2 (by omega), e 3 (by omega), e 3 (by omega), e 4 (by omega), e 5 (by omega), e 5 (by omega)⟩
theorem row_mvs {W : World} {base : Nat} {t : TypeId} {b n cap : Nat} {M : Nat → Mv} (h : W.ownsRow base t 4 (.slice (some ⟨b, 0, none⟩) n cap) n (catC (mvC M) n)) {k : Nat} (hk : k < n) : W.cell? ⟨b, k * 4 + 2, none⟩ = some (.int .i64 (M k).lo) ∧ W.cell? ⟨b, k * 4 + 2 + 1, none⟩ = some (.int .i64 (M k).hi) := by
  have e : ∀ j (hj : j < 4), W.cell? ⟨b, k * 4 + j, none⟩ = some (mvC M k)[j] := fun j hj => by
    rw [h.cellAt (k * 4 + j) (by omega), catC_at (mvC M) 4 k j hj n (fun _ _ => rfl) hk]
    exact List.getElem?_eq_getElem (by exact hj)
  exact ⟨e 2 (by omega), e 3 (by omega)⟩
theorem row_addr {W : World} {base s n c : Nat} {t : TypeId} {a : Option Addr} {xs : List Value} (h : W.ownsRow base t s (.slice a n c) n xs) (h0 : 0 < n) : ∃ g, a = some ⟨g, 0, none⟩ := by
  obtain ⟨_, h2⟩ := h
  rcases h2 with ⟨e1, e2⟩ | ⟨g, c', cur, e1, _⟩
  · omega
  · simp only [Value.slice.injEq] at e1
    exact ⟨g, e1.1⟩
set_option maxRecDepth 100000 in
set_option maxHeartbeats 8000000 in
theorem partof_in (bs B1 n m : Nat) (A : Nat → Ac) (M : Nat → Mv) (O C X : Nat → Int) (aA aM aO aC aX : Option Addr) (cA cM cO cC cX : Nat) (w : World) (hs : SeedAt bs w) (hB : bs < B1) (hn1 : 1 ≤ n) (hn : n ≤ 8) (hm : m ≤ 30)
    (hA0 : PtA n A A O C) (hM0 : PtM m M M X) (hAb : ∀ i, i < n → 0 ≤ (A i).o0 ∧ (A i).o1 ≤ 1000000000 ∧ 0 ≤ (A i).c0 ∧ (A i).c1 ≤ 1000000000) (hMb : ∀ i, i < m → 0 ≤ (M i).lo ∧ (M i).hi ≤ 1000000000)
    (rA : w.ownsRow B1 87 6 (.slice aA n cA) n (catC (acC A) n)) (rM : w.ownsRow B1 68 4 (.slice aM m cM) m (catC (mvC M) m)) (rO : w.ownsRow B1 3 1 (.slice aO n cO) n (catC (inC O) n)) (rC : w.ownsRow B1 3 1 (.slice aC n cC) n (catC (inC C) n)) (rX : w.ownsRow B1 3 1 (.slice aX m cX) m (catC (inC X) m)) :
    Calls Try.prog 59 #[.pointer (some ⟨bs, 0, none⟩), .agg #[.slice aA n cA, .slice aM m cM], .agg #[.slice aO n cO, .slice aC n cC, .slice aX m cX]] w fun e w' => ∃ (v u : Value) (A2 : Nat → Ac) (M2 : Nat → Mv), e = .returned (.agg #[v, u]) ∧ PtA n A A2 O C ∧ PtM m M M2 X ∧ w'.ownsRow w.heap.size 87 6 v n (catC (acC A2) n) ∧ w'.ownsRow w.heap.size 68 4 u m (catC (mvC M2) m) ∧ Drawn bs w w' := by
  have hbs : bs < w.heap.size := hs.choose_spec.lt
  have HA0 := Lib.hid (And.intro hA0 hM0)
  have HAb := Lib.hid (And.intro hAb hMb)
  clear hA0 hM0 hAb hMb
  have j4 := ((Blk.new w #[.slice aA n cA, .slice aM m cM] 44).alloc (.cells #[.slice aO n cO, .slice aC n cC, .slice aX m cX] 46)).alloc (.cells #[.slice none 0 0, .slice none 0 0] 44)
  have jt := (Blk.new1 w (.cells #[.slice aA n cA, .slice aM m cM] 44) #[.slice aO n cO, .slice aC n cC, .slice aX m cX] 46).alloc (.cells #[.slice none 0 0, .slice none 0 0] 44)
  have jr := Blk.new2 w (.cells #[.slice aA n cA, .slice aM m cM] 44) (.cells #[.slice aO n cO, .slice aC n cC, .slice aX m cX] 46) #[.slice none 0 0, .slice none 0 0] 44
  have hD : Drawn bs w (((w.alloc (.cells #[.slice aA n cA, .slice aM m cM] 44)).alloc (.cells #[.slice aO n cO, .slice aC n cC, .slice aX m cX] 46)).alloc (.cells #[.slice none 0 0, .slice none 0 0] 44)) := ((Drawn.alloc hs _).new _).new _
  replace rA := hD.row rA hB
  replace rM := hD.row rM hB
  replace rO := hD.row rO hB
  replace rC := hD.row rC hB
  replace rX := hD.row rX hB
  obtain ⟨p0, p1⟩ := j4.c2
  go_enter Try.func59, Try.ntmps59
  go_wp2_with fail
  clear p0 p1
  obtain ⟨V, hV⟩ : ∃ V, Blk.wld j4 = V := ⟨_, rfl⟩
  simp only [Blk.wld] at hV
  rw [hV] at j4 jt jr hD rA rM rO rC rX ⊢
  clear hV
  have zV := jr.lt
  refine (ownbook_any n m A M _ _ V (by omega) (by omega) (lat_of_row rA (by omega) (fun _ _ => rfl)) (lat_of_row rM (by omega) (fun _ _ => rfl))).mono ?_
  rintro e w1 ⟨v, u, rfl, sA, sM, hb⟩
  obtain ⟨aA2, cA2, rfl, -, -, -⟩ := row_at sA (by omega)
  obtain ⟨aM2, cM2, rfl, -, -, -⟩ := row_at sM (by omega)
  obtain ⟨gA, rfl⟩ := row_addr sA (by omega)
  replace sA := ownsRow_base (b1 := w.heap.size + 3) sA (by omega)
  replace sM := ownsRow_base (b1 := w.heap.size + 3) sM (by omega)
  replace j4 := j4.call hb
  replace jt := jt.call hb
  replace jr := jr.call hb
  replace hD := hD.after hb
  replace rO := row_call rO hb
  replace rC := row_call rC hb
  replace rX := row_call rX hb
  have zw1 := hb.size
  clear hb rA rM
  have k4 := (j4.set 0 (.slice (some ⟨gA, 0, none⟩) n cA2)).set 1 (.slice aM2 m cM2)
  have kt := (jt.setOther (c := w.heap.size) (by omega) 0 (.slice (some ⟨gA, 0, none⟩) n cA2)).setOther (c := w.heap.size) (by omega) 1 (.slice aM2 m cM2)
  have kr := (jr.setOther (c := w.heap.size) (by omega) 0 (.slice (some ⟨gA, 0, none⟩) n cA2)).setOther (c := w.heap.size) (by omega) 1 (.slice aM2 m cM2)
  have hne : ∀ {e9 : TypeId} {s9 n9 : Nat} {v9 : Value} {xs : List Value} {b9 : Nat}, w1.ownsRow b9 e9 s9 v9 n9 xs → 44 ≠ e9 → ((w1.setCell ⟨w.heap.size, 0, none⟩ (.slice (some ⟨gA, 0, none⟩) n cA2)).setCell ⟨w.heap.size, 1, none⟩ (.slice aM2 m cM2)).ownsRow b9 e9 s9 v9 n9 xs := fun r h9 => row_store (row_store r (row_blk_ne r j4 h9)) (row_blk_ne r j4 h9)
  have KB := Lib.hid (And.intro k4 (And.intro kt (And.intro kr (And.intro (hne sA (by decide)) (And.intro (hne sM (by decide)) (And.intro (hne rO (by decide)) (And.intro (hne rC (by decide)) (And.intro (hne rX (by decide)) ((hD.set (p := ⟨w.heap.size, 0, none⟩) (by show _ ≤ w.heap.size; omega) hbs (.slice (some ⟨gA, 0, none⟩) n cA2)).set (p := ⟨w.heap.size, 1, none⟩) (by show _ ≤ w.heap.size; omega) hbs (.slice aM2 m cM2))))))))))
  obtain ⟨q0, q1⟩ := j4.c2
  have f0 := j4.free 0
  have f1 := j4.free 1
  have z4 := j4.lt
  clear k4 kt kr hne sA sM rO rC rX hD jt jr j4
  go_upto_region 2 with fail
  clear q0 q1 f0 f1 z4
  obtain ⟨k4, kt, kr, sA, sM, rO, rC, rX, hD⟩ := KB.out
  clear KB
  obtain ⟨V1, hV⟩ : ∃ V, Blk.wld k4 = V := ⟨_, rfl⟩
  simp only [Blk.wld] at hV
  rw [hV] at k4 kt kr sA sM rO rC rX hD ⊢
  clear hV
  have jp := Blk.new V1 #[.pointer (some ⟨bs, 0, none⟩)] 134
  have kb : Pb w bs B1 V1.heap.size n m gA cA2 aM2 cM2 aO aC aX cO cC cX O C X A M (V1.alloc (.cells #[.pointer (some ⟨bs, 0, none⟩)] 134)) := ⟨k4.alloc _, kt.alloc _, kr.alloc _, jp, sA.alloc _, sM.alloc _, rO.alloc _, rC.alloc _, rX.alloc _, hD.new _⟩
  obtain ⟨p0, p1⟩ := kb.jb.c2
  have zb := kb.jb.lt
  go_wp2_with fail
  clear p0 p1 zb k4 kt kr sA sM rO rC rX hD jp
  obtain ⟨b7, hb7⟩ : ∃ b, V1.heap.size = b := ⟨_, rfl⟩
  rw [hb7] at kb ⊢
  obtain ⟨V2, hV⟩ : ∃ V, Pb.wld kb = V := ⟨_, rfl⟩
  simp only [Pb.wld] at hV
  rw [hV] at kb ⊢
  clear hV hb7
  obtain ⟨gO, rfl⟩ := row_addr kb.rO (by omega)
  obtain ⟨gC, rfl⟩ := row_addr kb.rC (by omega)
  go_loopw [8] (fun i wr => ∃ (k : Nat) (A2 : Nat → Ac), k ≤ n ∧ i = .int .i64 k ∧ Pb w bs B1 b7 n m gA cA2 aM2 cM2 (some ⟨gO, 0, none⟩) (some ⟨gC, 0, none⟩) aX cO cC cX O C X A2 M wr ∧ PtA n A A2 O C) (fun i _ => n - (intOf i).toNat)
  case atStart => exact ⟨0, A, by omega, rfl, kb, HA0.out.1⟩
  case round =>
    clear kb
    obtain ⟨k, A2, hkn, rfl, kb, hPA⟩ := hrel
    have HPA := Lib.hid hPA
    clear hPA
    by_cases hlt : k < n
    · have hltI : (k : Int) < n := by omega
      have hP := HPA.out k hlt
      have hPb := HAb.out.1 k hlt
      obtain ⟨x0, hx0⟩ : ∃ z, (A2 k).o0 = z := ⟨_, rfl⟩
      obtain ⟨x1, hx1⟩ : ∃ z, (A2 k).o1 = z := ⟨_, rfl⟩
      obtain ⟨x2, hx2⟩ : ∃ z, (A2 k).c0 = z := ⟨_, rfl⟩
      obtain ⟨x3, hx3⟩ : ∃ z, (A2 k).c1 = z := ⟨_, rfl⟩
      obtain ⟨z0, hz0⟩ : ∃ z, O k = z := ⟨_, rfl⟩
      obtain ⟨z1, hz1⟩ : ∃ z, C k = z := ⟨_, rfl⟩
      have HCA := Lib.hid (fun (W : World) (r : W.ownsRow (w.heap.size + 3) 87 6 (.slice (some ⟨gA, 0, none⟩) n cA2) n (catC (acC A2) n)) => row_acs r hlt)
      have HCO := Lib.hid (fun (W : World) (r : W.ownsRow B1 3 1 (.slice (some ⟨gO, 0, none⟩) n cO) n (catC (inC O) n)) => row_int r hlt)
      have HCC := Lib.hid (fun (W : World) (r : W.ownsRow B1 3 1 (.slice (some ⟨gC, 0, none⟩) n cC) n (catC (inC C) n)) => row_int r hlt)
      have HX := Lib.hid (And.intro hx0 (And.intro hx1 (And.intro hx2 (And.intro hx3 (And.intro hz0 hz1)))))
      rw [hx0, hx1, hx2, hx3] at HCA
      rw [hz0] at HCO
      rw [hz1] at HCC
      have hq : (0 ≤ x0 ∧ x0 ≤ z0 ∧ z0 ≤ x1 ∧ x1 ≤ 1000000000) ∧ 0 ≤ x2 ∧ x2 ≤ z1 ∧ z1 ≤ x3 ∧ x3 ≤ 1000000000 := by omega
      clear hx0 hx1 hx2 hx3 hz0 hz1 hP hPb
      obtain ⟨p0, p1⟩ := kb.jb.c2
      have zb := kb.jb.lt
      obtain ⟨a0, -⟩ := HCA.out _ kb.rA
      have yA := World.block_lt_of_cell? _ _ a0
      go_upto_region 7 with fail
      clear p0 p1 zb a0 yA
      (
 refine region_phs (P1 := (fun W => Blk W b7 #[.pointer (some ⟨bs, 0, none⟩)] 134 ∧ Blk W (w.heap.size + 1) #[.slice (some ⟨gO, 0, none⟩) n cO, .slice (some ⟨gC, 0, none⟩) n cC, .slice aX m cX] 46 ∧ W.ownsRow (w.heap.size + 3) 87 6 (.slice (some ⟨gA, 0, none⟩) n cA2) n (catC (acC A2) n) ∧ W.ownsRow B1 3 1 (.slice (some ⟨gO, 0, none⟩) n cO) n (catC (inC O) n) ∧ W.ownsRow B1 3 1 (.slice (some ⟨gC, 0, none⟩) n cC) n (catC (inC C) n))) (N1 := 26) (P2 := (fun _ => True)) (N2 := 26) (S2 := (fun W => Drawn bs w W)) (by kernel_rfl) ?_ (fun hH => ?_)
 · (try dsimp only); (exact ⟨⟨(kb.drew hbs hB).jp, (kb.drew hbs hB).jt, (kb.drew hbs hB).rA, (kb.drew hbs hB).rO, (kb.drew hbs hB).rC⟩, trivial, (kb.drew hbs hB).hD⟩)
 (try dsimp only at hH)
 refine tkX 0 (some 26) ?_ phC (ph0 hH) ?_ ?_
 rotate_left
 · intro w _; go_simp; (try with_reducible rfl)
 (try simp only [cq])
 refine tkX 1 (some 27) ?_ phC (ph0 hH) ?_ ?_
 rotate_left
 · intro w _; go_simp; (try with_reducible rfl)
 (try simp only [cq])
 refine tkX 2 (some 28) ?_ (phA (by kernel_rfl) (by kernel_rfl)) (ph0 hH) ?_ ?_
 rotate_left
 · intro w hS0; (try dsimp only at hS0); obtain ⟨⟨kP, kT, kA, kO, kC⟩, _, _⟩ := hS0; have c0 := kP.cell 0 rfl; have t0 := kT.cell 0 rfl; have t1 := kT.cell 1 rfl; obtain ⟨a0, a1, -, a2, a3, -⟩ := HCA.out _ kA; have q0 := HCO.out _ kO; have q1 := HCC.out _ kC; have y1 := kP.lt; have y2 := kT.lt; have y3 := World.block_lt_of_cell? _ _ a0; have y4 := World.block_lt_of_cell? _ _ q0; have y5 := World.block_lt_of_cell? _ _ q1;go_simp; (try with_reducible rfl)
 (try simp only [cq])
 refine tkX 3 (some 29) ?_ phC (ph0 hH) ?_ ?_
 rotate_left
 · intro w _; go_simp; (try with_reducible rfl)
 (try simp only [cq])
 refine tkX 4 (some 30) ?_ phC (ph0 hH) ?_ ?_
 rotate_left
 · intro w _; go_simp; (try with_reducible rfl)
 (try simp only [cq])
 refine tkX 5 (some 31) ?_ phC (ph0 hH) ?_ ?_
 rotate_left
 · intro w _; go_simp; (try with_reducible rfl)
 (try simp only [cq])
 refine tkX 6 (some 32) ?_ (phA (by kernel_rfl) (by kernel_rfl)) (ph0 hH) ?_ ?_
 rotate_left
 · intro w hS0; (try dsimp only at hS0); obtain ⟨⟨kP, kT, kA, kO, kC⟩, _, _⟩ := hS0; have c0 := kP.cell 0 rfl; have t0 := kT.cell 0 rfl; have t1 := kT.cell 1 rfl; obtain ⟨a0, a1, -, a2, a3, -⟩ := HCA.out _ kA; have q0 := HCO.out _ kO; have q1 := HCC.out _ kC; have y1 := kP.lt; have y2 := kT.lt; have y3 := World.block_lt_of_cell? _ _ a0; have y4 := World.block_lt_of_cell? _ _ q0; have y5 := World.block_lt_of_cell? _ _ q1;go_simp; (try with_reducible rfl)
 (try simp only [cq])
 refine tkX 7 (some 33) ?_ phC (ph0 hH) ?_ ?_
 rotate_left
 · intro w _; go_simp; (try with_reducible rfl)
 (try simp only [cq])
 refine tkX 8 (some 34) ?_ (phA (by kernel_rfl) (by kernel_rfl)) (ph0 hH) ?_ ?_
 rotate_left
 · intro w hS0; (try dsimp only at hS0); obtain ⟨⟨kP, kT, kA, kO, kC⟩, _, _⟩ := hS0; have c0 := kP.cell 0 rfl; have t0 := kT.cell 0 rfl; have t1 := kT.cell 1 rfl; obtain ⟨a0, a1, -, a2, a3, -⟩ := HCA.out _ kA; have q0 := HCO.out _ kO; have q1 := HCC.out _ kC; have y1 := kP.lt; have y2 := kT.lt; have y3 := World.block_lt_of_cell? _ _ a0; have y4 := World.block_lt_of_cell? _ _ q0; have y5 := World.block_lt_of_cell? _ _ q1;go_simp; (try with_reducible rfl)
 (try simp only [cq])
 refine tkX 9 (some 35) ?_ phC (ph0 hH) ?_ ?_
 rotate_left
 · intro w _; go_simp; (try with_reducible rfl)
 (try simp only [cq])
 refine tkX 10 (some 36) ?_ phC (ph0 hH) ?_ ?_
 rotate_left
 · intro w _; go_simp; (try with_reducible rfl)
 (try simp only [cq])
 refine tkX 11 (some 37) ?_ (phA (by kernel_rfl) (by kernel_rfl)) (ph0 hH) ?_ ?_
 rotate_left
 · intro w hS0; (try dsimp only at hS0); obtain ⟨⟨kP, kT, kA, kO, kC⟩, _, _⟩ := hS0; have c0 := kP.cell 0 rfl; have t0 := kT.cell 0 rfl; have t1 := kT.cell 1 rfl; obtain ⟨a0, a1, -, a2, a3, -⟩ := HCA.out _ kA; have q0 := HCO.out _ kO; have q1 := HCC.out _ kC; have y1 := kP.lt; have y2 := kT.lt; have y3 := World.block_lt_of_cell? _ _ a0; have y4 := World.block_lt_of_cell? _ _ q0; have y5 := World.block_lt_of_cell? _ _ q1;go_simp; (try with_reducible rfl)
 (try simp only [cq])
 refine tkX 13 (some 39) ?_ (phA (by kernel_rfl) (by kernel_rfl)) (ph0 hH) ?_ ?_
 rotate_left
 · intro w hS0; (try dsimp only at hS0); obtain ⟨⟨kP, kT, kA, kO, kC⟩, _, _⟩ := hS0; have c0 := kP.cell 0 rfl; have t0 := kT.cell 0 rfl; have t1 := kT.cell 1 rfl; obtain ⟨a0, a1, -, a2, a3, -⟩ := HCA.out _ kA; have q0 := HCO.out _ kO; have q1 := HCC.out _ kC; have y1 := kP.lt; have y2 := kT.lt; have y3 := World.block_lt_of_cell? _ _ a0; have y4 := World.block_lt_of_cell? _ _ q0; have y5 := World.block_lt_of_cell? _ _ q1;go_simp; (try with_reducible rfl)
 (try simp only [cq])
 refine tkX 14 (some 40) ?_ phC (ph0 hH) ?_ ?_
 rotate_left
 · intro w _; go_simp; (try with_reducible rfl)
 (try simp only [cq])
 refine tkX 15 (some 41) ?_ phC (ph0 hH) ?_ ?_
 rotate_left
 · intro w _; go_simp; (try with_reducible rfl)
 (try simp only [cq])
 refine tkX 16 (some 42) ?_ phC (ph0 hH) ?_ ?_
 rotate_left
 · intro w _; go_simp; (try with_reducible rfl)
 (try simp only [cq])
 refine tkX 17 (some 43) ?_ (phA (by kernel_rfl) (by kernel_rfl)) (ph0 hH) ?_ ?_
 rotate_left
 · intro w hS0; (try dsimp only at hS0); obtain ⟨⟨kP, kT, kA, kO, kC⟩, _, _⟩ := hS0; have c0 := kP.cell 0 rfl; have t0 := kT.cell 0 rfl; have t1 := kT.cell 1 rfl; obtain ⟨a0, a1, -, a2, a3, -⟩ := HCA.out _ kA; have q0 := HCO.out _ kO; have q1 := HCC.out _ kC; have y1 := kP.lt; have y2 := kT.lt; have y3 := World.block_lt_of_cell? _ _ a0; have y4 := World.block_lt_of_cell? _ _ q0; have y5 := World.block_lt_of_cell? _ _ q1;go_simp; (try with_reducible rfl)
 (try simp only [cq])
 refine tkX 18 (some 44) ?_ phC (ph0 hH) ?_ ?_
 rotate_left
 · intro w _; go_simp; (try with_reducible rfl)
 (try simp only [cq])
 refine tkX 19 (some 45) ?_ (phA (by kernel_rfl) (by kernel_rfl)) (ph0 hH) ?_ ?_
 rotate_left
 · intro w hS0; (try dsimp only at hS0); obtain ⟨⟨kP, kT, kA, kO, kC⟩, _, _⟩ := hS0; have c0 := kP.cell 0 rfl; have t0 := kT.cell 0 rfl; have t1 := kT.cell 1 rfl; obtain ⟨a0, a1, -, a2, a3, -⟩ := HCA.out _ kA; have q0 := HCO.out _ kO; have q1 := HCC.out _ kC; have y1 := kP.lt; have y2 := kT.lt; have y3 := World.block_lt_of_cell? _ _ a0; have y4 := World.block_lt_of_cell? _ _ q0; have y5 := World.block_lt_of_cell? _ _ q1;go_simp; (try with_reducible rfl)
 (try simp only [cq])
 refine tkX 20 (some 46) ?_ phC (ph0 hH) ?_ ?_
 rotate_left
 · intro w _; go_simp; (try with_reducible rfl)
 (try simp only [cq])
 refine tkX 21 (some 47) ?_ phC (ph0 hH) ?_ ?_
 rotate_left
 · intro w _; go_simp; (try with_reducible rfl)
 (try simp only [cq])
 refine tkX 22 (some 48) ?_ (phA (by kernel_rfl) (by kernel_rfl)) (ph0 hH) ?_ ?_
 rotate_left
 · intro w hS0; (try dsimp only at hS0); obtain ⟨⟨kP, kT, kA, kO, kC⟩, _, _⟩ := hS0; have c0 := kP.cell 0 rfl; have t0 := kT.cell 0 rfl; have t1 := kT.cell 1 rfl; obtain ⟨a0, a1, -, a2, a3, -⟩ := HCA.out _ kA; have q0 := HCO.out _ kO; have q1 := HCC.out _ kC; have y1 := kP.lt; have y2 := kT.lt; have y3 := World.block_lt_of_cell? _ _ a0; have y4 := World.block_lt_of_cell? _ _ q0; have y5 := World.block_lt_of_cell? _ _ q1;go_simp; (try with_reducible rfl)
 (try simp only [cq])
 refine wpAnyP_ready (rs := [12]) (by kernel_rfl) (by simp) ?_
 refine arcP0 (some 38) (fun K hK => ?_) AllReadyP.nil
 go_simp
 (refine (part_in x0 x1 z0 bs _ hH.2.2.seed ⟨by omega, by omega⟩ ⟨by omega, by omega⟩).mono ?_; rintro e w' ⟨x, y, rfl, d0, d1, d2, d3, hd⟩; replace kb := kb.drawn hbs hB (by first | exact hd | exact (Drawn.drew kb.hD.seed).trans hd); clear hd)
 refine hK.out _ _ ?_ ?_
 · (try dsimp only); exact ⟨⟨kb.jp, kb.jt, kb.rA, kb.rO, kb.rC⟩, trivial, kb.hD⟩
 (try clear hH)
 intro hH
 (try dsimp only at hH)
 clear hK K
 (try simp only [cq])
 refine wpAnyP_ready (rs := [23]) (by kernel_rfl) (by simp) ?_
 refine arcP0 (some 49) (fun K hK => ?_) AllReadyP.nil
 go_simp
 (refine (part_in x2 x3 z1 bs _ hH.2.2.seed ⟨by omega, by omega⟩ ⟨by omega, by omega⟩).mono ?_; rintro e w' ⟨u, v, rfl, e0, e1, e2, e3, hd⟩; replace kb := kb.drawn hbs hB (by first | exact hd | exact (Drawn.drew kb.hD.seed).trans hd); clear hd)
 refine hK.out _ _ ?_ ?_
 · (try dsimp only); exact ⟨⟨kb.jp, kb.jt, kb.rA, kb.rO, kb.rC⟩, trivial, kb.hD⟩
 (try clear hH)
 intro hH
 (try dsimp only at hH)
 clear hK K
 (try simp only [cq])
 refine tkX 24 (some 50) ?_ phC (ph0 hH) ?_ ?_
 rotate_left
 · intro w _; go_simp; (try with_reducible rfl)
 (try simp only [cq])
 refine tkX 25 (some 51) ?_ phC (ph0 hH) ?_ ?_
 rotate_left
 · intro w _; go_simp; (try with_reducible rfl)
 (try simp only [cq])
 refine wpAnyP_ready (rs := [26]) (by kernel_rfl) (by simp) ?_
 refine arcP2 none (fun K hK => ?_) AllReadyP.nil
 obtain ⟨r0, r1, -, r2, r3, -⟩ := HCA.out _ kb.rA
 have fr := (row_free' kb.rA).2.2
 have f2 := fr (k * 6 + 2)
 have f3 := fr (k * 6 + 2 + 1)
 have f4 := fr (k * 6 + 4)
 have f5 := fr (k * 6 + 4 + 1)
 have zRA := (row_free' kb.rA).2.1
 clear fr
 have KB := Lib.hid (kb.putA hbs hlt 2 (by omega) x y ⟨(A2 k).nm, (A2 k).ki, x, y, (A2 k).c0, (A2 k).c1⟩ (by unfold acC; rw [upAc_at]; rfl))
 clear kb
 go_simp
 refine hK.out _ _ ?_ ?_
 · (try dsimp only); exact KB.out.hD
 (try clear hH)
 intro hH
 (try dsimp only at hH)
 clear hK K
 (try simp only [cq])
 refine tkX 27 (some 52) ?_ phC (ph2 hH (by kernel_rfl) (by kernel_rfl)) ?_ ?_
 rotate_left
 · intro w _; go_simp; (try with_reducible rfl)
 (try simp only [cq])
 refine tkX 28 (some 53) ?_ phC (ph2 hH (by kernel_rfl) (by kernel_rfl)) ?_ ?_
 rotate_left
 · intro w _; go_simp; (try with_reducible rfl)
 (try simp only [cq])
 refine wpAnyP_ready (rs := [29]) (by kernel_rfl) (by simp) ?_
 refine arcP2 none (fun K hK => ?_) AllReadyP.nil
 have KB2 := Lib.hid (KB.out.putA hbs hlt 4 (by omega) u v ⟨(A2 k).nm, (A2 k).ki, x, y, u, v⟩ (by unfold acC; rw [upAc_at, upAc_at]; rfl))
 clear KB
 go_simp
 refine hK.out _ _ ?_ ?_
 · (try dsimp only); exact KB2.out.hD
 (try clear hH)
 intro hH
 (try dsimp only at hH)
 clear hK K
 (try simp only [cq])
 refine wpAnyP_done (by kernel_rfl) ?_ _
 (try dsimp only [Act.put])
 (try simp only [cq])
 clear hH r0 r1 r2 r3 f2 f3 f4 f5 zRA
 go_wp2
 go_roundw
 case rel => exact ⟨k + 1, _, by omega, by go_num, KB2.out, by rw [upAc_up]; exact HPA.out.put (by rw [HX.out.1, HX.out.2.2.2.2.1]; exact ⟨d0, d1⟩) (by rw [HX.out.2.1, HX.out.2.2.2.2.1]; exact ⟨d2, d3⟩) (by rw [HX.out.2.2.1, HX.out.2.2.2.2.2]; exact ⟨e0, e1⟩) (by rw [HX.out.2.2.2.1, HX.out.2.2.2.2.2]; exact ⟨e2, e3⟩)⟩
 case measure => simp [intOf]; omega )
    · obtain rfl : k = n := by omega
      obtain ⟨p0, p1⟩ := kb.jb.c2
      have zb := kb.jb.lt
      go_wp2_with fail
      clear p0 p1 zb
      go_loopw [10] (fun i wr => ∃ (j : Nat) (M2 : Nat → Mv), j ≤ m ∧ i = .int .i64 j ∧ Pb w bs B1 b7 k m gA cA2 aM2 cM2 (some ⟨gO, 0, none⟩) (some ⟨gC, 0, none⟩) aX cO cC cX O C X A2 M2 wr ∧ PtM m M M2 X) (fun i _ => m - (intOf i).toNat)
      case atStart => exact ⟨0, M, by omega, rfl, kb, HA0.out.2⟩
      case round =>
        clear kb
        obtain ⟨j, M2, hjm, rfl, kb, hPM⟩ := hrel
        have HPM := Lib.hid hPM
        clear hPM
        by_cases hlt : j < m
        · have hltI : (j : Int) < m := by omega
          obtain ⟨gM, rfl⟩ := row_addr kb.rM (by omega)
          obtain ⟨gX, rfl⟩ := row_addr kb.rX (by omega)
          have hP := HPM.out j hlt
          have hPb := HAb.out.2 j hlt
          obtain ⟨x0, hx0⟩ : ∃ z, (M2 j).lo = z := ⟨_, rfl⟩
          obtain ⟨x1, hx1⟩ : ∃ z, (M2 j).hi = z := ⟨_, rfl⟩
          obtain ⟨z0, hz0⟩ : ∃ z, X j = z := ⟨_, rfl⟩
          have HCM := Lib.hid (fun (W : World) (r : W.ownsRow (w.heap.size + 3) 68 4 (.slice (some ⟨gM, 0, none⟩) m cM2) m (catC (mvC M2) m)) => row_mvs r hlt)
          have HCX := Lib.hid (fun (W : World) (r : W.ownsRow B1 3 1 (.slice (some ⟨gX, 0, none⟩) m cX) m (catC (inC X) m)) => row_int r hlt)
          have HX := Lib.hid (And.intro hx0 (And.intro hx1 hz0))
          rw [hx0, hx1] at HCM
          rw [hz0] at HCX
          have hq : 0 ≤ x0 ∧ x0 ≤ z0 ∧ z0 ≤ x1 ∧ x1 ≤ 1000000000 := by omega
          clear hx0 hx1 hz0 hP hPb
          obtain ⟨p0, p1⟩ := kb.jb.c2
          have zb := kb.jb.lt
          go_upto_region 11 with fail
          clear p0 p1 zb
          (
 refine region_phs (P1 := (fun W => Blk W b7 #[.pointer (some ⟨bs, 0, none⟩)] 134 ∧ Blk W (w.heap.size + 1) #[.slice (some ⟨gO, 0, none⟩) k cO, .slice (some ⟨gC, 0, none⟩) k cC, .slice (some ⟨gX, 0, none⟩) m cX] 46 ∧ Blk W w.heap.size #[.slice (some ⟨gA, 0, none⟩) k cA2, .slice (some ⟨gM, 0, none⟩) m cM2] 44 ∧ W.ownsRow (w.heap.size + 3) 68 4 (.slice (some ⟨gM, 0, none⟩) m cM2) m (catC (mvC M2) m) ∧ W.ownsRow B1 3 1 (.slice (some ⟨gX, 0, none⟩) m cX) m (catC (inC X) m))) (N1 := 18) (P2 := (fun _ => True)) (N2 := 18) (S2 := (fun W => Drawn bs w W)) (by kernel_rfl) ?_ (fun hH => ?_)
 · (try dsimp only); (exact ⟨⟨(kb.drew hbs hB).jp, (kb.drew hbs hB).jt, (kb.drew hbs hB).jb, (kb.drew hbs hB).rM, (kb.drew hbs hB).rX⟩, trivial, (kb.drew hbs hB).hD⟩)
 (try dsimp only at hH)
 refine tkX 0 (some 61) ?_ phC (ph0 hH) ?_ ?_
 rotate_left
 · intro w _; go_simp; (try with_reducible rfl)
 (try simp only [cq])
 refine tkX 1 (some 62) ?_ (phA (by kernel_rfl) (by kernel_rfl)) (ph0 hH) ?_ ?_
 rotate_left
 · intro w hS0; (try dsimp only at hS0); obtain ⟨⟨kP, kT, kJ, kM, kX⟩, _, _⟩ := hS0; have c0 := kP.cell 0 rfl; have t2 := kT.cell 2 rfl; have j1 := kJ.cell 1 rfl; obtain ⟨a0, a1⟩ := HCM.out _ kM; have q0 := HCX.out _ kX; have y1 := kP.lt; have y2 := kT.lt; have y3 := World.block_lt_of_cell? _ _ a0; have y4 := World.block_lt_of_cell? _ _ q0; have y5 := kJ.lt;go_simp; (try with_reducible rfl)
 (try simp only [cq])
 refine tkX 2 (some 63) ?_ phC (ph0 hH) ?_ ?_
 rotate_left
 · intro w _; go_simp; (try with_reducible rfl)
 (try simp only [cq])
 refine tkX 3 (some 64) ?_ (phA (by kernel_rfl) (by kernel_rfl)) (ph0 hH) ?_ ?_
 rotate_left
 · intro w hS0; (try dsimp only at hS0); obtain ⟨⟨kP, kT, kJ, kM, kX⟩, _, _⟩ := hS0; have c0 := kP.cell 0 rfl; have t2 := kT.cell 2 rfl; have j1 := kJ.cell 1 rfl; obtain ⟨a0, a1⟩ := HCM.out _ kM; have q0 := HCX.out _ kX; have y1 := kP.lt; have y2 := kT.lt; have y3 := World.block_lt_of_cell? _ _ a0; have y4 := World.block_lt_of_cell? _ _ q0; have y5 := kJ.lt;go_simp; (try with_reducible rfl)
 (try simp only [cq])
 refine tkX 4 (some 65) ?_ phC (ph0 hH) ?_ ?_
 rotate_left
 · intro w _; go_simp; (try with_reducible rfl)
 (try simp only [cq])
 refine tkX 5 (some 66) ?_ (phA (by kernel_rfl) (by kernel_rfl)) (ph0 hH) ?_ ?_
 rotate_left
 · intro w hS0; (try dsimp only at hS0); obtain ⟨⟨kP, kT, kJ, kM, kX⟩, _, _⟩ := hS0; have c0 := kP.cell 0 rfl; have t2 := kT.cell 2 rfl; have j1 := kJ.cell 1 rfl; obtain ⟨a0, a1⟩ := HCM.out _ kM; have q0 := HCX.out _ kX; have y1 := kP.lt; have y2 := kT.lt; have y3 := World.block_lt_of_cell? _ _ a0; have y4 := World.block_lt_of_cell? _ _ q0; have y5 := kJ.lt;go_simp; (try with_reducible rfl)
 (try simp only [cq])
 refine tkX 6 (some 67) ?_ phC (ph0 hH) ?_ ?_
 rotate_left
 · intro w _; go_simp; (try with_reducible rfl)
 (try simp only [cq])
 refine tkX 7 (some 68) ?_ phC (ph0 hH) ?_ ?_
 rotate_left
 · intro w _; go_simp; (try with_reducible rfl)
 (try simp only [cq])
 refine tkX 8 (some 69) ?_ phC (ph0 hH) ?_ ?_
 rotate_left
 · intro w _; go_simp; (try with_reducible rfl)
 (try simp only [cq])
 refine tkX 9 (some 70) ?_ (phA (by kernel_rfl) (by kernel_rfl)) (ph0 hH) ?_ ?_
 rotate_left
 · intro w hS0; (try dsimp only at hS0); obtain ⟨⟨kP, kT, kJ, kM, kX⟩, _, _⟩ := hS0; have c0 := kP.cell 0 rfl; have t2 := kT.cell 2 rfl; have j1 := kJ.cell 1 rfl; obtain ⟨a0, a1⟩ := HCM.out _ kM; have q0 := HCX.out _ kX; have y1 := kP.lt; have y2 := kT.lt; have y3 := World.block_lt_of_cell? _ _ a0; have y4 := World.block_lt_of_cell? _ _ q0; have y5 := kJ.lt;go_simp; (try with_reducible rfl)
 (try simp only [cq])
 refine tkX 10 (some 71) ?_ phC (ph0 hH) ?_ ?_
 rotate_left
 · intro w _; go_simp; (try with_reducible rfl)
 (try simp only [cq])
 refine tkX 11 (some 72) ?_ (phA (by kernel_rfl) (by kernel_rfl)) (ph0 hH) ?_ ?_
 rotate_left
 · intro w hS0; (try dsimp only at hS0); obtain ⟨⟨kP, kT, kJ, kM, kX⟩, _, _⟩ := hS0; have c0 := kP.cell 0 rfl; have t2 := kT.cell 2 rfl; have j1 := kJ.cell 1 rfl; obtain ⟨a0, a1⟩ := HCM.out _ kM; have q0 := HCX.out _ kX; have y1 := kP.lt; have y2 := kT.lt; have y3 := World.block_lt_of_cell? _ _ a0; have y4 := World.block_lt_of_cell? _ _ q0; have y5 := kJ.lt;go_simp; (try with_reducible rfl)
 (try simp only [cq])
 refine tkX 12 (some 73) ?_ phC (ph0 hH) ?_ ?_
 rotate_left
 · intro w _; go_simp; (try with_reducible rfl)
 (try simp only [cq])
 refine tkX 13 (some 74) ?_ phC (ph0 hH) ?_ ?_
 rotate_left
 · intro w _; go_simp; (try with_reducible rfl)
 (try simp only [cq])
 refine tkX 14 (some 75) ?_ (phA (by kernel_rfl) (by kernel_rfl)) (ph0 hH) ?_ ?_
 rotate_left
 · intro w hS0; (try dsimp only at hS0); obtain ⟨⟨kP, kT, kJ, kM, kX⟩, _, _⟩ := hS0; have c0 := kP.cell 0 rfl; have t2 := kT.cell 2 rfl; have j1 := kJ.cell 1 rfl; obtain ⟨a0, a1⟩ := HCM.out _ kM; have q0 := HCX.out _ kX; have y1 := kP.lt; have y2 := kT.lt; have y3 := World.block_lt_of_cell? _ _ a0; have y4 := World.block_lt_of_cell? _ _ q0; have y5 := kJ.lt;go_simp; (try with_reducible rfl)
 (try simp only [cq])
 refine wpAnyP_ready (rs := [15]) (by kernel_rfl) (by simp) ?_
 refine arcP0 (some 76) (fun K hK => ?_) AllReadyP.nil
 go_simp
 (refine (part_in x0 x1 z0 bs _ hH.2.2.seed ⟨by omega, by omega⟩ ⟨by omega, by omega⟩).mono ?_; rintro e w' ⟨x, y, rfl, d0, d1, d2, d3, hd⟩; replace kb := kb.drawn hbs hB (by first | exact hd | exact (Drawn.drew kb.hD.seed).trans hd); clear hd)
 refine hK.out _ _ ?_ ?_
 · (try dsimp only); exact ⟨⟨kb.jp, kb.jt, kb.jb, kb.rM, kb.rX⟩, trivial, kb.hD⟩
 (try clear hH)
 intro hH
 (try dsimp only at hH)
 clear hK K
 (try simp only [cq])
 refine tkX 16 (some 77) ?_ phC (ph0 hH) ?_ ?_
 rotate_left
 · intro w _; go_simp; (try with_reducible rfl)
 (try simp only [cq])
 refine tkX 17 (some 78) ?_ phC (ph0 hH) ?_ ?_
 rotate_left
 · intro w _; go_simp; (try with_reducible rfl)
 (try simp only [cq])
 refine wpAnyP_ready (rs := [18]) (by kernel_rfl) (by simp) ?_
 refine arcP2 none (fun K hK => ?_) AllReadyP.nil
 obtain ⟨r0, r1⟩ := HCM.out _ kb.rM
 have f2 := (row_free' kb.rM).2.2 (j * 4 + 2)
 have f3 := (row_free' kb.rM).2.2 (j * 4 + 2 + 1)
 have zRA := (row_free' kb.rM).2.1
 have KB := Lib.hid (kb.putM hbs hlt x y)
 clear kb
 go_simp
 refine hK.out _ _ ?_ ?_
 · (try dsimp only); exact KB.out.hD
 (try clear hH)
 intro hH
 (try dsimp only at hH)
 clear hK K
 (try simp only [cq])
 refine wpAnyP_done (by kernel_rfl) ?_ _
 (try dsimp only [Act.put])
 (try simp only [cq])
 clear hH r0 r1 f2 f3 zRA
 go_wp2
 go_roundw
 case rel => exact ⟨j + 1, _, by omega, by go_num, KB.out, HPM.out.put (by rw [HX.out.1, HX.out.2.2]; exact ⟨d0, d1⟩) (by rw [HX.out.2.1, HX.out.2.2]; exact ⟨d2, d3⟩)⟩
 case measure => simp [intOf]; omega )
        · obtain rfl : j = m := by omega
          obtain ⟨x0, x1⟩ := kb.jb.c2
          obtain ⟨r0, r1⟩ := kb.jr.c2
          have f0 := kb.jr.free 0
          have f1 := kb.jr.free 1
          have zX := kb.jb.lt
          have zT := kb.jr.lt
          have z0' := (kb.jr.set 0 (.slice (some ⟨gA, 0, none⟩) k cA2)).set 1 (.slice aM2 j cM2)
          obtain ⟨z0, z1⟩ := z0'.c2
          have RA := Lib.hid (row_other2 kb.rA (b := w.heap.size + 1 + 1) (row_blk_ne kb.rA kb.jr (by decide)) 0 1 (.slice (some ⟨gA, 0, none⟩) k cA2) (.slice aM2 j cM2))
          have RM := Lib.hid (row_other2 kb.rM (b := w.heap.size + 1 + 1) (row_blk_ne kb.rM kb.jr (by decide)) 0 1 (.slice (some ⟨gA, 0, none⟩) k cA2) (.slice aM2 j cM2))
          have JB := Lib.hid ((kb.hD.set (p := ⟨w.heap.size + 1 + 1, 0, none⟩) (by show _ ≤ w.heap.size + 1 + 1; omega) hbs (.slice (some ⟨gA, 0, none⟩) k cA2)).set (p := ⟨w.heap.size + 1 + 1, 1, none⟩) (by show _ ≤ w.heap.size + 1 + 1; omega) hbs (.slice aM2 j cM2))
          have Z0 := Lib.hid z0
          have Z1 := Lib.hid z1
          clear z0 z1 z0' kb
          go_wp2
          exact bodyPost_ret (v := .agg #[.slice (some ⟨gA, 0, none⟩) k cA2, .slice aM2 j cM2]) (by simp [results, Try.results59, go_sem, Z0.out, Z1.out]) rfl ⟨_, _, A2, M2, rfl, HPA.out, HPM.out, ownsRow_base RA.out (by omega), ownsRow_base RM.out (by omega), JB.out⟩
end Go.Proofs.Ytpeogfcfiabcfaa

namespace Go.Proofs.Ytpeogfcfiabcfaa
open Go.RowKit

set_option maxRecDepth 100000 in
set_option maxHeartbeats 8000000 in
theorem post_ok (n m : Nat) (A : Nat → Ac) (M : Nat → Mv) (f t lo hi : Int) (aA aM : Option Addr) (cA cM : Nat) (w : World) (hn1 : 1 ≤ n) (hn : n ≤ 8) (hm : m ≤ 30) (hA : AcsAt w (.slice aA n cA) n A) (hM : MvsAt w (.slice aM m cM) m M)
    (H1 : ∀ W, Below w.heap.size w W → Calls Try.prog 33 #[.agg #[.slice aA n cA, .slice aM m cM]] W fun e w' => e = .returned (.int .i64 0) ∧ Below W.heap.size W w')
    (H2 : ∀ W v u, AcsAt W v n A → MvsAt W u (m + 1) (upM M m ⟨f, t, lo, hi⟩) → Calls Try.prog 33 #[.agg #[v, u]] W fun e w' => e = .returned (.int .i64 0) ∧ Below W.heap.size W w') :
    Calls Try.prog 43 #[.agg #[.slice aA n cA, .slice aM m cM], .agg #[.int .i64 f, .int .i64 t, .int .i64 lo, .int .i64 hi]] w fun e w' => ∃ v u, e = .returned (.tuple #[.agg #[v, u], .int .i64 0]) ∧ w'.ownsRow w.heap.size 87 6 v n (catC (acC A) n) ∧ w'.ownsRow w.heap.size 68 4 u (m + 1) (catC (mvC (upM M m ⟨f, t, lo, hi⟩)) (m + 1)) ∧ Below w.heap.size w w' := by
  have K1 := Lib.hid H1
  have K2 := Lib.hid H2
  have HCo := Lib.hid (fun (W : World) (h : Below w.heap.size w W) => copied_any n m A M _ _ W (by omega) (by omega) (hA.later h) (hM.later h))
  clear H1 H2 hA hM
  obtain ⟨iM, hiM, hz0iM, hz1iM, hz2iM⟩ := info_parts Try.infoMove
  have jX := ((Blk.new w #[.slice aA n cA, .slice aM m cM] 44).alloc (.cells #[.int .i64 f, .int .i64 t, .int .i64 lo, .int .i64 hi] 68)).alloc (.cells #[.slice none 0 0, .slice none 0 0] 44)
  have jM := (Blk.new1 w (.cells #[.slice aA n cA, .slice aM m cM] 44) #[.int .i64 f, .int .i64 t, .int .i64 lo, .int .i64 hi] 68).alloc (.cells #[.slice none 0 0, .slice none 0 0] 44)
  have jR := Blk.new2 w (.cells #[.slice aA n cA, .slice aM m cM] 44) (.cells #[.int .i64 f, .int .i64 t, .int .i64 lo, .int .i64 hi] 68) #[.slice none 0 0, .slice none 0 0] 44
  have jB : Below w.heap.size w (((w.alloc (.cells #[.slice aA n cA, .slice aM m cM] 44)).alloc (.cells #[.int .i64 f, .int .i64 t, .int .i64 lo, .int .i64 hi] 68)).alloc (.cells #[.slice none 0 0, .slice none 0 0] 44)) := by (repeat (first | exact Below.refl _ _ | assumption | refine Below.drew ?_ | refine Below.drewN ?_ _ | refine blT ?_ | refine blU ?_))
  obtain ⟨p0, p1⟩ := jX.c2
  have q0 : ((0 : Int) != 0) = false := by decide
  go_enter Try.func43, Try.ntmps43
  go_wp2_with fail
  clear p0 p1
  obtain ⟨V, hV⟩ : ∃ V, Blk.wld jX = V := ⟨_, rfl⟩
  simp only [Blk.wld] at hV
  rw [hV] at jX jM jR jB ⊢
  clear hV
  refine (K1.out _ jB).mono ?_
  rintro e w1 ⟨rfl, hb⟩
  replace jX := jX.call hb
  replace jM := jM.call hb
  replace jR := jR.call hb
  replace jB := bwS jB (Nat.le_refl _) hb
  clear hb K1
  obtain ⟨p0, p1⟩ := jX.c2
  go_wp2_with fail
  clear p0 p1
  refine (HCo.out _ jB).mono ?_
  rintro e w2 ⟨v3, v7, rfl, r3, r7, hb⟩
  obtain ⟨a3, c3, rfl, -, -, -⟩ := row_at r3 (by omega)
  obtain ⟨a7, c7, rfl, -, -, -⟩ := row_at r7 (by omega)
  have zw := jR.lt
  replace r3 := ownsRow_base (b1 := w.heap.size + 3) r3 (by omega)
  replace r7 := ownsRow_base (b1 := w.heap.size + 3) r7 (by omega)
  replace jX := jX.call hb
  replace jM := jM.call hb
  replace jR := jR.call hb
  replace jB := bwS jB (Nat.le_refl _) hb
  have zw2 := hb.size
  clear hb HCo
  have k2 := (jX.set 0 (.slice a3 n c3)).set 1 (.slice a7 m c7)
  have kM := (jM.setOther (c := w.heap.size) (by omega) 0 (.slice a3 n c3)).setOther (c := w.heap.size) (by omega) 1 (.slice a7 m c7)
  have kR := (jR.setOther (c := w.heap.size) (by omega) 0 (.slice a3 n c3)).setOther (c := w.heap.size) (by omega) 1 (.slice a7 m c7)
  have s3 := row_other2 r3 (b := w.heap.size) (row_blk_ne r3 jX (by decide)) 0 1 (.slice a3 n c3) (.slice a7 m c7)
  have s7 := row_other2 r7 (b := w.heap.size) (row_blk_ne r7 jX (by decide)) 0 1 (.slice a3 n c3) (.slice a7 m c7)
  have kB := (jB.setCell (p := ⟨w.heap.size, 0, none⟩) (by simp) (.slice a3 n c3)).setCell (p := ⟨w.heap.size, 1, none⟩) (by simp) (.slice a7 m c7)
  have KK := Lib.hid (And.intro k2 (And.intro kM (And.intro kR (And.intro s3 (And.intro s7 kB)))))
  obtain ⟨p0, p1⟩ := jX.c2
  have f0 := jX.free 0
  have f1 := jX.free 1
  have z2 := jX.lt
  clear k2 kM kR s3 s7 kB r3 r7 jX jM jR jB
  go_upto_region 5 with fail
  clear p0 p1 f0 f1 z2
  obtain ⟨k2, kM, kR, s3, s7, kB⟩ := KK.out
  clear KK
  obtain ⟨V1, hV⟩ : ∃ V, Blk.wld k2 = V := ⟨_, rfl⟩
  simp only [Blk.wld] at hV
  rw [hV] at k2 kM kR s3 s7 kB ⊢
  clear hV
  have zV := kR.lt
  obtain ⟨p0, p1⟩ := k2.c2
  have m0 := kM.cell 0 rfl
  have m1 := kM.cell 1 rfl
  have m2 := kM.cell 2 rfl
  have m3 := kM.cell 3 rfl
  have y2 := k2.lt
  have yM := kM.lt
  have s7' := s7.alloc (.cells #[.int .i64 f, .int .i64 t, .int .i64 lo, .int .i64 hi] 68)
  have s3' := s3.alloc (.cells #[.int .i64 f, .int .i64 t, .int .i64 lo, .int .i64 hi] 68)
  have k2' := k2.alloc (.cells #[.int .i64 f, .int .i64 t, .int .i64 lo, .int .i64 hi] 68)
  have kR' := kR.alloc (.cells #[.int .i64 f, .int .i64 t, .int .i64 lo, .int .i64 hi] 68)
  have kB' := bwA kB (Nat.le_refl _) (.cells #[.int .i64 f, .int .i64 t, .int .i64 lo, .int .i64 hi] 68)
  go_wp2_with (at_builtin; refine wpList_append_lies _ rfl _ _ 42 rfl (w.heap.size + 3) 68 iM (.agg #[.int .i64 0, .int .i64 0, .int .i64 0, .int .i64 0]) 4 32 Try.underlying42 hiM hz0iM hz1iM hz2iM rfl (by decide) _ m _ rfl s7' ⟨V1.heap.size, 0, none⟩ 1 1 [.int .i64 f, .int .i64 t, .int .i64 lo, .int .i64 hi] rfl rfl (newsN _ _ _) (one4 _ _ _ _) (by omega) (by unfold maxLen; omega) (by omega) (by simp; omega) _ rfl ?_; intro g9 c9 w9 hown hgrow hat hlt9; have t3 := s3'.kept hgrow (row_apart s3' s7' (by decide)); have t2 := k2'.grown3 hgrow (blk_row_ne2 k2' s7' (by decide)); have tR := kR'.grown3 hgrow (blk_row_ne2 kR' s7' (by decide)); have tB := grown_below kB' hgrow (fun q e => by have := (s7'.lt q e).1; omega) (Nat.le_refl _); obtain ⟨q8, q9⟩ := t2.c2; have f9 := t2.free 1; have y9 := t2.lt; have KK := Lib.hid (And.intro (t2.set 1 (.slice (some ⟨g9, 0, none⟩) (m + 1) c9)) (And.intro (tR.setOther (c := w.heap.size) (by omega) 1 (.slice (some ⟨g9, 0, none⟩) (m + 1) c9)) (And.intro (row_store t3 (b := w.heap.size) (o := 1) (u := .slice (some ⟨g9, 0, none⟩) (m + 1) c9) (row_blk_ne t3 t2 (by decide))) (And.intro (row_store (show w9.ownsRow (w.heap.size + 3) 68 4 (.slice (some ⟨g9, 0, none⟩) (m + 1) c9) (m + 1) (catC (mvC (upM M m ⟨f, t, lo, hi⟩)) (m + 1)) by rw [cat_upM]; exact hown) (b := w.heap.size) (o := 1) (u := .slice (some ⟨g9, 0, none⟩) (m + 1) c9) (row_blk_ne hown t2 (by decide))) (tB.setCell (p := ⟨w.heap.size, 1, none⟩) (by simp) (.slice (some ⟨g9, 0, none⟩) (m + 1) c9)))))); have nk := KK.out.1; obtain ⟨n0, n1⟩ := nk.c2; clear t3 t2 tR tB hown hgrow hat hlt9)
  clear k2 kM kR s3 s7 kB p0 p1 m0 m1 m2 m3 y2 yM s7' s3' k2' kR' kB' q8 q9 f9 y9 nk n0 n1
  obtain ⟨k2, kR, s3, s7, kB⟩ := KK.out
  clear KK
  obtain ⟨V3, hV⟩ : ∃ V, Blk.wld k2 = V := ⟨_, rfl⟩
  simp only [Blk.wld] at hV
  replace k2 : Blk V3 w.heap.size #[.slice a3 n c3, .slice (some ⟨g9, 0, none⟩) (m + 1) c9] 44 := (by rw [← hV]; exact k2)
  rw [hV] at kR s3 s7 kB ⊢
  clear hV
  refine (K2.out _ _ _ (lat_of_row s3 (by omega) (fun _ _ => rfl)) (lat_of_row s7 (by omega) (fun _ _ => rfl))).mono ?_
  rintro e w4 ⟨rfl, hb⟩
  replace k2 := k2.call hb
  replace kR := kR.call hb
  replace s3 := row_call s3 hb
  replace s7 := row_call s7 hb
  replace kB := bwS kB (Nat.le_refl _) hb
  clear hb K2
  obtain ⟨x0, x1⟩ := k2.c2
  obtain ⟨r0, r1⟩ := kR.c2
  have f0 := kR.free 0
  have f1 := kR.free 1
  have zX := k2.lt
  have zT := kR.lt
  have z0' := (kR.set 0 (.slice a3 n c3)).set 1 (.slice (some ⟨g9, 0, none⟩) (m + 1) c9)
  obtain ⟨z0, z1⟩ := z0'.c2
  have RA := Lib.hid (row_other2 s3 (b := w.heap.size + 1 + 1) (row_blk_ne s3 kR (by decide)) 0 1 (.slice a3 n c3) (.slice (some ⟨g9, 0, none⟩) (m + 1) c9))
  have RM := Lib.hid (row_other2 s7 (b := w.heap.size + 1 + 1) (row_blk_ne s7 kR (by decide)) 0 1 (.slice a3 n c3) (.slice (some ⟨g9, 0, none⟩) (m + 1) c9))
  have JB := Lib.hid ((kB.setCell (p := ⟨w.heap.size + 1 + 1, 0, none⟩) (by show _ ≤ w.heap.size + 1 + 1; omega) (.slice a3 n c3)).setCell (p := ⟨w.heap.size + 1 + 1, 1, none⟩) (by show _ ≤ w.heap.size + 1 + 1; omega) (.slice (some ⟨g9, 0, none⟩) (m + 1) c9))
  have Z0 := Lib.hid z0
  have Z1 := Lib.hid z1
  clear z0 z1 z0' k2 kR s3 s7 kB
  go_wp2
  exact bodyPost_ret (v := .tuple #[.agg #[.slice a3 n c3, .slice (some ⟨g9, 0, none⟩) (m + 1) c9], .int .i64 0]) (by simp [results, Try.results43, go_sem, Z0.out, Z1.out]) rfl ⟨_, _, rfl, ownsRow_base RA.out (by omega), ownsRow_base RM.out (by omega), JB.out⟩
end Go.Proofs.Ytpeogfcfiabcfaa

namespace Go.Proofs.Ytpeogfcfiabcfaa
open Go.RowKit

theorem sumT_skip (g : Nat → Int) (p : Nat) : ∀ r, sumT g (p + 1 + r) = sumT (fun i => g (if i < p then i else i + 1)) (p + r) + g p
  | 0 => by
    show sumT g p + g p = sumT _ p + g p
    rw [sumT_congr p (g := g) (f := fun i => g (if i < p then i else i + 1)) (fun i hi => by simp only [if_pos hi])]
  | r + 1 => by
    show sumT g (p + 1 + r) + g (p + 1 + r) = sumT _ (p + r) + g (if p + r < p then p + r else p + r + 1) + g p
    rw [sumT_skip g p r, if_neg (by omega), show p + r + 1 = p + 1 + r by omega]
    omega
section
variable {n m : Nat} {A : Nat → Ac} {M : Nat → Mv} {O C X : Nat → Int}
theorem flE_zero (n m : Nat) (A : Nat → Ac) (M : Nat → Mv) (f t : Int) (i : Nat) : flE n A (m + 1) (upM M m ⟨f, t, 0, 0⟩) (if i < 2 * n + m then i else i + 1) = flE n A m M i := by
  by_cases h : i < 2 * n + m
  · rw [if_pos h]
    unfold flE
    by_cases h1 : i < 2 * n
    · rw [if_pos h1, if_pos h1]
    · rw [if_neg h1, if_neg h1, if_pos (by omega), if_pos h, upM_ne _ _ _ _ (by omega)]
  · rw [if_neg h]
    unfold flE
    rw [if_neg (by omega), if_neg (by omega), if_neg (show ¬ i < 2 * n by omega), if_neg h]
    by_cases h3 : i < 2 * n + m + n
    · rw [if_pos (by omega), if_pos h3, show i + 1 - (2 * n + (m + 1)) = i - (2 * n + m) by omega]
    · rw [if_neg (by omega), if_neg h3]
theorem flE_new (n m : Nat) (A : Nat → Ac) (M : Nat → Mv) (f t : Int) : flE n A (m + 1) (upM M m ⟨f, t, 0, 0⟩) (2 * n + m) = ⟨f.toNat, t.toNat, 0, 0⟩ := by
  unfold flE
  rw [if_neg (by omega), if_pos (by omega), show 2 * n + m - 2 * n = m by omega, upM_at]
theorem flN_more (n m : Nat) : flN n (m + 1) = 2 * n + m + 1 + (n + 1) := by unfold flN; omega
theorem flN_same (n m : Nat) : flN n m = 2 * n + m + (n + 1) := by unfold flN; omega
theorem circ_drop (f t : Int) {y : Nat → Int} (h : Circ (flE n A (m + 1) (upM M m ⟨f, t, 0, 0⟩)) (flN n (m + 1)) y) : Circ (flE n A m M) (flN n m) (fun i => y (if i < 2 * n + m then i else i + 1)) := by
  refine ⟨fun i hi => ?_, fun S => ?_⟩
  · have a := h.1 (if i < 2 * n + m then i else i + 1) (by rw [flN_same] at hi; rw [flN_more]; by_cases q : i < 2 * n + m; rw [if_pos q]; omega; rw [if_neg q]; omega)
    rw [flE_zero] at a
    exact a
  · have a := h.2 S
    have z := h.1 (2 * n + m) (by rw [flN_more]; omega)
    rw [flE_new] at z
    have z0 : y (2 * n + m) = 0 := by have z : (0 : Int) ≤ y (2 * n + m) ∧ y (2 * n + m) ≤ 0 := z; omega
    rw [flN_more, sumT_skip, sumT_skip, z0] at a
    have p0 : ∀ c : Bool, pk c 0 = 0 := fun c => by cases c <;> rfl
    simp only [p0, Int.add_zero, flE_zero] at a
    rw [flN_same]
    exact a
theorem circ_ins (f t : Int) {y : Nat → Int} (h : Circ (flE n A m M) (flN n m) y) : Circ (flE n A (m + 1) (upM M m ⟨f, t, 0, 0⟩)) (flN n (m + 1)) (fun i => if i < 2 * n + m then y i else if i = 2 * n + m then 0 else y (i - 1)) := by
  have hz : ∀ i, (fun i => if i < 2 * n + m then y i else if i = 2 * n + m then 0 else y (i - 1)) (if i < 2 * n + m then i else i + 1) = y i := fun i => by
    by_cases q : i < 2 * n + m
    · simp only [if_pos q]
    · simp only [if_neg q, if_neg (show ¬ i + 1 < 2 * n + m by omega), if_neg (show ¬ i + 1 = 2 * n + m by omega), Nat.add_sub_cancel]
  refine ⟨fun i hi => ?_, fun S => ?_⟩
  · rw [flN_more] at hi
    by_cases q : i < 2 * n + m
    · have a := h.1 i (by rw [flN_same]; omega)
      have e := flE_zero n m A M f t i
      rw [if_pos q] at e
      rw [e]
      simp only [if_pos q]
      exact a
    · by_cases q2 : i = 2 * n + m
      · subst q2
        rw [flE_new]
        simp only [if_neg q, if_true]
        exact ⟨Int.le_refl _, Int.le_refl _⟩
      · have a := h.1 (i - 1) (by rw [flN_same]; omega)
        have e := flE_zero n m A M f t (i - 1)
        rw [if_neg (by omega), show i - 1 + 1 = i by omega] at e
        rw [e]
        simp only [if_neg q, if_neg q2]
        exact a
  · have a := h.2 S
    have p0 : ∀ c : Bool, pk c 0 = 0 := fun c => by cases c <;> rfl
    rw [flN_more, sumT_skip, sumT_skip]
    simp only [hz, flE_zero]
    simp only [Nat.lt_irrefl, if_false, if_true, p0, Int.add_zero]
    rw [flN_same] at a
    exact a
theorem BkUp.zero (h : BkUp n m A M O C X) (hm : m + 1 ≤ 30) (f t : Nat) (hf : f < n) (ht : t < n) (hne : f ≠ t) : BkUp n (m + 1) A (upM M m ⟨f, t, 0, 0⟩) O C (upF X m 0) := by
  refine ⟨h.n1, h.n8, hm, h.nm, h.ki, h.ob, h.cb, h.a, h.mv.more f t 0 0 0 (by omega) (by omega) (by omega) (by omega) (by omega), fun i hi => ?_⟩
  have e : lsn O C (upM M m ⟨f, t, 0, 0⟩) (upF X m 0) (m + 1) = lsn O C M X m := by
    rw [lsn, upM_at, upF_at, lsn_congr m (N := M) (Y := X) (fun i hi => ⟨upM_ne _ _ _ _ (by omega), upF_ne _ _ _ _ (by omega)⟩)]
    funext i
    simp only [Int.toNat_natCast]
    by_cases e : i = t
    · subst e
      rw [upF_at, upF_ne _ f _ i (by omega)]; omega
    · rw [upF_ne _ _ _ _ e]
      by_cases e2 : i = f
      · subst e2; rw [upF_at]; omega
      · rw [upF_ne _ _ _ _ e2]
  rw [e]
  exact h.ls i hi
theorem BkUp.zero_kn (h : BkUp n m A M O C X) (hm : m + 1 ≤ 30) (f t : Nat) (hf : f < n) (ht : t < n) (hne : f ≠ t) (j : Nat) (hj : j ≤ n) :
    (knA (flE n A (m + 1) (upM M m ⟨f, t, 0, 0⟩)) (flN n (m + 1)) (2 ^ (n + 1))).1 (2 * n + (m + 1) + j) = (knA (flE n A m M) (flN n m) (2 ^ (n + 1))).1 (2 * n + m + j) ∧
    (knA (flE n A (m + 1) (upM M m ⟨f, t, 0, 0⟩)) (flN n (m + 1)) (2 ^ (n + 1))).2 (2 * n + (m + 1) + j) = (knA (flE n A m M) (flN n m) (2 ^ (n + 1))).2 (2 * n + m + j) := by
  have hZ := h.zero hm f t hf ht hne
  have i1 : 2 * n + m + j < flN n m := by unfold flN; omega
  have i2 : 2 * n + (m + 1) + j < flN n (m + 1) := by unfold flN; omega
  have k1 := kn_narrow (E := flE n A m M) (K := n + 1) hZ.ends hZ.circ i2 i1 (fun y hy => ⟨_, circ_drop f t hy, by
    show y (if 2 * n + m + j < 2 * n + m then 2 * n + m + j else 2 * n + m + j + 1) = _
    rw [if_neg (by omega), show 2 * n + m + j + 1 = 2 * n + (m + 1) + j by omega]⟩)
  have k2 := kn_narrow (E := flE n A (m + 1) (upM M m ⟨f, t, 0, 0⟩)) (K := n + 1) h.ends h.circ i1 i2 (fun y hy => ⟨_, circ_ins f t hy, by
    show (if 2 * n + (m + 1) + j < 2 * n + m then _ else if 2 * n + (m + 1) + j = 2 * n + m then 0 else y (2 * n + (m + 1) + j - 1)) = _
    rw [if_neg (by omega), if_neg (by omega), show 2 * n + (m + 1) + j - 1 = 2 * n + m + j by omega]⟩)
  omega
theorem BkUp.self (h : BkUp n m A M O C X) : PtA n A A O C ∧ PtM m M M X := by
  refine ⟨fun i hi => ?_, fun i hi => ?_⟩
  · have := h.a i hi
    exact ⟨rfl, rfl, by omega, by omega, by omega, by omega, by omega, by omega, by omega, by omega⟩
  · have := h.mv.ok i hi
    exact ⟨rfl, rfl, by omega, by omega, by omega, by omega⟩
theorem BkUp.part (h : BkUp n m A M O C X) {A2 : Nat → Ac} {M2 : Nat → Mv} (hA : PtA n A A2 O C) (hM : PtM m M M2 X) : BkUp n m A2 M2 O C X := by
  refine ⟨h.n1, h.n8, h.m30, fun i hi => by rw [(hA i hi).1]; exact h.nm i hi, fun i hi => by rw [(hA i hi).2.1]; exact h.ki i hi, h.ob, h.cb, fun i hi => ?_, ⟨fun i hi => ?_⟩, fun i hi => ?_⟩
  · have a := h.a i hi
    have b := hA i hi
    omega
  · have a := h.mv.ok i hi
    have b := hM i hi
    omega
  · have e : lsn O C M2 X m = lsn O C M X m := lsn_mv m (fun i hi => ⟨(hM i hi).1, (hM i hi).2.1⟩)
    rw [e, (hA i hi).2.1]
    exact h.ls i hi
theorem BkUp.part_kn (h : BkUp n m A M O C X) {A2 : Nat → Ac} {M2 : Nat → Mv} (hA : PtA n A A2 O C) (hM : PtM m M M2 X) (j : Nat) (hj : j < flN n m) :
    (knA (flE n A m M) (flN n m) (2 ^ (n + 1))).1 j ≤ (knA (flE n A2 m M2) (flN n m) (2 ^ (n + 1))).1 j ∧ (knA (flE n A2 m M2) (flN n m) (2 ^ (n + 1))).2 j ≤ (knA (flE n A m M) (flN n m) (2 ^ (n + 1))).2 j := by
  have hP := h.part hA hM
  refine kn_narrow hP.ends hP.circ hj hj (fun y hy => ⟨y, ?_, rfl⟩)
  refine circ_of (F := flE n A2 m M2) (fun i hi => ?_) hy (fun i hi => ?_)
  · unfold flN at hi
    unfold flE
    by_cases h1 : i < 2 * n
    · rw [if_pos h1, if_pos h1]
      by_cases h2 : i % 2 = 0
      · rw [if_pos h2, if_pos h2]; exact ⟨rfl, rfl⟩
      · rw [if_neg h2, if_neg h2]; exact ⟨rfl, rfl⟩
    · rw [if_neg h1, if_neg h1]
      by_cases h2 : i < 2 * n + m
      · rw [if_pos h2, if_pos h2]
        have b := hM (i - 2 * n) (by omega)
        simp only [b.1, b.2.1, and_self]
      · rw [if_neg h2, if_neg h2]
        by_cases h3 : i < 2 * n + m + n
        · rw [if_pos h3, if_pos h3]; exact ⟨rfl, rfl⟩
        · rw [if_neg h3, if_neg h3]; exact ⟨rfl, rfl⟩
  · have a := hy.1 i hi
    unfold flN at hi
    revert a
    unfold flE
    by_cases h1 : i < 2 * n
    · rw [if_pos h1, if_pos h1]
      have b := hA (i / 2) (by omega)
      by_cases h2 : i % 2 = 0
      · rw [if_pos h2, if_pos h2]; dsimp only; omega
      · rw [if_neg h2, if_neg h2]; dsimp only; omega
    · rw [if_neg h1, if_neg h1]
      by_cases h2 : i < 2 * n + m
      · rw [if_pos h2, if_pos h2]
        have b := hM (i - 2 * n) (by omega)
        dsimp only; omega
      · rw [if_neg h2, if_neg h2]
        by_cases h3 : i < 2 * n + m + n
        · rw [if_pos h3, if_pos h3, (hA (i - (2 * n + m)) (by omega)).2.1]; exact id
        · rw [if_neg h3, if_neg h3]; exact id
end
theorem msV_stay {a b c d : Int} (h1 : a ≤ c) (h2 : d ≤ b) (h3 : 0 ≤ c) (h4 : c ≤ d) : msV a b = 3 ∨ msV c d = msV a b := by
  unfold msV
  by_cases p : 0 < a
  · rw [if_pos p, if_pos (by omega)]; exact .inr rfl
  · rw [if_neg p]
    by_cases q : b = 0
    · rw [if_pos q, if_neg (by omega), if_pos (by omega)]; exact .inr rfl
    · rw [if_neg q]; exact .inl rfl
end Go.Proofs.Ytpeogfcfiabcfaa

namespace Go.Proofs.Ytpeogfcfiabcfaa
open Go.RowKit

theorem BkUp.mv0' {n m : Nat} {A : Nat → Ac} {M : Nat → Mv} {O C X : Nat → Int} (h : BkUp n m A M O C X) : ∀ i, i < m → 0 ≤ (M i).fr ∧ 0 ≤ (M i).tt := fun i hi => by have := h.mv.ok i hi; omega
set_option maxRecDepth 100000 in
set_option maxHeartbeats 16000000 in
theorem narrows_any (a0 : Option Addr) (n0 c0 : Nat) (w : World) (hN : NumsAt w a0 n0) :
    Calls Try.prog 10 #[.slice a0 n0 c0] w fun e w' => e = .returned (.bool true) ∧ Below w.heap.size w w' := by
  have HAw := Lib.hid (fun (W : World) => awake_any W)
  go_enter Try.func10, Try.ntmps10
  go_wp2_with fail
  refine (newseed_at a0 n0 c0 _ hN).mono ?_
  rintro e w1 ⟨rfl, hS, hb⟩
  obtain ⟨bs, hbs⟩ : ∃ x, w.heap.size = x := ⟨_, rfl⟩
  have zs1 : bs < w1.heap.size := by have := hS.choose_spec.lt; omega
  have HB := Lib.hid (fun (W : World) (h : Drawn bs w1 W) => (show Below w.heap.size w W from Drawn.below hb h (by omega)))
  rw [hbs] at hS ⊢
  clear hb hN
  have k3 := Blk.new w1 #[.int .i64 1, .int .i64 5, .int .i64 50] 3
  have hD := Drawn.alloc hS (.cells #[.int .i64 1, .int .i64 5, .int .i64 50] 3)
  go_wp2_with fail
  refine (of_in w1.heap.size 0 3 3 (fun i => [1, 5, 50].getD i 0) bs _ hD.seed (by omega) (by omega) (by omega) (cells3 k3)).mono ?_
  rintro e w3 ⟨i, hi, rfl, hd⟩
  obtain ⟨wd, hw9⟩ : ∃ z : Int, [1, 5, 50].getD i 0 = z := ⟨_, rfl⟩
  have hw : 0 ≤ wd ∧ wd ≤ 1000 := by
    rw [← hw9]
    obtain rfl | rfl | rfl : i = 0 ∨ i = 1 ∨ i = 2 := by omega
    all_goals decide
  rw [hw9]
  replace hD := hD.trans hd
  clear hw9 hi hd k3
  go_wp2_with fail
  have zs3 : bs < w3.heap.size := hD.seed.choose_spec.lt
  refine (bookof_in 6 8 500 wd bs _ hD.seed (by omega) (by omega) (by omega) hw).mono ?_
  rintro e w4 ⟨n, m, A, M, O, C, X, vA, vM, vO, vC, vX, rfl, hnm, hU, ⟨rA, rM, rO, rC, rX⟩, hd⟩
  replace hD := hD.trans hd
  obtain ⟨B1, hB1⟩ : ∃ b, w3.heap.size = b := ⟨_, rfl⟩
  rw [hB1] at rA rM rO rC rX zs3
  have hm9 : m + 1 ≤ 30 := by omega
  clear hd hw hS hB1 hnm
  obtain ⟨aA, cA, rfl, -, -, -⟩ := row_at rA (by omega)
  obtain ⟨aM, cM, rfl, -, -, -⟩ := row_at rM (by omega)
  obtain ⟨aO, cO, rfl, -, -, -⟩ := row_at rO (by omega)
  obtain ⟨aC, cC, rfl, -, -, -⟩ := row_at rC (by omega)
  obtain ⟨aX, cX, rfl, -, -, -⟩ := row_at rX (by omega)
  have HU := Lib.hid hU
  clear hU
  have k4 := (Blk.new w4 #[.slice aA n cA, .slice aM m cM] 44).alloc (.cells #[.slice aO n cO, .slice aC n cC, .slice aX m cX] 46)
  have k5 := Blk.new1 w4 (.cells #[.slice aA n cA, .slice aM m cM] 44) #[.slice aO n cO, .slice aC n cC, .slice aX m cX] 46
  replace rA := (rA.alloc (.cells #[.slice aA n cA, .slice aM m cM] 44)).alloc (.cells #[.slice aO n cO, .slice aC n cC, .slice aX m cX] 46)
  replace rM := (rM.alloc (.cells #[.slice aA n cA, .slice aM m cM] 44)).alloc (.cells #[.slice aO n cO, .slice aC n cC, .slice aX m cX] 46)
  replace rO := (rO.alloc (.cells #[.slice aA n cA, .slice aM m cM] 44)).alloc (.cells #[.slice aO n cO, .slice aC n cC, .slice aX m cX] 46)
  replace rC := (rC.alloc (.cells #[.slice aA n cA, .slice aM m cM] 44)).alloc (.cells #[.slice aO n cO, .slice aC n cC, .slice aX m cX] 46)
  replace rX := (rX.alloc (.cells #[.slice aA n cA, .slice aM m cM] 44)).alloc (.cells #[.slice aO n cO, .slice aC n cC, .slice aX m cX] 46)
  replace hD := (hD.new (.cells #[.slice aA n cA, .slice aM m cM] 44)).new (.cells #[.slice aO n cO, .slice aC n cC, .slice aX m cX] 46)
  go_upto_region 3 with fail
  obtain ⟨V, hV⟩ : ∃ V, Blk.wld k4 = V := ⟨_, rfl⟩
  simp only [Blk.wld] at hV
  rw [hV] at k4 k5 rA rM rO rC rX hD ⊢
  clear hV
  obtain ⟨b4, hb4⟩ : ∃ b, w4.heap.size = b := ⟨_, rfl⟩
  rw [hb4] at k4 k5 ⊢
  clear hb4
  have zV : bs < V.heap.size := hD.seed.choose_spec.lt
  obtain ⟨p0, p1⟩ := k4.c2
  have p2 := k5.cell 0 rfl
  have p3 := k5.cell 1 rfl
  have p4 := k5.cell 2 rfl
  go_wp2_with fail
  clear p0 p1 p2 p3 p4
  refine (partof_in bs B1 n m A M O C X aA aM aO aC aX cA cM cO cC cX V hD.seed zs3 HU.out.n1 HU.out.n8 HU.out.m30 HU.out.self.1 HU.out.self.2 (fun i hi => by have := HU.out.a i hi; omega) (fun i hi => by have := HU.out.mv.ok i hi; omega) rA rM rO rC rX).mono ?_
  rintro e w5 ⟨vp, uq, A2, M2, rfl, hPA, hPM, sA, sM, hd⟩
  obtain ⟨ap, cp, rfl, -, -, -⟩ := row_at sA (by omega)
  obtain ⟨aq, ce9, rfl, -, -, -⟩ := row_at sM (by omega)
  replace k4 := hd.blk k4 (seed_ne k4 hD.seed (by decide))
  replace rA := hd.row rA zs3
  replace rM := hd.row rM zs3
  replace hD := hD.trans hd
  clear hd k5 rO rC rX
  have HP := Lib.hid (And.intro hPA hPM)
  have HR := Lib.hid (HU.out.part hPA hPM)
  clear hPA hPM
  have k6 := Blk.new w5 #[.slice ap n cp, .slice aq m ce9] 44
  replace k4 := k4.alloc (.cells #[.slice ap n cp, .slice aq m ce9] 44)
  replace rA := rA.alloc (.cells #[.slice ap n cp, .slice aq m ce9] 44)
  replace rM := rM.alloc (.cells #[.slice ap n cp, .slice aq m ce9] 44)
  replace sA := sA.alloc (.cells #[.slice ap n cp, .slice aq m ce9] 44)
  replace sM := sM.alloc (.cells #[.slice ap n cp, .slice aq m ce9] 44)
  replace hD := hD.new (.cells #[.slice ap n cp, .slice aq m ce9] 44)
  obtain ⟨p0, p1⟩ := k4.c2
  go_upto_region 4 with fail
  clear p0 p1
  obtain ⟨V5, hV⟩ : ∃ V, Blk.wld k6 = V := ⟨_, rfl⟩
  simp only [Blk.wld] at hV
  rw [hV] at k4 k6 rA rM sA sM hD ⊢
  clear hV
  obtain ⟨b6, hb4⟩ : ∃ b, w5.heap.size = b := ⟨_, rfl⟩
  rw [hb4] at k6 ⊢
  clear hb4
  have hD0 := hD
  have HBD := Lib.hid (fun (W : World) (h : Drawn bs V5 W) => HB.out W (hD0.trans h))
  clear hD0 HB
  replace hD := Drawn.refl hD.seed
  have zV5 : bs < V5.heap.size := hD.seed.choose_spec.lt
  obtain ⟨KA, hKA⟩ : ∃ K, (knA (flE n A m M) (flN n m) (2 ^ (n + 1))).1 = K := ⟨_, rfl⟩
  obtain ⟨KB, hKB⟩ : ∃ K, (knA (flE n A m M) (flN n m) (2 ^ (n + 1))).2 = K := ⟨_, rfl⟩
  obtain ⟨LA, hLA⟩ : ∃ K, (knA (flE n A2 m M2) (flN n m) (2 ^ (n + 1))).1 = K := ⟨_, rfl⟩
  obtain ⟨LB, hLB⟩ : ∃ K, (knA (flE n A2 m M2) (flN n m) (2 ^ (n + 1))).2 = K := ⟨_, rfl⟩
  have HN := Lib.hid (fun j (hj : j < flN n m) => (show KA j ≤ LA j ∧ LB j ≤ KB j by rw [← hKA, ← hKB, ← hLA, ← hLB]; exact HU.out.part_kn HP.out.1 HP.out.2 j hj))
  have HQ0 := Lib.hid (fun j (hj : j < n) => (show 0 ≤ LA (2 * n + m + j) ∧ LA (2 * n + m + j) ≤ LB (2 * n + m + j) by
    have a := kn_l (flE n A2 m M2) (flN n m) (2 * n + m + j) (by unfold flN; omega) (2 ^ (n + 1))
    have b := kn_in HR.out.circ (2 ^ (n + 1)) (2 * n + m + j) (by unfold flN; omega)
    rw [flE_l n A2 m M2 j hj, hLA] at a
    rw [hLA, hLB] at b
    have a : (0 : Int) ≤ LA (2 * n + m + j) := a.1
    omega))
  have HZ := Lib.hid (fun (f t : Nat) (hf : f < n) (ht : t < n) (hne : f ≠ t) (j : Nat) (hj : j ≤ n) => (show (knA (flE n A (m + 1) (upM M m ⟨f, t, 0, 0⟩)) (flN n (m + 1)) (2 ^ (n + 1))).1 (2 * n + (m + 1) + j) = KA (2 * n + m + j) ∧ (knA (flE n A (m + 1) (upM M m ⟨f, t, 0, 0⟩)) (flN n (m + 1)) (2 ^ (n + 1))).2 (2 * n + (m + 1) + j) = KB (2 * n + m + j) by rw [← hKA, ← hKB]; exact HU.out.zero_kn hm9 f t hf ht hne j hj))
  have lr : ∀ {W : World} {b s k : Nat} {e : TypeId} {v : Value} {C : Nat → List Value}, W.ownsRow b e s v k (catC C k) → 0 < s → (∀ i, i < k → (C i).length = s) → LAt W v k s C := fun r h1 h2 => lat_of_row r h1 h2
  have H1 := Lib.hid (fun (W : World) (hA : W.ownsRow B1 87 6 (.slice aA n cA) n (catC (acC A) n)) (hM : W.ownsRow B1 68 4 (.slice aM m cM) m (catC (mvC M) m)) => losses_ok n A m M (.slice aA n cA) (.slice aM m cM) W HU.out.n8 HU.out.m30 HU.out.mv0' (lat_of_row hA (by omega) (fun _ _ => rfl)) (lat_of_row hM (by omega) (fun _ _ => rfl)) HU.out.names HU.out.rows HU.out.flok (HU.out.cut _) KA KB hKA hKB)
  have H2 := Lib.hid (fun (W : World) (hA : W.ownsRow V.heap.size 87 6 (.slice ap n cp) n (catC (acC A2) n)) (hM : W.ownsRow V.heap.size 68 4 (.slice aq m ce9) m (catC (mvC M2) m)) => losses_ok n A2 m M2 (.slice ap n cp) (.slice aq m ce9) W HU.out.n8 HU.out.m30 HR.out.mv0' (lat_of_row hA (by omega) (fun _ _ => rfl)) (lat_of_row hM (by omega) (fun _ _ => rfl)) HR.out.names HR.out.rows HR.out.flok (HR.out.cut _) LA LB hLA hLB)
  have H3 := Lib.hid (fun (W : World) (hA : W.ownsRow B1 87 6 (.slice aA n cA) n (catC (acC A) n)) (hM : W.ownsRow B1 68 4 (.slice aM m cM) m (catC (mvC M) m)) => missing_ok n A m M (.slice aA n cA) (.slice aM m cM) W HU.out.n8 HU.out.m30 HU.out.mv0' (lat_of_row hA (by omega) (fun _ _ => rfl)) (lat_of_row hM (by omega) (fun _ _ => rfl)) HU.out.names HU.out.rows HU.out.flok (HU.out.cut _) KA KB hKA hKB)
  have H4 := Lib.hid (fun (W : World) (hA : W.ownsRow V.heap.size 87 6 (.slice ap n cp) n (catC (acC A2) n)) (hM : W.ownsRow V.heap.size 68 4 (.slice aq m ce9) m (catC (mvC M2) m)) => missing_ok n A2 m M2 (.slice ap n cp) (.slice aq m ce9) W HU.out.n8 HU.out.m30 HR.out.mv0' (lat_of_row hA (by omega) (fun _ _ => rfl)) (lat_of_row hM (by omega) (fun _ _ => rfl)) HR.out.names HR.out.rows HR.out.flok (HR.out.cut _) LA LB hLA hLB)
  have hn8 := HU.out.n8
  have hm30 := HU.out.m30
  have hn1 := HU.out.n1
  clear hKA hKB hLA hLB HR HP lr
  obtain ⟨p0, p1⟩ := k4.c2
  go_wp2_with fail
  clear p0 p1
  refine (H1.out _ rA rM).mono ?_
  rintro e w6 ⟨vl, rfl, rl, hb⟩
  obtain ⟨al, cl, rfl, -, -, -⟩ := row_at rl (by omega)
  replace rl := ownsRow_base (b1 := V5.heap.size) rl (hD.2.size)
  replace k4 := k4.call hb
  replace k6 := k6.call hb
  replace rA := row_call rA hb
  replace rM := row_call rM hb
  replace sA := row_call sA hb
  replace sM := row_call sM hb
  replace hD := hD.after hb
  clear hb H1
  obtain ⟨g0, hg0⟩ : ∃ z, KA (2 * n + m + n) = z := ⟨_, rfl⟩
  obtain ⟨g1, hg1⟩ : ∃ z, KB (2 * n + m + n) = z := ⟨_, rfl⟩
  rw [hg0, hg1]
  have k8 := Blk.new w6 #[.int .i64 g0, .int .i64 g1] 26
  replace k4 := k4.alloc (.cells #[.int .i64 g0, .int .i64 g1] 26)
  replace k6 := k6.alloc (.cells #[.int .i64 g0, .int .i64 g1] 26)
  replace rA := rA.alloc (.cells #[.int .i64 g0, .int .i64 g1] 26)
  replace rM := rM.alloc (.cells #[.int .i64 g0, .int .i64 g1] 26)
  replace sA := sA.alloc (.cells #[.int .i64 g0, .int .i64 g1] 26)
  replace sM := sM.alloc (.cells #[.int .i64 g0, .int .i64 g1] 26)
  replace rl := rl.alloc (.cells #[.int .i64 g0, .int .i64 g1] 26)
  replace hD := hD.new (.cells #[.int .i64 g0, .int .i64 g1] 26)
  obtain ⟨p0, p1⟩ := k6.c2
  go_wp2_with fail
  clear p0 p1
  obtain ⟨V6, hV⟩ : ∃ V, Blk.wld k8 = V := ⟨_, rfl⟩
  simp only [Blk.wld] at hV
  rw [hV] at k4 k6 k8 rA rM sA sM rl hD ⊢
  clear hV
  obtain ⟨b8, hb4⟩ : ∃ b, w6.heap.size = b := ⟨_, rfl⟩
  rw [hb4] at k8 ⊢
  clear hb4
  refine (H2.out _ sA sM).mono ?_
  rintro e w7 ⟨vy, rfl, ry, hb⟩
  obtain ⟨ay, cy, rfl, -, -, -⟩ := row_at ry (by omega)
  replace ry := ownsRow_base (b1 := V5.heap.size) ry (hD.2.size)
  replace k4 := k4.call hb
  replace k6 := k6.call hb
  replace k8 := k8.call hb
  replace rA := row_call rA hb
  replace rM := row_call rM hb
  replace sA := row_call sA hb
  replace sM := row_call sM hb
  replace rl := row_call rl hb
  replace hD := hD.after hb
  clear hb H2
  obtain ⟨h0, hh0⟩ : ∃ z, LA (2 * n + m + n) = z := ⟨_, rfl⟩
  obtain ⟨h1, hh1⟩ : ∃ z, LB (2 * n + m + n) = z := ⟨_, rfl⟩
  rw [hh0, hh1]
  have k11 := Blk.new w7 #[.int .i64 h0, .int .i64 h1] 26
  replace k4 := k4.alloc (.cells #[.int .i64 h0, .int .i64 h1] 26)
  replace k6 := k6.alloc (.cells #[.int .i64 h0, .int .i64 h1] 26)
  replace k8 := k8.alloc (.cells #[.int .i64 h0, .int .i64 h1] 26)
  replace rA := rA.alloc (.cells #[.int .i64 h0, .int .i64 h1] 26)
  replace rM := rM.alloc (.cells #[.int .i64 h0, .int .i64 h1] 26)
  replace sA := sA.alloc (.cells #[.int .i64 h0, .int .i64 h1] 26)
  replace sM := sM.alloc (.cells #[.int .i64 h0, .int .i64 h1] 26)
  replace rl := rl.alloc (.cells #[.int .i64 h0, .int .i64 h1] 26)
  replace ry := ry.alloc (.cells #[.int .i64 h0, .int .i64 h1] 26)
  replace hD := hD.new (.cells #[.int .i64 h0, .int .i64 h1] 26)
  obtain ⟨p0, p1⟩ := k4.c2
  go_wp2_with fail
  clear p0 p1
  obtain ⟨V7, hV⟩ : ∃ V, Blk.wld k11 = V := ⟨_, rfl⟩
  simp only [Blk.wld] at hV
  rw [hV] at k4 k6 k8 k11 rA rM sA sM rl ry hD ⊢
  clear hV
  obtain ⟨b11, hb4⟩ : ∃ b, w7.heap.size = b := ⟨_, rfl⟩
  rw [hb4] at k11 ⊢
  clear hb4
  refine (H3.out _ rA rM).mono ?_
  rintro e w8 ⟨vv, rfl, rv, hb⟩
  obtain ⟨av, cv, rfl, -, -, -⟩ := row_at rv (by omega)
  replace rv := ownsRow_base (b1 := V5.heap.size) rv (hD.2.size)
  replace k4 := k4.call hb
  replace k6 := k6.call hb
  replace k8 := k8.call hb
  replace k11 := k11.call hb
  replace rA := row_call rA hb
  replace rM := row_call rM hb
  replace sA := row_call sA hb
  replace sM := row_call sM hb
  replace rl := row_call rl hb
  replace ry := row_call ry hb
  replace hD := hD.after hb
  clear hb H3
  obtain ⟨p0, p1⟩ := k6.c2
  go_wp2_with fail
  clear p0 p1
  refine (H4.out _ sA sM).mono ?_
  rintro e w9 ⟨vv, rfl, ru, hb⟩
  obtain ⟨au, cu, rfl, -, -, -⟩ := row_at ru (by omega)
  replace ru := ownsRow_base (b1 := V5.heap.size) ru (hD.2.size)
  replace k4 := k4.call hb
  replace k6 := k6.call hb
  replace k8 := k8.call hb
  replace k11 := k11.call hb
  replace rA := row_call rA hb
  replace rM := row_call rM hb
  replace sA := row_call sA hb
  replace sM := row_call sM hb
  replace rl := row_call rl hb
  replace ry := row_call ry hb
  replace rv := row_call rv hb
  replace hD := hD.after hb
  clear hb H4
  obtain ⟨i0, i1⟩ := HN.out (2 * n + m + n) (by unfold flN; omega)
  rw [hg0, hh0] at i0
  rw [hg1, hh1] at i1
  have HG := Lib.hid (And.intro hg0 hg1)
  clear hg0 hg1 hh0 hh1 k6 sA sM
  obtain ⟨p0, p1⟩ := k4.c2
  obtain ⟨p2, p3⟩ := k8.c2
  obtain ⟨p4, p5⟩ := k11.c2
  have q0 : ((0 : Int) != 0) = false := by decide
  have q1 : ((n : Int) != n) = false := by simp
  go_wp2_with fail
  clear p0 p1 p2 p3 p4 p5
  refine (in_ok h0 h1 g0 g1 i0 i1 _).mono ?_
  rintro e w10 ⟨rfl, hb⟩
  replace k4 := k4.call hb
  replace k8 := k8.call hb
  replace rA := row_call rA hb
  replace rM := row_call rM hb
  replace rl := row_call rl hb
  replace ry := row_call ry hb
  replace rv := row_call rv hb
  replace ru := row_call ru hb
  replace hD := hD.after hb
  clear hb k11 i0 i1 q0 q1
  have HV := Lib.hid (fun (W : World) (h : Drawn bs w10 W) => (show Blk W b4 #[.slice aA n cA, .slice aM m cM] 44 ∧ Blk W b8 #[.int .i64 g0, .int .i64 g1] 26 ∧ W.ownsRow B1 87 6 (.slice aA n cA) n (catC (acC A) n) ∧ W.ownsRow B1 68 4 (.slice aM m cM) m (catC (mvC M) m) ∧ W.ownsRow V5.heap.size 26 2 (.slice al n cl) n (catC (spC (fun i => KA (2 * n + m + i)) (fun i => KB (2 * n + m + i))) n) ∧ W.ownsRow V5.heap.size 26 2 (.slice ay n cy) n (catC (spC (fun i => LA (2 * n + m + i)) (fun i => LB (2 * n + m + i))) n) ∧ W.ownsRow V5.heap.size 3 1 (.slice av n cv) n (catC (inC (fun i => msV (KA (2 * n + m + i)) (KB (2 * n + m + i)))) n) ∧ W.ownsRow V5.heap.size 3 1 (.slice au n cu) n (catC (inC (fun i => msV (LA (2 * n + m + i)) (LB (2 * n + m + i)))) n) ∧ Drawn bs V5 W from
    ⟨h.blk k4 (seed_ne k4 hD.seed (by decide)), h.blk k8 (seed_ne k8 hD.seed (by decide)), h.row rA zs3, h.row rM zs3, h.row rl zV5, h.row ry zV5, h.row rv zV5, h.row ru zV5, hD.trans h⟩))
  have HS10 := Lib.hid (hD.2.size)
  replace hD := Drawn.refl hD.seed
  clear k4 k8 rA rM rl ry rv ru
  go_wp2_with fail
  obtain ⟨-, -, -, -, rl, ry, rv, ru, -⟩ := HV.out _ hD
  obtain ⟨gl, rfl⟩ := row_addr rl (by omega)
  obtain ⟨gy, rfl⟩ := row_addr ry (by omega)
  obtain ⟨gv, rfl⟩ := row_addr rv (by omega)
  obtain ⟨gu, rfl⟩ := row_addr ru (by omega)
  obtain ⟨zl1, -⟩ := LAt.addr (lat_of_row rl (by omega) (fun _ _ => rfl)) (by omega)
  clear rl ry rv ru zl1
  go_loopw [18] (fun i wr => ∃ k : Nat, k ≤ n ∧ i = .int .i64 k ∧ Drawn bs w10 wr) (fun i _ => n - (intOf i).toNat)
  case atStart => exact ⟨0, by omega, rfl, hD⟩
  case round =>
    clear hD
    obtain ⟨k, hkn, rfl, hD⟩ := hrel
    by_cases hlt : k < n
    · have hltI : (k : Int) < n := by omega
      have hq := HQ0.out k hlt
      have hi := HN.out (2 * n + m + k) (by unfold flN; omega)
      have HC := Lib.hid (fun (W : World) (h : Drawn bs w10 W) => And.intro (row_sp2 (HV.out W h).2.2.2.2.1 hlt) (And.intro (row_sp2 (HV.out W h).2.2.2.2.2.1 hlt) (And.intro (row_int (HV.out W h).2.2.2.2.2.2.1 hlt) (row_int (HV.out W h).2.2.2.2.2.2.2.1 hlt))))
      obtain ⟨a, ha⟩ : ∃ z, KA (2 * n + m + k) = z := ⟨_, rfl⟩
      obtain ⟨b, hb9⟩ : ∃ z, KB (2 * n + m + k) = z := ⟨_, rfl⟩
      obtain ⟨c, hc⟩ : ∃ z, LA (2 * n + m + k) = z := ⟨_, rfl⟩
      obtain ⟨d, hd⟩ : ∃ z, LB (2 * n + m + k) = z := ⟨_, rfl⟩
      simp only [ha, hb9, hc, hd] at HC hq hi
      clear ha hb9 hc hd
      have hv := msV_stay hi.1 hi.2 hq.1 hq.2
      have WI := Lib.hid (fun (W : World) => in_ok c d a b hi.1 hi.2 W)
      obtain ⟨v, hv9⟩ : ∃ z, msV a b = z := ⟨_, rfl⟩
      obtain ⟨u, hu9⟩ : ∃ z, msV c d = z := ⟨_, rfl⟩
      rw [hv9, hu9] at HC hv
      clear hv9 hu9 hq hi
      go_upto_region 14 with fail
      by_cases h3 : v = 3
      · subst h3
        have e1 : ((3 : Int) != 3) = false := by decide
        clear hv
        refine wp_region_held_drew (S := (fun W => Drawn bs w10 W)) (by kernel_rfl) ?_ (fun hH => ?_)
        · (try dsimp only); (exact hD.trans (Drawn.drew hD.seed))
        refine tkY 0 (some 113) ?_ ?_ ?_
        rotate_left
        · intro w _; go_simp; (try with_reducible rfl)
        (try simp only [cq])
        refine tkY 1 (some 114) ?_ ?_ ?_
        rotate_left
        · intro w _; go_simp; (try with_reducible rfl)
        (try simp only [cq])
        refine tkY 2 (some 115) ?_ ?_ ?_
        rotate_left
        · intro w hS0; (try dsimp only at hS0); obtain ⟨⟨c0, c1⟩, ⟨d0, d1⟩, v0, u0⟩ := HC.out _ hS0; have y1 := World.block_lt_of_cell? _ _ c0; have y2 := World.block_lt_of_cell? _ _ d0; have y3 := World.block_lt_of_cell? _ _ v0; have y4 := World.block_lt_of_cell? _ _ u0;go_simp; (try with_reducible rfl)
        (try simp only [cq])
        refine tkY 3 (some 116) ?_ ?_ ?_
        rotate_left
        · intro w hS0; (try dsimp only at hS0); obtain ⟨⟨c0, c1⟩, ⟨d0, d1⟩, v0, u0⟩ := HC.out _ hS0; have y1 := World.block_lt_of_cell? _ _ c0; have y2 := World.block_lt_of_cell? _ _ d0; have y3 := World.block_lt_of_cell? _ _ v0; have y4 := World.block_lt_of_cell? _ _ u0;go_simp; (try with_reducible rfl)
        (try simp only [cq])
        refine tkY 4 (some 117) ?_ ?_ ?_
        rotate_left
        · intro w _; go_simp; (try with_reducible rfl)
        (try simp only [cq])
        refine tkY 5 (some 118) ?_ ?_ ?_
        rotate_left
        · intro w _; go_simp; (try with_reducible rfl)
        (try simp only [cq])
        refine tkY 6 (some 119) ?_ ?_ ?_
        rotate_left
        · intro w hS0; (try dsimp only at hS0); obtain ⟨⟨c0, c1⟩, ⟨d0, d1⟩, v0, u0⟩ := HC.out _ hS0; have y1 := World.block_lt_of_cell? _ _ c0; have y2 := World.block_lt_of_cell? _ _ d0; have y3 := World.block_lt_of_cell? _ _ v0; have y4 := World.block_lt_of_cell? _ _ u0;go_simp; (try with_reducible rfl)
        (try simp only [cq])
        refine tkY 7 (some 120) ?_ ?_ ?_
        rotate_left
        · intro w hS0; (try dsimp only at hS0); obtain ⟨⟨c0, c1⟩, ⟨d0, d1⟩, v0, u0⟩ := HC.out _ hS0; have y1 := World.block_lt_of_cell? _ _ c0; have y2 := World.block_lt_of_cell? _ _ d0; have y3 := World.block_lt_of_cell? _ _ v0; have y4 := World.block_lt_of_cell? _ _ u0;go_simp; (try with_reducible rfl)
        (try simp only [cq])
        refine wpAnyH_ready (rs := [8]) (by kernel_rfl) (by simp) ?_
        refine arc1 (some 121) fun K hK => ?_
        go_simp
        (refine (WI.out _).mono ?_; rintro e w' ⟨rfl, hb⟩)
        refine hK.out _ _ ?_ ?_
        · (exact hH.after hb)
        (try clear hH); (try clear hb)
        intro hH
        clear hK K
        (try simp only [cq])
        refine tkY 9 (some 122) ?_ ?_ ?_
        rotate_left
        · intro w _; go_simp; (try with_reducible rfl)
        (try simp only [cq])
        refine tkY 10 (some 123) ?_ ?_ ?_
        rotate_left
        · intro w _; go_simp; (try with_reducible rfl)
        (try simp only [cq])
        refine tkY 11 (some 124) ?_ ?_ ?_
        rotate_left
        · intro w _; go_simp; (try with_reducible rfl)
        (try simp only [cq])
        refine tkY 12 (some 125) ?_ ?_ ?_
        rotate_left
        · intro w _; go_simp; (try with_reducible rfl)
        (try simp only [cq])
        refine tkY 13 (some 126) ?_ ?_ ?_
        rotate_left
        · intro w hS0; (try dsimp only at hS0); obtain ⟨⟨c0, c1⟩, ⟨d0, d1⟩, v0, u0⟩ := HC.out _ hS0; have y1 := World.block_lt_of_cell? _ _ c0; have y2 := World.block_lt_of_cell? _ _ d0; have y3 := World.block_lt_of_cell? _ _ v0; have y4 := World.block_lt_of_cell? _ _ u0;go_simp; (try with_reducible rfl)
        (try simp only [cq])
        refine tkY 14 (some 127) ?_ ?_ ?_
        rotate_left
        · intro w hS0; (try dsimp only at hS0); obtain ⟨⟨c0, c1⟩, ⟨d0, d1⟩, v0, u0⟩ := HC.out _ hS0; have y1 := World.block_lt_of_cell? _ _ c0; have y2 := World.block_lt_of_cell? _ _ d0; have y3 := World.block_lt_of_cell? _ _ v0; have y4 := World.block_lt_of_cell? _ _ u0;go_simp; (try with_reducible rfl)
        (try simp only [cq])
        refine tkY 15 (some 128) ?_ ?_ ?_
        rotate_left
        · intro w _; go_simp; (try with_reducible rfl)
        (try simp only [cq])
        refine tkY 16 (some 129) ?_ ?_ ?_
        rotate_left
        · intro w _; go_simp; (try with_reducible rfl)
        (try simp only [cq])
        refine tkN 17 (some 130) ?_
        (try simp only [cq])
        refine tkN 18 (some 131) ?_
        (try simp only [cq])
        refine tkN 19 (some 132) ?_
        (try simp only [cq])
        refine tkN 20 (some 133) ?_
        (try simp only [cq])
        refine tkN 21 (some 134) ?_
        (try simp only [cq])
        refine tkN 22 (some 135) ?_
        (try simp only [cq])
        refine tkN 23 (some 136) ?_
        (try simp only [cq])
        refine tkN 24 (some 137) ?_
        (try simp only [cq])
        refine tkN 25 (some 138) ?_
        (try simp only [cq])
        refine tkY 26 (some 139) ?_ ?_ ?_
        rotate_left
        · intro w _; go_simp; (try with_reducible rfl)
        (try simp only [cq])
        refine tkY 27 (some 140) ?_ ?_ ?_
        rotate_left
        · intro w _; go_simp; (try with_reducible rfl)
        (try simp only [cq])
        refine wpAnyH_done (by kernel_rfl) ?_ _
        (try dsimp only [Act.put])
        (try simp only [cq])
        have hD2 := hH
        clear hH hD HC WI
        go_wp2
        go_roundw
        case rel => exact ⟨k + 1, by omega, by go_num, hD2⟩
        case measure => simp [intOf]; omega
      · obtain rfl : u = v := by rcases hv with h | h; exact absurd h h3; exact h
        have e1 : (u != 3) = true := by simp [h3]
        have e2 : (u != u) = false := by simp
        clear hv
        refine wp_region_held_drew (S := (fun W => Drawn bs w10 W)) (by kernel_rfl) ?_ (fun hH => ?_)
        · (try dsimp only); (exact hD.trans (Drawn.drew hD.seed))
        refine tkY 0 (some 113) ?_ ?_ ?_
        rotate_left
        · intro w _; go_simp; (try with_reducible rfl)
        (try simp only [cq])
        refine tkY 1 (some 114) ?_ ?_ ?_
        rotate_left
        · intro w _; go_simp; (try with_reducible rfl)
        (try simp only [cq])
        refine tkY 2 (some 115) ?_ ?_ ?_
        rotate_left
        · intro w hS0; (try dsimp only at hS0); obtain ⟨⟨c0, c1⟩, ⟨d0, d1⟩, v0, u0⟩ := HC.out _ hS0; have y1 := World.block_lt_of_cell? _ _ c0; have y2 := World.block_lt_of_cell? _ _ d0; have y3 := World.block_lt_of_cell? _ _ v0; have y4 := World.block_lt_of_cell? _ _ u0;go_simp; (try with_reducible rfl)
        (try simp only [cq])
        refine tkY 3 (some 116) ?_ ?_ ?_
        rotate_left
        · intro w hS0; (try dsimp only at hS0); obtain ⟨⟨c0, c1⟩, ⟨d0, d1⟩, v0, u0⟩ := HC.out _ hS0; have y1 := World.block_lt_of_cell? _ _ c0; have y2 := World.block_lt_of_cell? _ _ d0; have y3 := World.block_lt_of_cell? _ _ v0; have y4 := World.block_lt_of_cell? _ _ u0;go_simp; (try with_reducible rfl)
        (try simp only [cq])
        refine tkY 4 (some 117) ?_ ?_ ?_
        rotate_left
        · intro w _; go_simp; (try with_reducible rfl)
        (try simp only [cq])
        refine tkY 5 (some 118) ?_ ?_ ?_
        rotate_left
        · intro w _; go_simp; (try with_reducible rfl)
        (try simp only [cq])
        refine tkY 6 (some 119) ?_ ?_ ?_
        rotate_left
        · intro w hS0; (try dsimp only at hS0); obtain ⟨⟨c0, c1⟩, ⟨d0, d1⟩, v0, u0⟩ := HC.out _ hS0; have y1 := World.block_lt_of_cell? _ _ c0; have y2 := World.block_lt_of_cell? _ _ d0; have y3 := World.block_lt_of_cell? _ _ v0; have y4 := World.block_lt_of_cell? _ _ u0;go_simp; (try with_reducible rfl)
        (try simp only [cq])
        refine tkY 7 (some 120) ?_ ?_ ?_
        rotate_left
        · intro w hS0; (try dsimp only at hS0); obtain ⟨⟨c0, c1⟩, ⟨d0, d1⟩, v0, u0⟩ := HC.out _ hS0; have y1 := World.block_lt_of_cell? _ _ c0; have y2 := World.block_lt_of_cell? _ _ d0; have y3 := World.block_lt_of_cell? _ _ v0; have y4 := World.block_lt_of_cell? _ _ u0;go_simp; (try with_reducible rfl)
        (try simp only [cq])
        refine wpAnyH_ready (rs := [8]) (by kernel_rfl) (by simp) ?_
        refine arc1 (some 121) fun K hK => ?_
        go_simp
        (refine (WI.out _).mono ?_; rintro e w' ⟨rfl, hb⟩)
        refine hK.out _ _ ?_ ?_
        · (exact hH.after hb)
        (try clear hH); (try clear hb)
        intro hH
        clear hK K
        (try simp only [cq])
        refine tkY 9 (some 122) ?_ ?_ ?_
        rotate_left
        · intro w _; go_simp; (try with_reducible rfl)
        (try simp only [cq])
        refine tkY 10 (some 123) ?_ ?_ ?_
        rotate_left
        · intro w _; go_simp; (try with_reducible rfl)
        (try simp only [cq])
        refine tkY 11 (some 124) ?_ ?_ ?_
        rotate_left
        · intro w _; go_simp; (try with_reducible rfl)
        (try simp only [cq])
        refine tkY 12 (some 125) ?_ ?_ ?_
        rotate_left
        · intro w _; go_simp; (try with_reducible rfl)
        (try simp only [cq])
        refine tkY 13 (some 126) ?_ ?_ ?_
        rotate_left
        · intro w hS0; (try dsimp only at hS0); obtain ⟨⟨c0, c1⟩, ⟨d0, d1⟩, v0, u0⟩ := HC.out _ hS0; have y1 := World.block_lt_of_cell? _ _ c0; have y2 := World.block_lt_of_cell? _ _ d0; have y3 := World.block_lt_of_cell? _ _ v0; have y4 := World.block_lt_of_cell? _ _ u0;go_simp; (try with_reducible rfl)
        (try simp only [cq])
        refine tkY 14 (some 127) ?_ ?_ ?_
        rotate_left
        · intro w hS0; (try dsimp only at hS0); obtain ⟨⟨c0, c1⟩, ⟨d0, d1⟩, v0, u0⟩ := HC.out _ hS0; have y1 := World.block_lt_of_cell? _ _ c0; have y2 := World.block_lt_of_cell? _ _ d0; have y3 := World.block_lt_of_cell? _ _ v0; have y4 := World.block_lt_of_cell? _ _ u0;go_simp; (try with_reducible rfl)
        (try simp only [cq])
        refine tkY 15 (some 128) ?_ ?_ ?_
        rotate_left
        · intro w _; go_simp; (try with_reducible rfl)
        (try simp only [cq])
        refine tkY 16 (some 129) ?_ ?_ ?_
        rotate_left
        · intro w _; go_simp; (try with_reducible rfl)
        (try simp only [cq])
        refine tkY 17 (some 130) ?_ ?_ ?_
        rotate_left
        · intro w _; go_simp; (try with_reducible rfl)
        (try simp only [cq])
        refine tkY 18 (some 131) ?_ ?_ ?_
        rotate_left
        · intro w _; go_simp; (try with_reducible rfl)
        (try simp only [cq])
        refine tkY 19 (some 132) ?_ ?_ ?_
        rotate_left
        · intro w hS0; (try dsimp only at hS0); obtain ⟨⟨c0, c1⟩, ⟨d0, d1⟩, v0, u0⟩ := HC.out _ hS0; have y1 := World.block_lt_of_cell? _ _ c0; have y2 := World.block_lt_of_cell? _ _ d0; have y3 := World.block_lt_of_cell? _ _ v0; have y4 := World.block_lt_of_cell? _ _ u0;go_simp; (try with_reducible rfl)
        (try simp only [cq])
        refine tkY 20 (some 133) ?_ ?_ ?_
        rotate_left
        · intro w hS0; (try dsimp only at hS0); obtain ⟨⟨c0, c1⟩, ⟨d0, d1⟩, v0, u0⟩ := HC.out _ hS0; have y1 := World.block_lt_of_cell? _ _ c0; have y2 := World.block_lt_of_cell? _ _ d0; have y3 := World.block_lt_of_cell? _ _ v0; have y4 := World.block_lt_of_cell? _ _ u0;go_simp; (try with_reducible rfl)
        (try simp only [cq])
        refine tkY 21 (some 134) ?_ ?_ ?_
        rotate_left
        · intro w _; go_simp; (try with_reducible rfl)
        (try simp only [cq])
        refine tkY 22 (some 135) ?_ ?_ ?_
        rotate_left
        · intro w _; go_simp; (try with_reducible rfl)
        (try simp only [cq])
        refine tkY 23 (some 136) ?_ ?_ ?_
        rotate_left
        · intro w hS0; (try dsimp only at hS0); obtain ⟨⟨c0, c1⟩, ⟨d0, d1⟩, v0, u0⟩ := HC.out _ hS0; have y1 := World.block_lt_of_cell? _ _ c0; have y2 := World.block_lt_of_cell? _ _ d0; have y3 := World.block_lt_of_cell? _ _ v0; have y4 := World.block_lt_of_cell? _ _ u0;go_simp; (try with_reducible rfl)
        (try simp only [cq])
        refine tkY 24 (some 137) ?_ ?_ ?_
        rotate_left
        · intro w hS0; (try dsimp only at hS0); obtain ⟨⟨c0, c1⟩, ⟨d0, d1⟩, v0, u0⟩ := HC.out _ hS0; have y1 := World.block_lt_of_cell? _ _ c0; have y2 := World.block_lt_of_cell? _ _ d0; have y3 := World.block_lt_of_cell? _ _ v0; have y4 := World.block_lt_of_cell? _ _ u0;go_simp; (try with_reducible rfl)
        (try simp only [cq])
        refine tkY 25 (some 138) ?_ ?_ ?_
        rotate_left
        · intro w _; go_simp; (try with_reducible rfl)
        (try simp only [cq])
        refine tkY 26 (some 139) ?_ ?_ ?_
        rotate_left
        · intro w _; go_simp; (try with_reducible rfl)
        (try simp only [cq])
        refine tkY 27 (some 140) ?_ ?_ ?_
        rotate_left
        · intro w _; go_simp; (try with_reducible rfl)
        (try simp only [cq])
        refine wpAnyH_done (by kernel_rfl) ?_ _
        (try dsimp only [Act.put])
        (try simp only [cq])
        have hD2 := hH
        clear hH hD HC WI
        go_wp2
        go_roundw
        case rel => exact ⟨k + 1, by omega, by go_num, hD2⟩
        case measure => simp [intOf]; omega
    · obtain rfl : k = n := by omega
      clear hlt hkn HQ0 HN
      by_cases h1 : k = 1
      · have e1 : ((k : Int) == 1) = true := by rw [h1]; rfl
        have e2 : decide ((k : Int) = 1) = true := decide_eq_true (by omega)
        go_wp2_with fail
        refine (HAw.out _).mono ?_
        rintro e w12 ⟨rfl, hb⟩
        have hB2 := HBD.out _ (HV.out _ (hD.after hb)).2.2.2.2.2.2.2.2
        clear hb
        go_wp2
        go_ret
        exact ⟨rfl, hB2⟩
      · have e1 : ((k : Int) == 1) = false := by simp; omega
        have e2 : decide ((k : Int) = 1) = false := decide_eq_false (by omega)
        go_wp2_with fail
        refine (below_in k bs _ hD.seed (by omega)).mono ?_
        rintro e w11 ⟨f9, rfl, f0, f1, hd⟩
        replace hD := hD.trans hd
        clear hd
        replace f1 : f9 < k := by omega
        obtain ⟨f, rfl⟩ : ∃ f : Nat, f9 = f := ⟨f9.toNat, by omega⟩
        have hfN : f < k := by omega
        have e3 : IntKind.i64.wrap ((k : Int) - 1) = (k : Int) - 1 := IntWalk.i64_in _ (by omega)
        have HPo := Lib.hid (fun (t : Nat) (ht : t < k) (hne : f ≠ t) (W : World) (h : Drawn bs w10 W) => post_ok k m A M f t 0 0 aA aM cA cM W hn1 hn8 hm30 (lat_of_row (HV.out W h).2.2.1 (by omega) (fun _ _ => rfl)) (lat_of_row (HV.out W h).2.2.2.1 (by omega) (fun _ _ => rfl))
          (fun W2 hW => check_ok k A m M _ _ W2 hn8 hm30 HU.out.mv0' ((lat_of_row (HV.out W h).2.2.1 (by omega) (fun _ _ => rfl)).later hW) ((lat_of_row (HV.out W h).2.2.2.1 (by omega) (fun _ _ => rfl)).later hW) HU.out.names HU.out.rows HU.out.flok (HU.out.cut _))
          (fun W2 v u hA hM => check_ok k A (m + 1) (upM M m ⟨f, t, 0, 0⟩) v u W2 hn8 hm9 (HU.out.zero hm9 f t hfN ht hne).mv0' hA hM (HU.out.zero hm9 f t hfN ht hne).names (HU.out.zero hm9 f t hfN ht hne).rows (HU.out.zero hm9 f t hfN ht hne).flok ((HU.out.zero hm9 f t hfN ht hne).cut _)))
        have zw10 : bs < w10.heap.size := Nat.lt_of_lt_of_le zV5 HS10.out
        go_upto_region 19 with fail
        go_cut [20, 21] from 147 to 161 (fun s20 s21 W => ∃ (b20 t : Nat) (aP aQ : Option Addr) (cP cQ : Nat), s20 = .pointer (some ⟨b20, 0, none⟩) ∧ s21 = .int .i64 0 ∧ t < k ∧ f ≠ t ∧ Blk W b20 #[.slice aP k cP, .slice aQ (m + 1) cQ] 44 ∧ W.ownsRow w10.heap.size 87 6 (.slice aP k cP) k (catC (acC A) k) ∧ W.ownsRow w10.heap.size 68 4 (.slice aQ (m + 1) cQ) (m + 1) (catC (mvC (upM M m ⟨f, t, 0, 0⟩)) (m + 1)) ∧ Drawn bs w10 W)
        case first =>
          (
 refine wp_region_held_drew (S := (fun W => Drawn bs w10 W)) (by kernel_rfl) ?_ (fun hH => ?_)
 · (try dsimp only); (exact hD.trans (Drawn.drew hD.seed))
 refine tkY 0 (some 148) ?_ ?_ ?_
 rotate_left
 · intro w hS0; (try dsimp only at hS0); obtain ⟨kB, -⟩ := HV.out _ hS0; obtain ⟨p0, p1⟩ := kB.c2; have y1 := kB.lt;go_simp; (try with_reducible rfl)
 (try simp only [cq])
 refine tkY 1 (some 149) ?_ ?_ ?_
 rotate_left
 · intro w _; go_simp; (try with_reducible rfl)
 (try simp only [cq])
 refine tkY 2 (some 150) ?_ ?_ ?_
 rotate_left
 · intro w _; go_simp; (try with_reducible rfl)
 (try simp only [cq])
 refine tkY 3 (some 151) ?_ ?_ ?_
 rotate_left
 · intro w _; go_simp; (try with_reducible rfl)
 (try simp only [cq])
 refine tkY 4 (some 152) ?_ ?_ ?_
 rotate_left
 · intro w _; go_simp; (try with_reducible rfl)
 (try simp only [cq])
 refine tkY 5 (some 153) ?_ ?_ ?_
 rotate_left
 · intro w _; go_simp; (try with_reducible rfl)
 (try simp only [cq])
 refine tkY 8 (some 156) ?_ ?_ ?_
 rotate_left
 · intro w _; go_simp; (try with_reducible rfl)
 (try simp only [cq])
 refine wpAnyH_ready (rs := [6, 15]) (by kernel_rfl) (by simp) ?_
 refine arc (some 154) (fun K hK => ?_) ?_
 {
 go_simp
 (refine (from_in 1 ((k : Int) - 1) bs _ hH.seed (by omega) (by omega) (by omega) (by omega)).mono ?_; rintro e w' ⟨d9, rfl, d0, d1, hd⟩; replace d1 : d9 ≤ (k : Int) - 1 := (by omega); obtain ⟨s9, hs9⟩ : ∃ s : Int, (f : Int) + d9 = s := ⟨_, rfl⟩; have e6 : IntKind.i64.wrap ((f : Int) + d9) = s9 := (by rw [hs9]; exact IntWalk.i64_in _ (by omega)); have HS9 := Lib.hid (show s9 = (f : Int) + d9 from hs9.symm); clear hs9; (try replace k20 := hd.blk k20 (seed_ne k20 hH.seed (by decide))))
 refine hK.out _ _ ?_ ?_
 · (exact hH.trans hd)
 (try clear hH); (try clear hd); (try clear hb)
 intro hH
 clear hK K
 (try simp only [cq])
 refine tkY 7 (some 155) ?_ ?_ ?_
 rotate_left
 · intro w _; go_simp; (try with_reducible rfl)
 (try simp only [cq])
 refine wpAnyH_ready (rs := [9, 15]) (by kernel_rfl) (by simp) ?_
 refine arc (some 157) (fun K hK => ?_) ?_
 {
 go_simp
 ((try rw [e6]); refine (wrap_any s9 k (by have := HS9.out; omega) (by have := HS9.out; omega) (by have := HS9.out; omega) (by have := HS9.out; omega) _).mono ?_; rintro e w' ⟨rfl, rfl⟩; obtain ⟨m0, m1, m2⟩ := wrap_move f d9 k (by omega) (by omega) d0 d1; rw [← HS9.out] at m0 m1 m2; obtain ⟨t, ht9⟩ : ∃ t : Nat, s9 % k = t := ⟨(s9 % k).toNat, by omega⟩; rw [ht9] at m0 m1 m2 ⊢; have htN : t < k := (by omega); have htf : f ≠ t := (by omega); clear m0 m1 m2 ht9)
 refine hK.out _ _ ?_ ?_
 · exact hH
 (try clear hH); (try clear hd); (try clear hb)
 intro hH
 clear hK K
 (try simp only [cq])
 refine tkY 10 (some 158) ?_ ?_ ?_
 rotate_left
 · intro w _; go_simp; (try with_reducible rfl)
 (try simp only [cq])
 refine wpAnyH_ready (rs := [11, 15]) (by kernel_rfl) (by simp) ?_
 refine arc (some 159) (fun K hK => ?_) ?_
 {
 go_simp
 (have zz := hH.2.size; refine (HPo.out t htN htf _ hH).mono ?_; rintro e w' ⟨vP, vQ, rfl, rP, rQ, hb⟩; obtain ⟨aP, cP, rfl, -, -, -⟩ := row_at rP (by omega); obtain ⟨aQ, cQ, rfl, -, -, -⟩ := row_at rQ (by omega); replace rP := ownsRow_base (b1 := w10.heap.size) rP (by first | exact zz | simpa using zz); replace rQ := ownsRow_base (b1 := w10.heap.size) rQ (by first | exact zz | simpa using zz); (try replace k20 := k20.call hb); clear zz)
 refine hK.out _ _ ?_ ?_
 · exact hH.after hb
 (try clear hH); (try clear hd); (try clear hb)
 intro hH
 clear hK K
 (try simp only [cq])
 refine tkY 12 (some 147) ?_ ?_ ?_
 rotate_left
 · intro w _; go_simp; (try with_reducible rfl)
 (try simp only [cq])
 refine tkY 13 (some 160) ?_ ?_ ?_
 rotate_left
 · intro w _; go_simp; (try with_reducible rfl)
 (try simp only [cq])
 refine tkY 14 (some 161) ?_ ?_ ?_
 rotate_left
 · intro w _; go_simp; (try with_reducible rfl)
 (try simp only [cq])
 refine wpAnyH_ready (rs := [15]) (by kernel_rfl) (by simp) ?_
 refine arc1 (some 20) fun K hK => ?_
 have z20 := hH.2.size
 go_simp
 first | refine oA hK ?_ (fun hH hA => ?_) | refine oD hK ?_ (fun hH hA => ?_)
 · (first | exact hH.new _ | exact (hH.new _).trans (Drawn.drew (hH.new _).seed))
 obtain ⟨b20, hbA⟩ : ∃ b, Blk.num hA = b := ⟨_, rfl⟩
 obtain ⟨V9, hV⟩ : ∃ V, Blk.wld hA = V := ⟨_, rfl⟩
 simp only [Blk.num] at hbA
 simp only [Blk.wld] at hV
 (try first | replace rP := awR hV rP | replace rP := awR3 hV rP)
 (try first | replace rQ := awR hV rQ | replace rQ := awR3 hV rQ)
 rw [hV] at hH hA ⊢
 rw [hbA] at hA ⊢
 replace z20 : w10.heap.size ≤ b20 := (by rw [← hbA]; exact z20)
 clear hV hbA
 have k20 := hA
 clear hA
 clear hK K
 (try simp only [cq])
 refine wpAnyH_ready (rs := [16]) (by kernel_rfl) (by simp) ?_
 refine arc1 none fun K hK => ?_
 obtain ⟨r0, r1⟩ := k20.c2
 have g0' := k20.free 0
 have g1' := k20.free 1
 have zT := k20.lt
 have KK := Lib.hid (And.intro ((k20.set 0 (.slice aP k cP)).set 1 (.slice aQ (m + 1) cQ)) (And.intro (row_other2 rP (b := b20) (row_blk_ne rP k20 (by decide)) 0 1 (.slice aP k cP) (.slice aQ (m + 1) cQ)) (And.intro (row_other2 rQ (b := b20) (row_blk_ne rQ k20 (by decide)) 0 1 (.slice aP k cP) (.slice aQ (m + 1) cQ)) ((hH.set (p := ⟨b20, 0, none⟩) z20 zw10 (.slice aP k cP)).set (p := ⟨b20, 1, none⟩) z20 zw10 (.slice aQ (m + 1) cQ)))))
 clear rP rQ k20
 go_simp
 refine hK.out _ _ ?_ ?_
 · exact KK.out.2.2.2
 (try clear hH); (try clear hd); (try clear hb)
 intro hH
 clear hK K
 (try simp only [cq])
 refine tkY 17 (some 21) ?_ ?_ ?_
 rotate_left
 · intro w _; go_simp; (try with_reducible rfl)
 (try simp only [cq])
 refine wpAnyH_done (by kernel_rfl) ?_ _
 (try dsimp only [Act.put])
 (try simp only [cq])
 clear hH r0 r1 g0' g1' zT
 go_wp2_with fail
 go_meet
 exact ⟨b20, t, aP, aQ, cP, cQ, rfl, rfl, htN, htf, KK.out.1, KK.out.2.1, KK.out.2.2.1, KK.out.2.2.2⟩
 }
 refine arc (some 20) (fun K hK => ?_) ?_
 {
 have z20 := hH.2.size
 go_simp
 first | refine oA hK ?_ (fun hH hA => ?_) | refine oD hK ?_ (fun hH hA => ?_)
 · (first | exact hH.new _ | exact (hH.new _).trans (Drawn.drew (hH.new _).seed))
 obtain ⟨b20, hbA⟩ : ∃ b, Blk.num hA = b := ⟨_, rfl⟩
 obtain ⟨V9, hV⟩ : ∃ V, Blk.wld hA = V := ⟨_, rfl⟩
 simp only [Blk.num] at hbA
 simp only [Blk.wld] at hV
 (try first | replace rP := awR hV rP | replace rP := awR3 hV rP)
 (try first | replace rQ := awR hV rQ | replace rQ := awR3 hV rQ)
 rw [hV] at hH hA ⊢
 rw [hbA] at hA ⊢
 replace z20 : w10.heap.size ≤ b20 := (by rw [← hbA]; exact z20)
 clear hV hbA
 have k20 := hA
 clear hA
 clear hK K
 (try simp only [cq])
 refine wpAnyH_ready (rs := [11]) (by kernel_rfl) (by simp) ?_
 refine arc1 (some 159) fun K hK => ?_
 go_simp
 (have zz := hH.2.size; refine (HPo.out t htN htf _ hH).mono ?_; rintro e w' ⟨vP, vQ, rfl, rP, rQ, hb⟩; obtain ⟨aP, cP, rfl, -, -, -⟩ := row_at rP (by omega); obtain ⟨aQ, cQ, rfl, -, -, -⟩ := row_at rQ (by omega); replace rP := ownsRow_base (b1 := w10.heap.size) rP (by first | exact zz | simpa using zz); replace rQ := ownsRow_base (b1 := w10.heap.size) rQ (by first | exact zz | simpa using zz); (try replace k20 := k20.call hb); clear zz)
 refine hK.out _ _ ?_ ?_
 · exact hH.after hb
 (try clear hH); (try clear hd); (try clear hb)
 intro hH
 clear hK K
 (try simp only [cq])
 refine tkY 12 (some 147) ?_ ?_ ?_
 rotate_left
 · intro w _; go_simp; (try with_reducible rfl)
 (try simp only [cq])
 refine tkY 13 (some 160) ?_ ?_ ?_
 rotate_left
 · intro w _; go_simp; (try with_reducible rfl)
 (try simp only [cq])
 refine tkY 14 (some 161) ?_ ?_ ?_
 rotate_left
 · intro w _; go_simp; (try with_reducible rfl)
 (try simp only [cq])
 refine wpAnyH_ready (rs := [16]) (by kernel_rfl) (by simp) ?_
 refine arc1 none fun K hK => ?_
 obtain ⟨r0, r1⟩ := k20.c2
 have g0' := k20.free 0
 have g1' := k20.free 1
 have zT := k20.lt
 have KK := Lib.hid (And.intro ((k20.set 0 (.slice aP k cP)).set 1 (.slice aQ (m + 1) cQ)) (And.intro (row_other2 rP (b := b20) (row_blk_ne rP k20 (by decide)) 0 1 (.slice aP k cP) (.slice aQ (m + 1) cQ)) (And.intro (row_other2 rQ (b := b20) (row_blk_ne rQ k20 (by decide)) 0 1 (.slice aP k cP) (.slice aQ (m + 1) cQ)) ((hH.set (p := ⟨b20, 0, none⟩) z20 zw10 (.slice aP k cP)).set (p := ⟨b20, 1, none⟩) z20 zw10 (.slice aQ (m + 1) cQ)))))
 clear rP rQ k20
 go_simp
 refine hK.out _ _ ?_ ?_
 · exact KK.out.2.2.2
 (try clear hH); (try clear hd); (try clear hb)
 intro hH
 clear hK K
 (try simp only [cq])
 refine tkY 17 (some 21) ?_ ?_ ?_
 rotate_left
 · intro w _; go_simp; (try with_reducible rfl)
 (try simp only [cq])
 refine wpAnyH_done (by kernel_rfl) ?_ _
 (try dsimp only [Act.put])
 (try simp only [cq])
 clear hH r0 r1 g0' g1' zT
 go_wp2_with fail
 go_meet
 exact ⟨b20, t, aP, aQ, cP, cQ, rfl, rfl, htN, htf, KK.out.1, KK.out.2.1, KK.out.2.2.1, KK.out.2.2.2⟩
 }
 exact AllReadyH.nil
 }
 refine arc (some 20) (fun K hK => ?_) ?_
 {
 have z20 := hH.2.size
 go_simp
 first | refine oA hK ?_ (fun hH hA => ?_) | refine oD hK ?_ (fun hH hA => ?_)
 · (first | exact hH.new _ | exact (hH.new _).trans (Drawn.drew (hH.new _).seed))
 obtain ⟨b20, hbA⟩ : ∃ b, Blk.num hA = b := ⟨_, rfl⟩
 obtain ⟨V9, hV⟩ : ∃ V, Blk.wld hA = V := ⟨_, rfl⟩
 simp only [Blk.num] at hbA
 simp only [Blk.wld] at hV
 (try first | replace rP := awR hV rP | replace rP := awR3 hV rP)
 (try first | replace rQ := awR hV rQ | replace rQ := awR3 hV rQ)
 rw [hV] at hH hA ⊢
 rw [hbA] at hA ⊢
 replace z20 : w10.heap.size ≤ b20 := (by rw [← hbA]; exact z20)
 clear hV hbA
 have k20 := hA
 clear hA
 clear hK K
 (try simp only [cq])
 refine wpAnyH_ready (rs := [9]) (by kernel_rfl) (by simp) ?_
 refine arc1 (some 157) fun K hK => ?_
 go_simp
 ((try rw [e6]); refine (wrap_any s9 k (by have := HS9.out; omega) (by have := HS9.out; omega) (by have := HS9.out; omega) (by have := HS9.out; omega) _).mono ?_; rintro e w' ⟨rfl, rfl⟩; obtain ⟨m0, m1, m2⟩ := wrap_move f d9 k (by omega) (by omega) d0 d1; rw [← HS9.out] at m0 m1 m2; obtain ⟨t, ht9⟩ : ∃ t : Nat, s9 % k = t := ⟨(s9 % k).toNat, by omega⟩; rw [ht9] at m0 m1 m2 ⊢; have htN : t < k := (by omega); have htf : f ≠ t := (by omega); clear m0 m1 m2 ht9)
 refine hK.out _ _ ?_ ?_
 · exact hH
 (try clear hH); (try clear hd); (try clear hb)
 intro hH
 clear hK K
 (try simp only [cq])
 refine tkY 10 (some 158) ?_ ?_ ?_
 rotate_left
 · intro w _; go_simp; (try with_reducible rfl)
 (try simp only [cq])
 refine wpAnyH_ready (rs := [11]) (by kernel_rfl) (by simp) ?_
 refine arc1 (some 159) fun K hK => ?_
 go_simp
 (have zz := hH.2.size; refine (HPo.out t htN htf _ hH).mono ?_; rintro e w' ⟨vP, vQ, rfl, rP, rQ, hb⟩; obtain ⟨aP, cP, rfl, -, -, -⟩ := row_at rP (by omega); obtain ⟨aQ, cQ, rfl, -, -, -⟩ := row_at rQ (by omega); replace rP := ownsRow_base (b1 := w10.heap.size) rP (by first | exact zz | simpa using zz); replace rQ := ownsRow_base (b1 := w10.heap.size) rQ (by first | exact zz | simpa using zz); (try replace k20 := k20.call hb); clear zz)
 refine hK.out _ _ ?_ ?_
 · exact hH.after hb
 (try clear hH); (try clear hd); (try clear hb)
 intro hH
 clear hK K
 (try simp only [cq])
 refine tkY 12 (some 147) ?_ ?_ ?_
 rotate_left
 · intro w _; go_simp; (try with_reducible rfl)
 (try simp only [cq])
 refine tkY 13 (some 160) ?_ ?_ ?_
 rotate_left
 · intro w _; go_simp; (try with_reducible rfl)
 (try simp only [cq])
 refine tkY 14 (some 161) ?_ ?_ ?_
 rotate_left
 · intro w _; go_simp; (try with_reducible rfl)
 (try simp only [cq])
 refine wpAnyH_ready (rs := [16]) (by kernel_rfl) (by simp) ?_
 refine arc1 none fun K hK => ?_
 obtain ⟨r0, r1⟩ := k20.c2
 have g0' := k20.free 0
 have g1' := k20.free 1
 have zT := k20.lt
 have KK := Lib.hid (And.intro ((k20.set 0 (.slice aP k cP)).set 1 (.slice aQ (m + 1) cQ)) (And.intro (row_other2 rP (b := b20) (row_blk_ne rP k20 (by decide)) 0 1 (.slice aP k cP) (.slice aQ (m + 1) cQ)) (And.intro (row_other2 rQ (b := b20) (row_blk_ne rQ k20 (by decide)) 0 1 (.slice aP k cP) (.slice aQ (m + 1) cQ)) ((hH.set (p := ⟨b20, 0, none⟩) z20 zw10 (.slice aP k cP)).set (p := ⟨b20, 1, none⟩) z20 zw10 (.slice aQ (m + 1) cQ)))))
 clear rP rQ k20
 go_simp
 refine hK.out _ _ ?_ ?_
 · exact KK.out.2.2.2
 (try clear hH); (try clear hd); (try clear hb)
 intro hH
 clear hK K
 (try simp only [cq])
 refine tkY 17 (some 21) ?_ ?_ ?_
 rotate_left
 · intro w _; go_simp; (try with_reducible rfl)
 (try simp only [cq])
 refine wpAnyH_done (by kernel_rfl) ?_ _
 (try dsimp only [Act.put])
 (try simp only [cq])
 clear hH r0 r1 g0' g1' zT
 go_wp2_with fail
 go_meet
 exact ⟨b20, t, aP, aQ, cP, cQ, rfl, rfl, htN, htf, KK.out.1, KK.out.2.1, KK.out.2.2.1, KK.out.2.2.2⟩
 }
 exact AllReadyH.nil
 }
 refine arc (some 20) (fun K hK => ?_) ?_
 {
 have z20 := hH.2.size
 go_simp
 first | refine oA hK ?_ (fun hH hA => ?_) | refine oD hK ?_ (fun hH hA => ?_)
 · (first | exact hH.new _ | exact (hH.new _).trans (Drawn.drew (hH.new _).seed))
 obtain ⟨b20, hbA⟩ : ∃ b, Blk.num hA = b := ⟨_, rfl⟩
 obtain ⟨V9, hV⟩ : ∃ V, Blk.wld hA = V := ⟨_, rfl⟩
 simp only [Blk.num] at hbA
 simp only [Blk.wld] at hV
 (try first | replace rP := awR hV rP | replace rP := awR3 hV rP)
 (try first | replace rQ := awR hV rQ | replace rQ := awR3 hV rQ)
 rw [hV] at hH hA ⊢
 rw [hbA] at hA ⊢
 replace z20 : w10.heap.size ≤ b20 := (by rw [← hbA]; exact z20)
 clear hV hbA
 have k20 := hA
 clear hA
 clear hK K
 (try simp only [cq])
 refine wpAnyH_ready (rs := [6]) (by kernel_rfl) (by simp) ?_
 refine arc1 (some 154) fun K hK => ?_
 go_simp
 (refine (from_in 1 ((k : Int) - 1) bs _ hH.seed (by omega) (by omega) (by omega) (by omega)).mono ?_; rintro e w' ⟨d9, rfl, d0, d1, hd⟩; replace d1 : d9 ≤ (k : Int) - 1 := (by omega); obtain ⟨s9, hs9⟩ : ∃ s : Int, (f : Int) + d9 = s := ⟨_, rfl⟩; have e6 : IntKind.i64.wrap ((f : Int) + d9) = s9 := (by rw [hs9]; exact IntWalk.i64_in _ (by omega)); have HS9 := Lib.hid (show s9 = (f : Int) + d9 from hs9.symm); clear hs9; (try replace k20 := hd.blk k20 (seed_ne k20 hH.seed (by decide))))
 refine hK.out _ _ ?_ ?_
 · (exact hH.trans hd)
 (try clear hH); (try clear hd); (try clear hb)
 intro hH
 clear hK K
 (try simp only [cq])
 refine tkY 7 (some 155) ?_ ?_ ?_
 rotate_left
 · intro w _; go_simp; (try with_reducible rfl)
 (try simp only [cq])
 refine wpAnyH_ready (rs := [9]) (by kernel_rfl) (by simp) ?_
 refine arc1 (some 157) fun K hK => ?_
 go_simp
 ((try rw [e6]); refine (wrap_any s9 k (by have := HS9.out; omega) (by have := HS9.out; omega) (by have := HS9.out; omega) (by have := HS9.out; omega) _).mono ?_; rintro e w' ⟨rfl, rfl⟩; obtain ⟨m0, m1, m2⟩ := wrap_move f d9 k (by omega) (by omega) d0 d1; rw [← HS9.out] at m0 m1 m2; obtain ⟨t, ht9⟩ : ∃ t : Nat, s9 % k = t := ⟨(s9 % k).toNat, by omega⟩; rw [ht9] at m0 m1 m2 ⊢; have htN : t < k := (by omega); have htf : f ≠ t := (by omega); clear m0 m1 m2 ht9)
 refine hK.out _ _ ?_ ?_
 · exact hH
 (try clear hH); (try clear hd); (try clear hb)
 intro hH
 clear hK K
 (try simp only [cq])
 refine tkY 10 (some 158) ?_ ?_ ?_
 rotate_left
 · intro w _; go_simp; (try with_reducible rfl)
 (try simp only [cq])
 refine wpAnyH_ready (rs := [11]) (by kernel_rfl) (by simp) ?_
 refine arc1 (some 159) fun K hK => ?_
 go_simp
 (have zz := hH.2.size; refine (HPo.out t htN htf _ hH).mono ?_; rintro e w' ⟨vP, vQ, rfl, rP, rQ, hb⟩; obtain ⟨aP, cP, rfl, -, -, -⟩ := row_at rP (by omega); obtain ⟨aQ, cQ, rfl, -, -, -⟩ := row_at rQ (by omega); replace rP := ownsRow_base (b1 := w10.heap.size) rP (by first | exact zz | simpa using zz); replace rQ := ownsRow_base (b1 := w10.heap.size) rQ (by first | exact zz | simpa using zz); (try replace k20 := k20.call hb); clear zz)
 refine hK.out _ _ ?_ ?_
 · exact hH.after hb
 (try clear hH); (try clear hd); (try clear hb)
 intro hH
 clear hK K
 (try simp only [cq])
 refine tkY 12 (some 147) ?_ ?_ ?_
 rotate_left
 · intro w _; go_simp; (try with_reducible rfl)
 (try simp only [cq])
 refine tkY 13 (some 160) ?_ ?_ ?_
 rotate_left
 · intro w _; go_simp; (try with_reducible rfl)
 (try simp only [cq])
 refine tkY 14 (some 161) ?_ ?_ ?_
 rotate_left
 · intro w _; go_simp; (try with_reducible rfl)
 (try simp only [cq])
 refine wpAnyH_ready (rs := [16]) (by kernel_rfl) (by simp) ?_
 refine arc1 none fun K hK => ?_
 obtain ⟨r0, r1⟩ := k20.c2
 have g0' := k20.free 0
 have g1' := k20.free 1
 have zT := k20.lt
 have KK := Lib.hid (And.intro ((k20.set 0 (.slice aP k cP)).set 1 (.slice aQ (m + 1) cQ)) (And.intro (row_other2 rP (b := b20) (row_blk_ne rP k20 (by decide)) 0 1 (.slice aP k cP) (.slice aQ (m + 1) cQ)) (And.intro (row_other2 rQ (b := b20) (row_blk_ne rQ k20 (by decide)) 0 1 (.slice aP k cP) (.slice aQ (m + 1) cQ)) ((hH.set (p := ⟨b20, 0, none⟩) z20 zw10 (.slice aP k cP)).set (p := ⟨b20, 1, none⟩) z20 zw10 (.slice aQ (m + 1) cQ)))))
 clear rP rQ k20
 go_simp
 refine hK.out _ _ ?_ ?_
 · exact KK.out.2.2.2
 (try clear hH); (try clear hd); (try clear hb)
 intro hH
 clear hK K
 (try simp only [cq])
 refine tkY 17 (some 21) ?_ ?_ ?_
 rotate_left
 · intro w _; go_simp; (try with_reducible rfl)
 (try simp only [cq])
 refine wpAnyH_done (by kernel_rfl) ?_ _
 (try dsimp only [Act.put])
 (try simp only [cq])
 clear hH r0 r1 g0' g1' zT
 go_wp2_with fail
 go_meet
 exact ⟨b20, t, aP, aQ, cP, cQ, rfl, rfl, htN, htf, KK.out.1, KK.out.2.1, KK.out.2.2.1, KK.out.2.2.2⟩
 }
 exact AllReadyH.nil )
        case rest =>
        clear hD HPo
        obtain ⟨b20, t, aP, aQ, cP, cQ, rfl, rfl, htN, htf, k20, rP, rQ, hD⟩ := hcut
        obtain ⟨V9, hV⟩ : ∃ V, Blk.wld k20 = V := ⟨_, rfl⟩
        simp only [Blk.wld] at hV
        replace k20 : Blk V9 b20 #[.slice aP k cP, .slice aQ (m + 1) cQ] 44 := (by rw [← hV]; exact k20)
        rw [hV] at rP rQ hD ⊢
        clear hV
        have hZU := HU.out.zero hm9 f t hfN htN htf
        obtain ⟨PA, hPA⟩ : ∃ K, (knA (flE k A (m + 1) (upM M m ⟨f, t, 0, 0⟩)) (flN k (m + 1)) (2 ^ (k + 1))).1 = K := ⟨_, rfl⟩
        obtain ⟨PB, hPB⟩ : ∃ K, (knA (flE k A (m + 1) (upM M m ⟨f, t, 0, 0⟩)) (flN k (m + 1)) (2 ^ (k + 1))).2 = K := ⟨_, rfl⟩
        have HZ2 := Lib.hid (fun j (hj : j ≤ k) => (show PA (2 * k + (m + 1) + j) = KA (2 * k + m + j) ∧ PB (2 * k + (m + 1) + j) = KB (2 * k + m + j) by rw [← hPA, ← hPB]; exact HZ.out f t hfN htN htf j hj))
        have H6 := Lib.hid (losses_ok k A (m + 1) (upM M m ⟨f, t, 0, 0⟩) _ _ V9 hn8 hm9 hZU.mv0' (lat_of_row rP (by omega) (fun _ _ => rfl)) (lat_of_row rQ (by omega) (fun _ _ => rfl)) hZU.names hZU.rows hZU.flok (hZU.cut _) PA PB hPA hPB)
        clear hZU hPA hPB HZ
        obtain ⟨x0, x1⟩ := k20.c2
        go_wp2_with fail
        clear x0 x1
        refine H6.out.mono ?_
        rintro e w13 ⟨vk, rfl, rk, hb⟩
        obtain ⟨ak, ck, rfl, -, -, -⟩ := row_at rk (by omega)
        obtain ⟨q0, q1⟩ := HZ2.out k (Nat.le_refl _)
        rw [HG.out.1] at q0
        rw [HG.out.2] at q1
        rw [q0, q1]
        have gk := lat_of_row rk (by omega) (fun _ _ => rfl)
        replace hD := hD.after hb
        clear hb rk H6 q0 q1 rP rQ k20
        have k23 := Blk.new w13 #[.int .i64 g0, .int .i64 g1] 26
        have hn6 : Below w13.heap.size w13 (w13.alloc (.cells #[.int .i64 g0, .int .i64 g1] 26)) := by (repeat (first | exact Below.refl _ _ | assumption | refine Below.drew ?_ | refine Below.drewN ?_ _ | refine blT ?_ | refine blU ?_))
        replace gk := gk.later hn6
        replace hD := hD.new (.cells #[.int .i64 g0, .int .i64 g1] 26)
        clear hn6
        obtain ⟨-, k8, -⟩ := HV.out _ hD
        obtain ⟨x0, x1⟩ := k8.c2
        obtain ⟨x2, x3⟩ := k23.c2
        go_wp2_with fail
        clear x0 x1 x2 x3 k8
        obtain ⟨-, -, -, -, rl, -⟩ := HV.out _ hD
        refine (same_ok k _ _ _ _ (fun i hi => ⟨(HZ2.out i (by omega)).1.symm, (HZ2.out i (by omega)).2.symm⟩) _ _ _ (lat_of_row rl (by omega) (fun _ _ => rfl)) gk).mono ?_
        rintro e w14 ⟨rfl, hb⟩
        replace hD := hD.after hb
        clear hb rl gk k23
        go_wp2_with fail
        refine (HAw.out _).mono ?_
        rintro e w15 ⟨rfl, hb⟩
        have hB2 := HBD.out _ (HV.out _ (hD.after hb)).2.2.2.2.2.2.2.2
        clear hb
        go_wp2
        go_ret
        exact ⟨rfl, hB2⟩
end Go.Proofs.Ytpeogfcfiabcfaa
