/-
  The kit's FrostOf: a valid law.
-/
import Derived.Test.YtdbiijldincoiaaGreatTail
import Derived.Test.YtdbiijldincoiaaGreatKit
import Derived.Test.YtdbiijldincoiaaGreatRun
import Derived.IntWalk
set_option linter.unusedVariables false
set_option linter.unusedSimpArgs false
namespace Go.Proofs.YtdbiijldincoiaaGreat
open Go.RowKit

theorem Drawn.row {bs : Nat} {w w' : World} {base : Nat} {e : TypeId} {size : Nat} {v : Value} {n : Nat} {xs : List Value} (g : Drawn bs w w') (h : w.ownsRow base e size v n xs) (hb : bs < base) : w'.ownsRow base e size v n xs :=
  h.kept g.2 (by
    cases hv : v.ownBlock with
    | none => exact .inl rfl
    | some k => exact .inr (fun e => by
        have := (h.lt k hv).1
        simp only [Option.some.injEq] at e
        omega))
theorem Blk.grown {w w' : World} {r : Option Nat} {b : Nat} {C : Array Value} {t : TypeId} (h : Blk w b C t) (g : w.grownBy w' r) (hr : ∀ k, r = some k → b < k) : Blk w' b C t :=
  (g.block b h.lt (fun e => by have := hr b e.symm; omega)).trans h
theorem Eight.grown {w w' : World} {r : Option Nat} {b : Nat} {t : TypeId} (h : Eight w b t) (g : w.grownBy w' r) (hr : ∀ k, r = some k → b < k) : Eight w' b t := by
  obtain ⟨x0, x1, x2, x3, x4, x5, x6, x7, h⟩ := h
  exact ⟨x0, x1, x2, x3, x4, x5, x6, x7, h.grown g hr⟩
theorem Drawn.grown {bs : Nat} {w V W : World} {r : Option Nat} (h : Drawn bs w V) (g : V.grownBy W r) (hr : ∀ k, r = some k → w.heap.size ≤ k) (hb : bs < w.heap.size) : Drawn bs w W := by
  obtain ⟨⟨u, hu⟩, hg⟩ := h
  refine ⟨⟨u, hu.grown g (fun k e => by have := hr k e; omega)⟩, g.os.trans hg.os, g.tape.trans hg.tape, g.output.trans hg.output, Nat.le_trans hg.size g.size, fun k hk hne => ?_⟩
  exact (g.block k (Nat.lt_of_lt_of_le hk hg.size) (fun e => by have := hr k e.symm; omega)).trans (hg.block k hk hne)
theorem Two.drawn {bs b : Nat} {t : TypeId} {w v : World} (g : Drawn bs w v) (h : Two w b t) (hne : b ≠ bs) : Two v b t := by
  obtain ⟨p, q, h⟩ := h
  exact ⟨p, q, g.blk h hne⟩

def upd (f : Nat → Int) (k : Nat) (v : Int) : Nat → Int := fun i => if i = k then v else f i
theorem upd_at (f : Nat → Int) (k : Nat) (v : Int) : upd f k v k = v := if_pos rfl
theorem upd_ne (f : Nat → Int) (k i : Nat) (v : Int) (h : i ≠ k) : upd f k v i = f i := if_neg h
structure CovOk (k : Nat) (D P0 P1 : Nat → Int) (d lo hi : Int) : Prop where
  each : ∀ i, i < k → 0 ≤ D i ∧ D i ≤ 480 ∧ 0 ≤ P0 i ∧ P0 i ≤ P1 i ∧ P1 i ≤ 1000000
  next : ∀ i, i + 1 < k → D i < D (i + 1) ∧ P0 (i + 1) ≤ P0 i ∧ P1 (i + 1) ≤ P1 i
  first : 0 < k → D 0 = 0
  last : ∀ i, i + 1 = k → D i < d ∧ lo ≤ P0 i ∧ hi ≤ P1 i
  zero : k = 0 → d = 0
  cur : 0 ≤ d ∧ d ≤ 120 * (k : Int) ∧ 0 ≤ lo ∧ lo ≤ hi ∧ hi ≤ 1000000
theorem CovOk.start (lo : Int) (h0 : 0 ≤ lo) (h1 : lo ≤ 1000000) : CovOk 0 (fun _ => 0) (fun _ => 0) (fun _ => 0) 0 lo 1000000 :=
  ⟨fun i hi => by omega, fun i hi => by omega, fun h => by omega, fun i hi => by omega, fun _ => rfl, by omega⟩
theorem CovOk.step {k : Nat} {D P0 P1 : Nat → Int} {d lo hi : Int} (h : CovOk k D P0 P1 d lo hi) (hk : k ≤ 3) (t lo' hi' : Int) (t1 : 1 ≤ t) (t2 : t ≤ 120) (l1 : 0 ≤ lo') (l2 : lo' ≤ lo) (l3 : lo' ≤ hi') (l4 : hi' ≤ hi) :
    CovOk (k + 1) (upd D k d) (upd P0 k lo) (upd P1 k hi) (d + t) lo' hi' := by
  obtain ⟨each, next, first, last, zero, cur⟩ := h
  refine ⟨fun i hi => ?_, fun i hi => ?_, fun _ => ?_, fun i hi => ?_, fun h => by omega, by omega⟩
  · by_cases e : i = k
    · subst e
      rw [upd_at, upd_at, upd_at]
      omega
    · rw [upd_ne _ _ _ _ e, upd_ne _ _ _ _ e, upd_ne _ _ _ _ e]
      exact each i (by omega)
  · have e1 : i ≠ k := by omega
    rw [upd_ne _ _ _ _ e1, upd_ne _ _ _ _ e1, upd_ne _ _ _ _ e1]
    by_cases e : i + 1 = k
    · have q := last i e
      subst e
      rw [upd_at, upd_at, upd_at]
      exact q
    · rw [upd_ne _ _ _ _ e, upd_ne _ _ _ _ e, upd_ne _ _ _ _ e]
      exact next i (by omega)
  · by_cases e : k = 0
    · subst e
      rw [upd_at]
      exact zero rfl
    · rw [upd_ne _ _ _ _ (by omega)]
      exact first (by omega)
  · obtain rfl : i = k := by omega
    rw [upd_at, upd_at, upd_at]
    omega
def covC (D P0 P1 : Nat → Int) : Nat → List Value
  | 0 => []
  | k + 1 => covC D P0 P1 k ++ [.int .i64 (D k), .int .i64 (P0 k), .int .i64 (P1 k)]
theorem covC_congr {D P0 P1 D' P0' P1' : Nat → Int} : ∀ k, (∀ i, i < k → D i = D' i ∧ P0 i = P0' i ∧ P1 i = P1' i) → covC D P0 P1 k = covC D' P0' P1' k
  | 0, _ => rfl
  | k + 1, h => by
    have q := h k (by omega)
    rw [covC, covC, covC_congr k (fun i hi => h i (by omega)), q.1, q.2.1, q.2.2]
theorem covC_upd (D P0 P1 : Nat → Int) (k : Nat) (d lo hi : Int) : covC (upd D k d) (upd P0 k lo) (upd P1 k hi) (k + 1) = covC D P0 P1 k ++ [.int .i64 d, .int .i64 lo, .int .i64 hi] := by
  rw [covC, upd_at, upd_at, upd_at, covC_congr k (fun i hi => ⟨upd_ne _ _ _ _ (by omega), upd_ne _ _ _ _ (by omega), upd_ne _ _ _ _ (by omega)⟩)]
theorem news3 (W : World) (a b c : Int) (t : TypeId) : ∀ (j : Nat) (u : Value), [Value.int .i64 a, .int .i64 b, .int .i64 c][j]? = some u → (W.alloc (.cells #[.int .i64 a, .int .i64 b, .int .i64 c] t)).cell? ((⟨W.heap.size, 0, none⟩ : Addr).add j) = some u := by
  intro j u h
  have hk := Blk.new W #[.int .i64 a, .int .i64 b, .int .i64 c] t
  have e : (⟨W.heap.size, 0, none⟩ : Addr).add j = ⟨W.heap.size, j, none⟩ := by simp [Addr.add]; intro hj; exact hj.symm
  rw [e]
  exact hk.cell j (by simpa using h)
theorem one3 (a b c : Int) : ∀ u ∈ [Value.int .i64 a, .int .i64 b, .int .i64 c], u.oneCell' = true := by
  intro u h
  simp only [List.mem_cons, List.not_mem_nil, or_false] at h
  rcases h with rfl | rfl | rfl <;> rfl
theorem Tryz.infoCover : (Tryz.prog.info? 74).map (fun i => (i.zero, i.size, i.bytes)) = some (some (.agg #[.int .i64 0, .int .i64 0, .int .i64 0]), 3, 24) := by kernel_rfl

structure Lw.Kit (l : Lw) : Prop where
  ok : l.Ok
  n4 : l.n ≤ 4
  each : ∀ i, i < l.n → 0 ≤ l.D i ∧ l.D i ≤ 480 ∧ 0 ≤ l.P0 i ∧ l.P0 i ≤ l.P1 i ∧ l.P1 i ≤ 1000000
  next : ∀ i, i + 1 < l.n → l.D i < l.D (i + 1) ∧ l.P0 (i + 1) ≤ l.P0 i ∧ l.P1 (i + 1) ≤ l.P1 i
  first : l.D 0 = 0
theorem lw_kit (gr la m0 m1 so h0 h1 : Int) {k : Nat} {D P0 P1 : Nat → Int} {d lo hi : Int} (h : CovOk k D P0 P1 d lo hi) (hk : 1 ≤ k) (hk4 : k ≤ 4) (a1 : 0 ≤ gr) (a2 : gr ≤ 10000) (a3 : 1 ≤ la) (a4 : la ≤ 30) (a5 : 0 ≤ m0) (a6 : m0 ≤ m1) (a7 : m1 ≤ 3000000) (a8 : 0 ≤ so) (a9 : so ≤ 1000000) (b1 : 0 ≤ h0) (b2 : h0 ≤ h1) (b3 : h1 ≤ 1000000) :
    Lw.Kit ⟨gr, la, k, D, P0, P1, m0, m1, so, h0, h1⟩ :=
  ⟨⟨a1, a2, a3, by simp only; omega, hk, fun i hi => by have := h.each i hi; simp only; omega, fun i hi => by have := h.each i hi; simp only; omega, a5, a6, by simp only; omega, a8, a9, b1, b2, b3⟩, hk4, h.each, h.next, h.first (by omega)⟩

set_option maxRecDepth 100000 in
set_option maxHeartbeats 8000000 in
theorem frostof_in (bs : Nat) (w : World) (hs : SeedAt bs w) :
    Calls Tryz.prog 9 #[.pointer (some ⟨bs, 0, none⟩)] w fun e w' => ∃ (l : Lw) (v : Value), e = .returned (.agg #[.int .i64 l.gr, .int .i64 l.la, v, .int .i64 l.m0, .int .i64 l.m1, .int .i64 l.so, .int .i64 l.h0, .int .i64 l.h1]) ∧ l.Kit ∧ w'.ownsRow (bs + 1) 74 3 v l.n (covC l.D l.P0 l.P1 l.n) ∧ Drawn bs w w' := by
  have hbs : bs < w.heap.size := hs.choose_spec.lt
  have hA := Drawn.alloc hs (.cells #[.int .i64 0, .int .i64 0, .slice none 0 0, .int .i64 0, .int .i64 0, .int .i64 0, .int .i64 0, .int .i64 0] 26)
  have jO : Eight _ _ _ := ⟨_, _, _, _, _, _, _, _, Blk.new w #[.int .i64 0, .int .i64 0, .slice none 0 0, .int .i64 0, .int .i64 0, .int .i64 0, .int .i64 0, .int .i64 0] 26⟩
  go_enter Tryz.func9, Tryz.ntmps9
  have hbl : 0 ≤ bs := Nat.zero_le _
  go_wp2_with fail
  refine (from_in 50 200 bs _ hA.seed (by omega) (by omega) (by omega) (by omega)).mono ?_
  rintro e w1 ⟨f1, rfl, f1l, f1h, hd⟩
  replace hA := hA.trans hd
  replace jO := jO.drawn hd (by omega)
  clear hd
  replace f1h : f1 ≤ 200 := by omega
  go_wp2_with fail
  refine (from_in 0 10000 bs _ hA.seed (by omega) (by omega) (by omega) (by omega)).mono ?_
  rintro e w2 ⟨f2, rfl, f2l, f2h, hd⟩
  replace hA := hA.trans hd
  replace jO := jO.drawn hd (by omega)
  clear hd
  replace f2h : f2 ≤ 10000 := by omega
  go_wp2_with fail
  refine (of3_in 0 f1 f2 0 10000 bs _ _ (by simp) hA.seed (by omega) (by omega) (by omega) (by omega) (by omega) (by omega)).mono ?_
  rintro e w3 ⟨gr, rfl, grl, grh, hd⟩
  replace hA := (hA.new (.cells #[.int .i64 0, .int .i64 f1, .int .i64 f2] 3)).trans hd
  replace jO := (jO.alloc (.cells #[.int .i64 0, .int .i64 f1, .int .i64 f2] 3)).drawn hd (by omega)
  clear hd
  go_wp2_with fail
  refine (from_in 2 30 bs _ hA.seed (by omega) (by omega) (by omega) (by omega)).mono ?_
  rintro e w4 ⟨f3, rfl, f3l, f3h, hd⟩
  replace hA := hA.trans hd
  replace jO := jO.drawn hd (by omega)
  clear hd
  replace f3h : f3 ≤ 30 := by omega
  go_wp2_with fail
  refine (of2_in 1 f3 1 30 bs _ _ (by simp) hA.seed (by omega) (by omega) (by omega) (by omega)).mono ?_
  rintro e w5 ⟨la, rfl, lal, lah, hd⟩
  replace hA := (hA.new (.cells #[.int .i64 1, .int .i64 f3] 3)).trans hd
  replace jO := (jO.alloc (.cells #[.int .i64 1, .int .i64 f3] 3)).drawn hd (by omega)
  clear hd
  go_wp2_with fail
  refine (of2_in 300000 3000000 0 3000000 bs _ _ (by simp) hA.seed (by decide) (by decide) (by decide) (by decide)).mono ?_
  rintro e w6 ⟨mm, rfl, mml, mmh, hd⟩
  replace hA := (hA.new (.cells #[.int .i64 300000, .int .i64 3000000] 3)).trans hd
  replace jO := (jO.alloc (.cells #[.int .i64 300000, .int .i64 3000000] 3)).drawn hd (by omega)
  clear hd
  go_wp2_with fail
  refine (kspan_in 0 mm bs _ hA.seed (by omega) (by omega) (by omega)).mono ?_
  rintro e w7 ⟨m0, m1, rfl, m0l, m01, m1h, hd⟩
  replace hA := hA.trans hd
  replace jO := jO.drawn hd (by omega)
  clear hd
  go_wp2_with fail
  refine (from_in 0 1000000 bs _ hA.seed (by omega) (by omega) (by omega) (by omega)).mono ?_
  rintro e w8 ⟨so, rfl, sol, soh, hd⟩
  replace hA := hA.trans hd
  replace jO := jO.drawn hd (by omega)
  clear hd
  replace soh : so ≤ 1000000 := by omega
  go_wp2_with fail
  refine (kspan_in 0 1000000 bs _ hA.seed (by decide) (by decide) (by decide)).mono ?_
  rintro e w9 ⟨h0, h1, rfl, h0l, h01, h1h, hd⟩
  replace hA := hA.trans hd
  replace jO := jO.drawn hd (by omega)
  clear hd
  replace m1h : m1 ≤ 3000000 := by omega
  clear f1l f1h f2l f2h f3l f3h mml mmh
  have zO := jO.lt
  have jL := Blk.new w9 #[.int .i64 gr, .int .i64 la, .slice none 0 0, .int .i64 m0, .int .i64 m1, .int .i64 so, .int .i64 h0, .int .i64 h1] 26
  replace hA := hA.new (.cells #[.int .i64 gr, .int .i64 la, .slice none 0 0, .int .i64 m0, .int .i64 m1, .int .i64 so, .int .i64 h0, .int .i64 h1] 26)
  replace jO := jO.alloc (.cells #[.int .i64 gr, .int .i64 la, .slice none 0 0, .int .i64 m0, .int .i64 m1, .int .i64 so, .int .i64 h0, .int .i64 h1] 26)
  go_wp2_with fail
  refine (from_in 500000 1000000 bs _ hA.seed (by omega) (by omega) (by omega) (by omega)).mono ?_
  rintro e wp ⟨lo, rfl, lol, loh, hd⟩
  replace loh : lo ≤ 1000000 := by omega
  replace jL := hd.blk jL (by omega)
  replace jO := jO.drawn hd (by omega)
  replace hA := hA.trans hd
  clear hd
  have zL := jL.lt
  have jP := Blk.new wp #[.int .i64 lo, .int .i64 1000000] 24
  replace hA := hA.new (.cells #[.int .i64 lo, .int .i64 1000000] 24)
  replace jL := jL.alloc (.cells #[.int .i64 lo, .int .i64 1000000] 24)
  replace jO := jO.alloc (.cells #[.int .i64 lo, .int .i64 1000000] 24)
  go_wp2_with fail
  refine (from_in 1 4 bs _ hA.seed (by omega) (by omega) (by omega) (by omega)).mono ?_
  rintro e wq ⟨c, rfl, cl, ch, hd⟩
  replace ch : c ≤ 4 := by omega
  replace jL := hd.blk jL (by omega)
  replace jP := hd.blk jP (by omega)
  replace jO := jO.drawn hd (by omega)
  replace hA := hA.trans hd
  clear hd
  have zP := jP.lt
  obtain ⟨bO, hbO⟩ : ∃ b, w.heap.size = b := ⟨_, rfl⟩
  obtain ⟨bL, hbL⟩ : ∃ b, w9.heap.size = b := ⟨_, rfl⟩
  obtain ⟨bP, hbP⟩ : ∃ b, wp.heap.size = b := ⟨_, rfl⟩
  have zwb : w.heap.size ≤ bO := by omega
  rw [hbL] at zO zL jL ⊢
  rw [hbP] at zL zP jP ⊢
  rw [hbO] at zO jO ⊢
  clear hbO hbL hbP
  have zLP : bL < bP := zL
  obtain ⟨base, hbase⟩ : ∃ b, wq.heap.size = b := ⟨_, rfl⟩
  rw [hbase] at zP
  obtain ⟨c, rfl⟩ := Int.eq_ofNat_of_zero_le (show 0 ≤ c by omega)
  have jR := World.ownsRow_nil wq base 74 3
  obtain ⟨i0, hi0, hz0, hz1, hz2⟩ := info_parts Tryz.infoCover
  go_wp2_with fail
  go_loopw [5, 6] (fun dp ip wr => ∃ (k j : Nat) (d lo hi : Int) (D P0 P1 : Nat → Int) (v : Value), dp = .int .i64 d ∧ ip = .int .i64 j ∧ k + j ≤ 4 ∧ 1 ≤ k + j ∧ CovOk k D P0 P1 d lo hi ∧ Blk wr bL #[.int .i64 gr, .int .i64 la, v, .int .i64 m0, .int .i64 m1, .int .i64 so, .int .i64 h0, .int .i64 h1] 26 ∧ Blk wr bP #[.int .i64 lo, .int .i64 hi] 24 ∧ wr.ownsRow base 74 3 v k (covC D P0 P1 k) ∧ Eight wr bO 26 ∧ Drawn bs w wr ∧ base ≤ wr.heap.size) (fun _ ip _ => (intOf ip).toNat)
  case atStart => exact ⟨0, c, 0, lo, 1000000, _, _, _, _, rfl, rfl, by omega, by omega, CovOk.start lo (by omega) loh, jL, jP, jR, jO, hA, by omega⟩
  case round =>
    obtain ⟨k, j, d, lo, hi, D, P0, P1, v, rfl, rfl, hkj, hkj1, hC, jL, jP, jR, jO, hA, zB⟩ := hrel
    by_cases hj : 0 < j
    · obtain ⟨j, rfl⟩ : ∃ i, j = i + 1 := ⟨j - 1, by omega⟩
      obtain ⟨l0, l1, l2, l3, l4, l5, l6, l7⟩ := jL.c8
      obtain ⟨p0, p1⟩ := jP.c2
      have zL1 := jL.lt
      have zP1 := jP.lt
      have fL := jL.free 2
      have hcur := hC.cur
      have hr : ∀ q, v.ownBlock = some q → base ≤ q := fun q e => (jR.lt q e).1
      go_wp2_with (at_builtin; refine wpList_append_own_at _ rfl _ _ 22 rfl base 74 i0 (.agg #[.int .i64 0, .int .i64 0, .int .i64 0]) 3 24 Tryz.underlying22 hi0 hz0 hz1 hz2 rfl (by decide) _ _ _ rfl (jR.alloc _) ⟨wr.heap.size, 0, none⟩ 1 1 [.int .i64 d, .int .i64 lo, .int .i64 hi] rfl rfl (news3 _ _ _ _ _) (one3 _ _ _) (by unfold maxLen; omega) (by omega) (by simp; omega) ?_; intro v' w1 hown' hgrow _ _; rw [← covC_upd] at hown'; obtain ⟨g', cap', rfl⟩ := ownsRow_succ hown'; have kL := (jL.alloc (.cells #[.int .i64 d, .int .i64 lo, .int .i64 hi] 74)).grown hgrow (fun q e => by have := hr q e; omega); have kP := (jP.alloc (.cells #[.int .i64 d, .int .i64 lo, .int .i64 hi] 74)).grown hgrow (fun q e => by have := hr q e; omega); have kO := (jO.alloc (.cells #[.int .i64 d, .int .i64 lo, .int .i64 hi] 74)).grown hgrow (fun q e => by have := hr q e; omega); have kA := (hA.new (.cells #[.int .i64 d, .int .i64 lo, .int .i64 hi] 74)).grown hgrow (fun q e => by have := hr q e; omega) hbs; have kB : base ≤ w1.heap.size := (by have := hgrow.size; simp at this; omega); clear l0 l1 l2 l3 l4 l5 l6 l7 p0 p1 zL1 zP1 fL; obtain ⟨l0, l1, l2, l3, l4, l5, l6, l7⟩ := kL.c8; have fL := kL.free 2; have zL1 := kL.lt)
      clear hgrow jL jP jO hA jR zB hr
      have kL2 : Blk _ _ #[.int .i64 gr, .int .i64 la, (.slice (some ⟨g', 0, none⟩) (k + 1) cap'), .int .i64 m0, .int .i64 m1, .int .i64 so, .int .i64 h0, .int .i64 h1] _ := kL.set 2 (.slice (some ⟨g', 0, none⟩) (k + 1) cap')
      have kP2 := kP.other ⟨bL, 2, none⟩ (.slice (some ⟨g', 0, none⟩) (k + 1) cap') (by simp; omega)
      have kO2 := kO.other ⟨bL, 2, none⟩ (.slice (some ⟨g', 0, none⟩) (k + 1) cap') (by simp; omega)
      have kA2 := kA.set (p := ⟨bL, 2, none⟩) (by simp; omega) hbs (.slice (some ⟨g', 0, none⟩) (k + 1) cap')
      have kR2 := ownsRow_setCell_below hown' (a := ⟨bL, 2, none⟩) (by simp; omega) (.slice (some ⟨g', 0, none⟩) (k + 1) cap')
      clear l0 l1 l2 l3 l4 l5 l6 l7 fL zL1 kL kP kO kA hown'
      replace kB : base ≤ (w1.setCell ⟨bL, 2, none⟩ (.slice (some ⟨g', 0, none⟩) (k + 1) cap')).heap.size := by simpa using kB
      generalize w1.setCell ⟨bL, 2, none⟩ (.slice (some ⟨g', 0, none⟩) (k + 1) cap') = V at kL2 kP2 kO2 kA2 kR2 kB ⊢
      refine (from_in 1 120 bs _ kA2.seed (by omega) (by omega) (by omega) (by omega)).mono ?_
      rintro e w2 ⟨t, rfl, tl, th, hd⟩
      replace th : t ≤ 120 := by omega
      replace kL2 := hd.blk kL2 (by omega)
      replace kP2 := hd.blk kP2 (by omega)
      replace kO2 := kO2.drawn hd (by omega)
      replace kR2 := hd.row kR2 (by omega)
      replace kA2 := kA2.trans hd
      replace kB : base ≤ w2.heap.size := Nat.le_trans kB hd.2.size
      clear hd
      have e1 : IntKind.i64.wrap (d + t) = d + t := IntWalk.i64_in _ (by omega)
      go_upto_region 9 with fail
      go_cut [5] (fun s5 wx => ∃ lo' : Int, s5 = .int .i64 (d + t) ∧ 0 ≤ lo' ∧ lo' ≤ lo ∧ Blk wx bL #[.int .i64 gr, .int .i64 la, (.slice (some ⟨g', 0, none⟩) (k + 1) cap'), .int .i64 m0, .int .i64 m1, .int .i64 so, .int .i64 h0, .int .i64 h1] 26 ∧ Blk wx bP #[.int .i64 lo', .int .i64 hi] 24 ∧ wx.ownsRow base 74 3 (.slice (some ⟨g', 0, none⟩) (k + 1) cap') (k + 1) (covC (upd D k d) (upd P0 k lo) (upd P1 k hi) (k + 1)) ∧ Eight wx bO 26 ∧ Drawn bs w wx ∧ base ≤ wx.heap.size)
      case first =>
        have kP := kP2.drew
        (
 refine wp_region_held_drew (S := (fun w' => Blk w' bL #[.int .i64 gr, .int .i64 la, (.slice (some ⟨g', 0, none⟩) (k + 1) cap'), .int .i64 m0, .int .i64 m1, .int .i64 so, .int .i64 h0, .int .i64 h1] 26 ∧ Two w' bP 24 ∧ w'.ownsRow base 74 3 (.slice (some ⟨g', 0, none⟩) (k + 1) cap') (k + 1) (covC (upd D k d) (upd P0 k lo) (upd P1 k hi) (k + 1)) ∧ Eight w' bO 26 ∧ Drawn bs w w' ∧ base ≤ w'.heap.size)) (by kernel_rfl) ?_ (fun hH => ?_)
 · (try dsimp only); (exact ⟨kL2.drew, ⟨_, _, kP2.drew⟩, kR2, kO2, kA2.trans (Drawn.drew kA2.seed), kB⟩)
 refine tkY 0 (some 50) ?_ ?_ ?_
 rotate_left
 · intro w _; go_simp; (try with_reducible rfl)
 (try simp only [cq])
 refine tkY 1 (some 51) ?_ ?_ ?_
 rotate_left
 · intro w hS0; go_simp; (try with_reducible rfl)
 (try simp only [cq])
 refine tkY 4 (some 54) ?_ ?_ ?_
 rotate_left
 · intro w hS0; go_simp; (try with_reducible rfl)
 (try simp only [cq])
 refine wpAnyH_ready (rs := [2, 5]) (by kernel_rfl) (by simp) ?_
 refine arc (some 52) (fun K hK => ?_) ?_
 {
 have q0 := kP.c2.1
 go_simp
 refine hK.out _ _ ?_ ?_
 · exact hH
 (try clear hH); (try clear hd)
 intro hH
 clear q0
 clear hK K
 (try simp only [cq])
 refine wpAnyH_ready (rs := [3, 5]) (by kernel_rfl) (by simp) ?_
 refine arc (some 53) (fun K hK => ?_) ?_
 {
 go_simp
 (refine (from_in 0 lo bs _ hH.2.2.2.2.1.seed (by omega) (by omega) (by omega) (by omega)).mono ?_; rintro e w' ⟨lo', rfl, lol', loh', hd⟩; replace loh' : lo' ≤ lo := (by omega); replace kP := hd.blk kP (by omega))
 refine hK.out _ _ ?_ ?_
 · (exact ⟨hd.blk hH.1 (by omega), hH.2.1.drawn hd (by omega), hd.row hH.2.2.1 (by omega), hH.2.2.2.1.drawn hd (by omega), hH.2.2.2.2.1.trans hd, Nat.le_trans hH.2.2.2.2.2 hd.2.size⟩)
 (try clear hH); (try clear hd)
 intro hH
 clear hK K
 (try simp only [cq])
 refine wpAnyH_ready (rs := [5]) (by kernel_rfl) (by simp) ?_
 refine arc1 (some 55) fun K hK => ?_
 have q0 := kP.c2.2
 go_simp
 refine hK.out _ _ ?_ ?_
 · exact hH
 (try clear hH); (try clear hd)
 intro hH
 clear q0
 clear hK K
 (try simp only [cq])
 refine tkY 6 (some 56) ?_ ?_ ?_
 rotate_left
 · intro w _; go_simp; (try with_reducible rfl)
 (try simp only [cq])
 refine wpAnyH_ready (rs := [7]) (by kernel_rfl) (by simp) ?_
 refine arc1 none fun K hK => ?_
 obtain ⟨h1, h2, h3, h4, h5, h6⟩ := hH
 have q0 := kP.c2.1
 have q1 := kP.c2.2
 have fr0 := kP.free 0
 have fr1 := kP.free 1
 have zR := kP.lt
 have HS := Lib.hid (show Blk _ _ #[.int .i64 lo', .int .i64 hi] _ from (kP.set 0 (.int .i64 lo')).set 1 (.int .i64 hi))
 have HD := Lib.hid (((h5.set (p := ⟨bP, 0, none⟩) (by simp; omega) hbs (.int .i64 lo')).set (p := ⟨bP, 1, none⟩) (by simp; omega) hbs (.int .i64 hi)))
 have HR := Lib.hid (ownsRow_setCell_below (ownsRow_setCell_below h3 (a := ⟨bP, 0, none⟩) (by simp; omega) (.int .i64 lo')) (a := ⟨bP, 1, none⟩) (by simp; omega) (.int .i64 hi))
 have HB := Lib.hid (show base ≤ ((w'.setCell ⟨bP, 0, none⟩ (.int .i64 lo')).setCell ⟨bP, 1, none⟩ (.int .i64 hi)).heap.size by simpa using h6)
 go_simp
 refine hK.out _ _ ?_ ?_
 · exact ⟨(h1.other _ _ (by simp; omega)).other _ _ (by simp; omega), ⟨_, _, HS.out⟩, HR.out, (h4.other _ _ (by simp; omega)).other _ _ (by simp; omega), HD.out, HB.out⟩
 (try clear hH); (try clear hd)
 intro hH
 clear hK K
 (try simp only [cq])
 refine wpAnyH_done (by kernel_rfl) ?_ _
 (try dsimp only [Act.put])
 (try simp only [cq])
 clear kP q0 q1 fr0 fr1 zR h1 h2 h3 h4 h5 h6
 go_wp2_with fail
 go_meet
 exact ⟨lo', rfl, lol', loh', hH.1, HS.out, hH.2.2.1, hH.2.2.2.1, hH.2.2.2.2.1, hH.2.2.2.2.2⟩
 }
 refine arc (some 55) (fun K hK => ?_) ?_
 {
 have q0 := kP.c2.2
 go_simp
 refine hK.out _ _ ?_ ?_
 · exact hH
 (try clear hH); (try clear hd)
 intro hH
 clear q0
 clear hK K
 (try simp only [cq])
 refine wpAnyH_ready (rs := [3]) (by kernel_rfl) (by simp) ?_
 refine arc1 (some 53) fun K hK => ?_
 go_simp
 (refine (from_in 0 lo bs _ hH.2.2.2.2.1.seed (by omega) (by omega) (by omega) (by omega)).mono ?_; rintro e w' ⟨lo', rfl, lol', loh', hd⟩; replace loh' : lo' ≤ lo := (by omega); replace kP := hd.blk kP (by omega))
 refine hK.out _ _ ?_ ?_
 · (exact ⟨hd.blk hH.1 (by omega), hH.2.1.drawn hd (by omega), hd.row hH.2.2.1 (by omega), hH.2.2.2.1.drawn hd (by omega), hH.2.2.2.2.1.trans hd, Nat.le_trans hH.2.2.2.2.2 hd.2.size⟩)
 (try clear hH); (try clear hd)
 intro hH
 clear hK K
 (try simp only [cq])
 refine tkY 6 (some 56) ?_ ?_ ?_
 rotate_left
 · intro w _; go_simp; (try with_reducible rfl)
 (try simp only [cq])
 refine wpAnyH_ready (rs := [7]) (by kernel_rfl) (by simp) ?_
 refine arc1 none fun K hK => ?_
 obtain ⟨h1, h2, h3, h4, h5, h6⟩ := hH
 have q0 := kP.c2.1
 have q1 := kP.c2.2
 have fr0 := kP.free 0
 have fr1 := kP.free 1
 have zR := kP.lt
 have HS := Lib.hid (show Blk _ _ #[.int .i64 lo', .int .i64 hi] _ from (kP.set 0 (.int .i64 lo')).set 1 (.int .i64 hi))
 have HD := Lib.hid (((h5.set (p := ⟨bP, 0, none⟩) (by simp; omega) hbs (.int .i64 lo')).set (p := ⟨bP, 1, none⟩) (by simp; omega) hbs (.int .i64 hi)))
 have HR := Lib.hid (ownsRow_setCell_below (ownsRow_setCell_below h3 (a := ⟨bP, 0, none⟩) (by simp; omega) (.int .i64 lo')) (a := ⟨bP, 1, none⟩) (by simp; omega) (.int .i64 hi))
 have HB := Lib.hid (show base ≤ ((w'.setCell ⟨bP, 0, none⟩ (.int .i64 lo')).setCell ⟨bP, 1, none⟩ (.int .i64 hi)).heap.size by simpa using h6)
 go_simp
 refine hK.out _ _ ?_ ?_
 · exact ⟨(h1.other _ _ (by simp; omega)).other _ _ (by simp; omega), ⟨_, _, HS.out⟩, HR.out, (h4.other _ _ (by simp; omega)).other _ _ (by simp; omega), HD.out, HB.out⟩
 (try clear hH); (try clear hd)
 intro hH
 clear hK K
 (try simp only [cq])
 refine wpAnyH_done (by kernel_rfl) ?_ _
 (try dsimp only [Act.put])
 (try simp only [cq])
 clear kP q0 q1 fr0 fr1 zR h1 h2 h3 h4 h5 h6
 go_wp2_with fail
 go_meet
 exact ⟨lo', rfl, lol', loh', hH.1, HS.out, hH.2.2.1, hH.2.2.2.1, hH.2.2.2.2.1, hH.2.2.2.2.2⟩
 }
 exact AllReadyH.nil
 }
 refine arc (some 55) (fun K hK => ?_) ?_
 {
 have q0 := kP.c2.2
 go_simp
 refine hK.out _ _ ?_ ?_
 · exact hH
 (try clear hH); (try clear hd)
 intro hH
 clear q0
 clear hK K
 (try simp only [cq])
 refine wpAnyH_ready (rs := [2]) (by kernel_rfl) (by simp) ?_
 refine arc1 (some 52) fun K hK => ?_
 have q0 := kP.c2.1
 go_simp
 refine hK.out _ _ ?_ ?_
 · exact hH
 (try clear hH); (try clear hd)
 intro hH
 clear q0
 clear hK K
 (try simp only [cq])
 refine wpAnyH_ready (rs := [3]) (by kernel_rfl) (by simp) ?_
 refine arc1 (some 53) fun K hK => ?_
 go_simp
 (refine (from_in 0 lo bs _ hH.2.2.2.2.1.seed (by omega) (by omega) (by omega) (by omega)).mono ?_; rintro e w' ⟨lo', rfl, lol', loh', hd⟩; replace loh' : lo' ≤ lo := (by omega); replace kP := hd.blk kP (by omega))
 refine hK.out _ _ ?_ ?_
 · (exact ⟨hd.blk hH.1 (by omega), hH.2.1.drawn hd (by omega), hd.row hH.2.2.1 (by omega), hH.2.2.2.1.drawn hd (by omega), hH.2.2.2.2.1.trans hd, Nat.le_trans hH.2.2.2.2.2 hd.2.size⟩)
 (try clear hH); (try clear hd)
 intro hH
 clear hK K
 (try simp only [cq])
 refine tkY 6 (some 56) ?_ ?_ ?_
 rotate_left
 · intro w _; go_simp; (try with_reducible rfl)
 (try simp only [cq])
 refine wpAnyH_ready (rs := [7]) (by kernel_rfl) (by simp) ?_
 refine arc1 none fun K hK => ?_
 obtain ⟨h1, h2, h3, h4, h5, h6⟩ := hH
 have q0 := kP.c2.1
 have q1 := kP.c2.2
 have fr0 := kP.free 0
 have fr1 := kP.free 1
 have zR := kP.lt
 have HS := Lib.hid (show Blk _ _ #[.int .i64 lo', .int .i64 hi] _ from (kP.set 0 (.int .i64 lo')).set 1 (.int .i64 hi))
 have HD := Lib.hid (((h5.set (p := ⟨bP, 0, none⟩) (by simp; omega) hbs (.int .i64 lo')).set (p := ⟨bP, 1, none⟩) (by simp; omega) hbs (.int .i64 hi)))
 have HR := Lib.hid (ownsRow_setCell_below (ownsRow_setCell_below h3 (a := ⟨bP, 0, none⟩) (by simp; omega) (.int .i64 lo')) (a := ⟨bP, 1, none⟩) (by simp; omega) (.int .i64 hi))
 have HB := Lib.hid (show base ≤ ((w'.setCell ⟨bP, 0, none⟩ (.int .i64 lo')).setCell ⟨bP, 1, none⟩ (.int .i64 hi)).heap.size by simpa using h6)
 go_simp
 refine hK.out _ _ ?_ ?_
 · exact ⟨(h1.other _ _ (by simp; omega)).other _ _ (by simp; omega), ⟨_, _, HS.out⟩, HR.out, (h4.other _ _ (by simp; omega)).other _ _ (by simp; omega), HD.out, HB.out⟩
 (try clear hH); (try clear hd)
 intro hH
 clear hK K
 (try simp only [cq])
 refine wpAnyH_done (by kernel_rfl) ?_ _
 (try dsimp only [Act.put])
 (try simp only [cq])
 clear kP q0 q1 fr0 fr1 zR h1 h2 h3 h4 h5 h6
 go_wp2_with fail
 go_meet
 exact ⟨lo', rfl, lol', loh', hH.1, HS.out, hH.2.2.1, hH.2.2.2.1, hH.2.2.2.2.1, hH.2.2.2.2.2⟩
 }
 exact AllReadyH.nil )
      case rest =>
        obtain ⟨lo', rfl, lol', loh', kL2, kP2, kR2, kO2, kA2, kB⟩ := hcut
        obtain ⟨p0, p1⟩ := kP2.c2
        have zP1 := kP2.lt
        go_wp2_with fail
        refine (from_in lo' hi bs _ kA2.seed (by omega) (by omega) (by omega) (by omega)).mono ?_
        rintro e w3 ⟨hi', rfl, hil, hih, hd⟩
        replace hih : hi' ≤ hi := by omega
        clear p0 p1 zP1
        replace kL2 := hd.blk kL2 (by omega)
        replace kP2 := hd.blk kP2 (by omega)
        replace kO2 := kO2.drawn hd (by omega)
        replace kR2 := hd.row kR2 (by omega)
        replace kA2 := kA2.trans hd
        replace kB : base ≤ w3.heap.size := Nat.le_trans kB hd.2.size
        clear hd
        obtain ⟨p0, p1⟩ := kP2.c2
        have zP1 := kP2.lt
        have fP := kP2.free 1
        have kP3 : Blk _ _ #[.int .i64 lo', .int .i64 hi'] _ := kP2.set 1 (.int .i64 hi')
        have kL3 := kL2.other ⟨bP, 1, none⟩ (.int .i64 hi') (by simp; omega)
        have kO3 := kO2.other ⟨bP, 1, none⟩ (.int .i64 hi') (by simp; omega)
        have kA3 := kA2.set (p := ⟨bP, 1, none⟩) (by simp; omega) hbs (.int .i64 hi')
        have kR3 := ownsRow_setCell_below kR2 (a := ⟨bP, 1, none⟩) (by simp; omega) (.int .i64 hi')
        have kB3 : base ≤ (w3.setCell ⟨bP, 1, none⟩ (.int .i64 hi')).heap.size := by simpa using kB
        have hC2 := hC.step (by omega) t lo' hi' tl th lol' loh' hil hih
        go_wp2
        go_roundw
        case rel => exact ⟨k + 1, j, d + t, lo', hi', _, _, _, (.slice (some ⟨g', 0, none⟩) (k + 1) cap'), rfl, by go_num, by omega, by omega, hC2, kL3, kP3, kR3, kO3, kA3, kB3⟩
        case measure => simp [intOf]
    · obtain rfl : j = 0 := by omega
      obtain ⟨k, rfl⟩ : ∃ i, k = i + 1 := ⟨k - 1, by omega⟩
      obtain ⟨g', cap', rfl⟩ := ownsRow_succ jR
      obtain ⟨l0, l1, l2, l3, l4, l5, l6, l7⟩ := jL.c8
      have zL1 := jL.lt
      obtain ⟨x0, x1, x2, x3, x4, x5, x6, x7, hR⟩ := jO
      obtain ⟨r0, r1, r2, r3, r4, r5, r6, r7⟩ := hR.c8
      have g0 := hR.free 0
      have g1 := hR.free 1
      have g2 := hR.free 2
      have g3 := hR.free 3
      have g4 := hR.free 4
      have g5 := hR.free 5
      have g6 := hR.free 6
      have g7 := hR.free 7
      have zR := hR.lt
      have HQ := Lib.hid (hR.set8 (.int .i64 gr) (.int .i64 la) (.slice (some ⟨g', 0, none⟩) (k + 1) cap') (.int .i64 m0) (.int .i64 m1) (.int .i64 so) (.int .i64 h0) (.int .i64 h1)).c8
      have HD := Lib.hid (hA.set8 (b := bO) (by omega) hbs (.int .i64 gr) (.int .i64 la) (.slice (some ⟨g', 0, none⟩) (k + 1) cap') (.int .i64 m0) (.int .i64 m1) (.int .i64 so) (.int .i64 h0) (.int .i64 h1))
      have HR := Lib.hid (ownsRow_base (b1 := bs + 1) (ownsRow_setCell_below (ownsRow_setCell_below (ownsRow_setCell_below (ownsRow_setCell_below (ownsRow_setCell_below (ownsRow_setCell_below (ownsRow_setCell_below (ownsRow_setCell_below jR (a := (⟨bO, 0, none⟩ : Addr)) (by simp; omega) (.int .i64 gr)) (a := (⟨bO, 1, none⟩ : Addr)) (by simp; omega) (.int .i64 la)) (a := (⟨bO, 2, none⟩ : Addr)) (by simp; omega) (.slice (some ⟨g', 0, none⟩) (k + 1) cap')) (a := (⟨bO, 3, none⟩ : Addr)) (by simp; omega) (.int .i64 m0)) (a := (⟨bO, 4, none⟩ : Addr)) (by simp; omega) (.int .i64 m1)) (a := (⟨bO, 5, none⟩ : Addr)) (by simp; omega) (.int .i64 so)) (a := (⟨bO, 6, none⟩ : Addr)) (by simp; omega) (.int .i64 h0)) (a := (⟨bO, 7, none⟩ : Addr)) (by simp; omega) (.int .i64 h1)) (show bs + 1 ≤ base by omega))
      have HK := Lib.hid (lw_kit gr la m0 m1 so h0 h1 hC (by omega) (by omega) grl grh lal lah m0l m01 m1h sol soh h0l h01 h1h)
      go_wp2
      obtain ⟨z0, z1, z2, z3, z4, z5, z6, z7⟩ := HQ.out
      exact bodyPost_ret (v := .agg #[.int .i64 gr, .int .i64 la, (.slice (some ⟨g', 0, none⟩) (k + 1) cap'), .int .i64 m0, .int .i64 m1, .int .i64 so, .int .i64 h0, .int .i64 h1]) (by simp [results, Tryz.results9, go_sem, z0, z1, z2, z3, z4, z5, z6, z7]) rfl ⟨_, (.slice (some ⟨g', 0, none⟩) (k + 1) cap'), rfl, HK.out, HR.out, HD.out⟩
end Go.Proofs.YtdbiijldincoiaaGreat
