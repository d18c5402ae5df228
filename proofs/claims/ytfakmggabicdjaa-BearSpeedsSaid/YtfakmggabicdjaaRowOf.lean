/-
  The kit's RowOf; a plate in a list of plates.
-/
import Derived.Test.YtfakmggabicdjaaLists
set_option linter.unusedVariables false
set_option linter.unusedSimpArgs false
namespace Go.Proofs.Ytfakmggabicdjaa
open Go.RowKit

theorem nums_after {w w' : World} {a : Option Addr} {n : Nat} (h : NumsAt w a n) (hb : Below w.heap.size w w') : NumsAt w' a n := by
  obtain ⟨h1, h2⟩ := h
  refine ⟨h1, fun h0 => ?_⟩
  obtain ⟨b, o, ha, hlt, hc⟩ := h2 h0
  exact ⟨b, o, ha, Nat.lt_of_lt_of_le hlt hb.size, fun i hi => by
    obtain ⟨z, hz⟩ := hc i hi
    exact ⟨z, cell_later hb hz⟩⟩
structure Pq (V : World) (b k : Nat) (x : Pl) (uS uC : Value) : Prop where
  c : V.cell? ⟨b, k * 11, none⟩ = some (.int .i64 x.s0) ∧ V.cell? ⟨b, k * 11 + 1, none⟩ = some (.int .i64 x.s1) ∧ V.cell? ⟨b, k * 11 + 2, none⟩ = some (uS) ∧ V.cell? ⟨b, k * 11 + 3, none⟩ = some (uC) ∧ V.cell? ⟨b, k * 11 + 4, none⟩ = some (.int .i64 x.ne) ∧ V.cell? ⟨b, k * 11 + 5, none⟩ = some (.int .i64 x.ed) ∧ V.cell? ⟨b, k * 11 + 6, none⟩ = some (.int .i64 x.gr) ∧ V.cell? ⟨b, k * 11 + 7, none⟩ = some (.int .i64 x.lo) ∧ V.cell? ⟨b, k * 11 + 8, none⟩ = some (.int .i64 x.hi) ∧ V.cell? ⟨b, k * 11 + 9, none⟩ = some (.int .i64 x.sh) ∧ V.cell? ⟨b, k * 11 + 10, none⟩ = some (.int .i64 x.wi)
  S : TabAt V uS x.S
  C : TabAt V uC x.C
theorem Pq.later {V W : World} {b k : Nat} {x : Pl} {uS uC : Value} (h : Pq V b k x uS uC) (hb : Below V.heap.size V W) : Pq W b k x uS uC :=
  ⟨by obtain ⟨c0, c1, c2, c3, c4, c5, c6, c7, c8, c9, c10⟩ := h.c; exact ⟨cell_later hb c0, cell_later hb c1, cell_later hb c2, cell_later hb c3, cell_later hb c4, cell_later hb c5, cell_later hb c6, cell_later hb c7, cell_later hb c8, cell_later hb c9, cell_later hb c10⟩, PairsAt.later h.S hb, PairsAt.later h.C hb⟩

set_option maxRecDepth 100000 in
set_option maxHeartbeats 4000000 in
theorem rowof_in (most : Int) (hm : 0 ≤ most ∧ most ≤ 30) (bs : Nat) (w : World) (hs : SeedAt bs w) :
    Calls Try.prog 41 #[.pointer (some ⟨bs, 0, none⟩), .int .i64 most] w fun e w' => ∃ (n : Nat) (A B : Nat → Int) (v : Value), e = .returned v ∧ (n : Int) ≤ most ∧ (∀ i, i < n → 0 ≤ A i ∧ A i ≤ B i ∧ B i ≤ 30000) ∧ w'.ownsRow w.heap.size 23 2 v n (catC (pairC A B) n) ∧ Drawn bs w w' := by
  have hbs : bs < w.heap.size := hs.choose_spec.lt
  obtain ⟨i0, hi0, hz0, hz1, hz2⟩ := info_parts Try.infoSpan
  have e1 : IntKind.i64.wrap (most + 1) = most + 1 := IntWalk.i64_in _ (by omega)
  go_enter Try.func41, Try.ntmps41
  go_wp2_with fail
  refine (below_in (most + 1) bs _ hs (by omega)).mono ?_
  rintro e w1 ⟨c, rfl, c0, c1, hA⟩
  replace c1 : c ≤ most := by omega
  obtain ⟨c, rfl⟩ := Int.eq_ofNat_of_zero_le (show 0 ≤ c by omega)
  have jR := World.ownsRow_nil w1 w.heap.size 23 2
  have zB := hA.2.size
  go_wp2_with fail
  go_loopw [5, 6] (fun l i wr => ∃ (k j : Nat) (A B : Nat → Int), i = .int .i64 j ∧ ((k + j : Nat) : Int) ≤ most ∧ (∀ i, i < k → 0 ≤ A i ∧ A i ≤ B i ∧ B i ≤ 30000) ∧ wr.ownsRow w.heap.size 23 2 l k (catC (pairC A B) k) ∧ Drawn bs w wr ∧ w.heap.size ≤ wr.heap.size) (fun _ i _ => (intOf i).toNat)
  case atStart => exact ⟨0, c, fun _ => 0, fun _ => 0, rfl, by omega, fun i hi => by omega, jR, hA, zB⟩
  case round =>
    clear hA jR zB c0 c1
    obtain ⟨k, j, A, B, rfl, hkj, hT, jR, hA, zB⟩ := hrel
    by_cases hj : 0 < j
    · obtain ⟨j, rfl⟩ : ∃ i, j = i + 1 := ⟨j - 1, by omega⟩
      go_wp2_with fail
      refine (of2_in 9000 30000 9000 30000 bs _ _ (by simp) hA.seed (by decide) (by decide) (by decide) (by decide)).mono ?_
      rintro e w2 ⟨y, rfl, y0, y1, hd⟩
      replace jR := hd.row (jR.alloc (.cells #[.int .i64 9000, .int .i64 30000] 3)) hbs
      replace zB : w.heap.size ≤ w2.heap.size := by have := hd.2.size; (try simp at this); omega
      replace hA := (hA.new (.cells #[.int .i64 9000, .int .i64 30000] 3)).trans hd
      clear hd
      go_wp2_with fail
      refine (kspan_in 0 y bs _ hA.seed (by decide) (by omega) (by omega)).mono ?_
      rintro e w3 ⟨x, z, rfl, x0, x1, x2, hd⟩
      replace jR := hd.row jR hbs
      replace zB : w.heap.size ≤ w3.heap.size := by have := hd.2.size; (try simp at this); omega
      replace hA := hA.trans hd
      clear hd
      have hr : ∀ z, u5.ownBlock = some z → w.heap.size ≤ z := fun z e => (jR.lt z e).1
      go_wp2_with (at_builtin; refine wpList_append_own_at _ rfl _ _ 42 rfl w.heap.size 23 i0 (.agg #[.int .i64 0, .int .i64 0]) 2 16 Try.underlying42 hi0 hz0 hz1 hz2 rfl (by decide) _ _ _ rfl (jR.alloc _) ⟨w3.heap.size, 0, none⟩ 1 1 [.int .i64 x, .int .i64 z] rfl rfl (news2 _ _ _ _) (one2 _ _) (by unfold maxLen; omega) (by omega) (by simp; omega) ?_; intro v' w9 hown' hgrow _ _; rw [← pairC_up] at hown'; have kA := (hA.new (.cells #[.int .i64 x, .int .i64 z] 23)).grown hgrow (fun q e => by have := hr q e; omega) hbs; have kZ : w.heap.size ≤ w9.heap.size := (by have := hgrow.size; simp at this; omega))
      clear hgrow jR hA zB hr
      go_roundw
      case rel => exact ⟨k + 1, j, upI A k x, upI B k z, by go_num, by omega, fun i hi => by
          by_cases e : i = k
          · subst e; rw [upI_at, upI_at]; omega
          · rw [upI_ne _ _ _ _ e, upI_ne _ _ _ _ e]; exact hT i (by omega), hown', kA, kZ⟩
      case measure => simp [intOf]
    · obtain rfl : j = 0 := by omega
      go_wp2
      go_ret
      exact ⟨k, A, B, u5, rfl, by omega, hT, jR, hA⟩
end Go.Proofs.Ytfakmggabicdjaa
