/-
  The kit's BedsOf, CracksOf, LoadsOf: valid ice, cracks and loads.
-/
import Derived.Test.YtkkljbbgaogifaaPlate
set_option linter.unusedVariables false
set_option linter.unusedSimpArgs false
namespace Go.Proofs.Ytkkljbbgaogifaa
open Go.RowKit

set_option maxRecDepth 100000 in
set_option maxHeartbeats 4000000 in
theorem bedsof_in (most : Int) (hm : 1 ≤ most ∧ most ≤ 100) (bs : Nat) (w : World) (hs : SeedAt bs w) :
    Calls Try.prog 32 #[.pointer (some ⟨bs, 0, none⟩), .int .i64 most] w fun e w' => ∃ (n : Nat) (A B : Nat → Int) (v : Value), e = .returned v ∧ 1 ≤ n ∧ (n : Int) ≤ most ∧ (∀ i, i < n → 0 ≤ A i ∧ A i ≤ B i ∧ B i ≤ 1500) ∧ w'.ownsRow w.heap.size 23 2 v n (catC (pairC A B) n) ∧ Drawn bs w w' := by
  have hbs : bs < w.heap.size := hs.choose_spec.lt
  obtain ⟨i0, hi0, hz0, hz1, hz2⟩ := info_parts Try.infoSpan
  go_enter Try.func32, Try.ntmps32
  go_wp2_with fail
  refine (from_in 1 most bs _ hs (by omega) (by omega) (by omega) (by omega)).mono ?_
  rintro e w1 ⟨c, rfl, c0, c1, hA⟩
  replace c1 : c ≤ most := by omega
  obtain ⟨c, rfl⟩ := Int.eq_ofNat_of_zero_le (show 0 ≤ c by omega)
  have jR := World.ownsRow_nil w1 w.heap.size 23 2
  have zB := hA.2.size
  go_wp2_with fail
  go_loopw [5, 6] (fun l i wr => ∃ (k j : Nat) (A B : Nat → Int), i = .int .i64 j ∧ ((k + j : Nat) : Int) ≤ most ∧ 1 ≤ k + j ∧ (∀ i, i < k → 0 ≤ A i ∧ A i ≤ B i ∧ B i ≤ 1500) ∧ wr.ownsRow w.heap.size 23 2 l k (catC (pairC A B) k) ∧ Drawn bs w wr ∧ w.heap.size ≤ wr.heap.size) (fun _ i _ => (intOf i).toNat)
  case atStart => exact ⟨0, c, fun _ => 0, fun _ => 0, rfl, by omega, by omega, fun i hi => by omega, jR, hA, zB⟩
  case round =>
    clear hA jR zB c0 c1
    obtain ⟨k, j, A, B, rfl, hkj, hkj1, hT, jR, hA, zB⟩ := hrel
    by_cases hj : 0 < j
    · obtain ⟨j, rfl⟩ : ∃ i, j = i + 1 := ⟨j - 1, by omega⟩
      go_wp2_with fail
      refine (of3_in 0 300 600 0 600 bs _ _ (by simp) hA.seed (by decide) (by decide) (by decide) (by decide) (by decide) (by decide)).mono ?_
      rintro e w2 ⟨a1, rfl, a10, a11, hd⟩
      replace jR := hd.row (jR.alloc (.cells #[.int .i64 0, .int .i64 300, .int .i64 600] 3)) hbs
      replace zB : w.heap.size ≤ w2.heap.size := by have := hd.2.size; (try simp at this); omega
      replace hA := (hA.new (.cells #[.int .i64 0, .int .i64 300, .int .i64 600] 3)).trans hd
      clear hd
      go_wp2_with fail
      refine (of2_in 700 1500 700 1500 bs _ _ (by simp) hA.seed (by decide) (by decide) (by decide) (by decide)).mono ?_
      rintro e w3 ⟨a2, rfl, a20, a21, hd⟩
      replace jR := hd.row (jR.alloc (.cells #[.int .i64 700, .int .i64 1500] 3)) hbs
      replace zB : w.heap.size ≤ w3.heap.size := by have := hd.2.size; (try simp at this); omega
      replace hA := (hA.new (.cells #[.int .i64 700, .int .i64 1500] 3)).trans hd
      clear hd
      go_wp2_with fail
      refine (kspan_in a1 a2 bs _ hA.seed (by omega) (by omega) (by omega)).mono ?_
      rintro e w4 ⟨x, y, rfl, x0, xy, y1, hd⟩
      replace jR := hd.row jR hbs
      replace zB : w.heap.size ≤ w4.heap.size := by have := hd.2.size; (try simp at this); omega
      replace hA := hA.trans hd
      clear hd
      have hr : ∀ z, u5.ownBlock = some z → w.heap.size ≤ z := fun z e => (jR.lt z e).1
      go_wp2_with (at_builtin; refine wpList_append_own_at _ rfl _ _ 42 rfl w.heap.size 23 i0 (.agg #[.int .i64 0, .int .i64 0]) 2 16 Try.underlying42 hi0 hz0 hz1 hz2 rfl (by decide) _ _ _ rfl (jR.alloc _) ⟨w4.heap.size, 0, none⟩ 1 1 [.int .i64 x, .int .i64 y] rfl rfl (news2 _ _ _ _) (one2 _ _) (by unfold maxLen; omega) (by omega) (by simp; omega) ?_; intro v' w9 hown' hgrow _ _; rw [← pairC_up] at hown'; have kA := (hA.new (.cells #[.int .i64 x, .int .i64 y] 23)).grown hgrow (fun q e => by have := hr q e; omega) hbs; have kZ : w.heap.size ≤ w9.heap.size := (by have := hgrow.size; simp at this; omega))
      clear hgrow jR hA zB hr
      go_roundw
      case rel => exact ⟨k + 1, j, upI A k x, upI B k y, by go_num, by omega, by omega, fun i hi => by
          by_cases e : i = k
          · subst e; rw [upI_at, upI_at]; omega
          · rw [upI_ne _ _ _ _ e, upI_ne _ _ _ _ e]; exact hT i (by omega), hown', kA, kZ⟩
      case measure => simp [intOf]
    · obtain rfl : j = 0 := by omega
      go_wp2
      go_ret
      exact ⟨k, A, B, u5, rfl, by omega, by omega, hT, jR, hA⟩

set_option maxRecDepth 100000 in
set_option maxHeartbeats 4000000 in
theorem cracksof_in (places most : Int) (hp : 1 ≤ places ∧ places ≤ 100) (hm : 0 ≤ most ∧ most ≤ 50) (bs : Nat) (w : World) (hs : SeedAt bs w) :
    Calls Try.prog 33 #[.pointer (some ⟨bs, 0, none⟩), .int .i64 places, .int .i64 most] w fun e w' => ∃ (n : Nat) (A B : Nat → Int) (v : Value), e = .returned v ∧ (n : Int) ≤ most ∧ (∀ i, i < n → 0 ≤ A i ∧ A i ≤ B i ∧ B i ≤ 10030) ∧ w'.ownsRow w.heap.size 23 2 v n (catC (pairC A B) n) ∧ Drawn bs w w' := by
  have hbs : bs < w.heap.size := hs.choose_spec.lt
  obtain ⟨i0, hi0, hz0, hz1, hz2⟩ := info_parts Try.infoSpan
  have e1 : IntKind.i64.wrap (most + 1) = most + 1 := IntWalk.i64_in _ (by omega)
  have e2 : IntKind.i64.wrap (100 * places) = 100 * places := IntWalk.i64_in _ (by omega)
  go_enter Try.func33, Try.ntmps33
  go_wp2_with fail
  refine (below_in (most + 1) bs _ hs (by omega)).mono ?_
  rintro e w1 ⟨c, rfl, c0, c1, hA⟩
  replace c1 : c ≤ most := by omega
  obtain ⟨c, rfl⟩ := Int.eq_ofNat_of_zero_le (show 0 ≤ c by omega)
  have jR := World.ownsRow_nil w1 w.heap.size 23 2
  have zB := hA.2.size
  go_wp2_with fail
  go_loopw [7, 8] (fun l i wr => ∃ (k j : Nat) (A B : Nat → Int), i = .int .i64 j ∧ ((k + j : Nat) : Int) ≤ most ∧ (∀ i, i < k → 0 ≤ A i ∧ A i ≤ B i ∧ B i ≤ 10030) ∧ wr.ownsRow w.heap.size 23 2 l k (catC (pairC A B) k) ∧ Drawn bs w wr ∧ w.heap.size ≤ wr.heap.size) (fun _ i _ => (intOf i).toNat)
  case atStart => exact ⟨0, c, fun _ => 0, fun _ => 0, rfl, by omega, fun i hi => by omega, jR, hA, zB⟩
  case round =>
    clear hA jR zB c0 c1
    obtain ⟨k, j, A, B, rfl, hkj, hT, jR, hA, zB⟩ := hrel
    by_cases hj : 0 < j
    · obtain ⟨j, rfl⟩ : ∃ i, j = i + 1 := ⟨j - 1, by omega⟩
      go_wp2_with fail
      refine (below_in (100 * places) bs _ hA.seed (by omega)).mono ?_
      rintro e w2 ⟨x, rfl, x0, x1, hd⟩
      replace x1 : x ≤ 10000 := by omega
      replace jR := hd.row jR hbs
      replace zB : w.heap.size ≤ w2.heap.size := by have := hd.2.size; (try simp at this); omega
      replace hA := hA.trans hd
      clear hd
      go_wp2_with fail
      refine (of3_in 0 3 30 0 30 bs _ _ (by simp) hA.seed (by decide) (by decide) (by decide) (by decide) (by decide) (by decide)).mono ?_
      rintro e w3 ⟨y, rfl, y0, y1, hd⟩
      replace jR := hd.row (jR.alloc (.cells #[.int .i64 0, .int .i64 3, .int .i64 30] 3)) hbs
      replace zB : w.heap.size ≤ w3.heap.size := by have := hd.2.size; (try simp at this); omega
      replace hA := (hA.new (.cells #[.int .i64 0, .int .i64 3, .int .i64 30] 3)).trans hd
      clear hd
      have e3 : IntKind.i64.wrap (x + y) = x + y := IntWalk.i64_in _ (by omega)
      have hr : ∀ z, u7.ownBlock = some z → w.heap.size ≤ z := fun z e => (jR.lt z e).1
      go_wp2_with (at_builtin; refine wpList_append_own_at _ rfl _ _ 42 rfl w.heap.size 23 i0 (.agg #[.int .i64 0, .int .i64 0]) 2 16 Try.underlying42 hi0 hz0 hz1 hz2 rfl (by decide) _ _ _ rfl (jR.alloc _) ⟨w3.heap.size, 0, none⟩ 1 1 [.int .i64 x, .int .i64 (x + y)] rfl rfl (news2 _ _ _ _) (one2 _ _) (by unfold maxLen; omega) (by omega) (by simp; omega) ?_; intro v' w9 hown' hgrow _ _; rw [← pairC_up] at hown'; have kA := (hA.new (.cells #[.int .i64 x, .int .i64 (x + y)] 23)).grown hgrow (fun q e => by have := hr q e; omega) hbs; have kZ : w.heap.size ≤ w9.heap.size := (by have := hgrow.size; simp at this; omega))
      clear hgrow jR hA zB hr
      go_roundw
      case rel => exact ⟨k + 1, j, upI A k x, upI B k (x + y), by go_num, by omega, fun i hi => by
          by_cases e : i = k
          · subst e; rw [upI_at, upI_at]; omega
          · rw [upI_ne _ _ _ _ e, upI_ne _ _ _ _ e]; exact hT i (by omega), hown', kA, kZ⟩
      case measure => simp [intOf]
    · obtain rfl : j = 0 := by omega
      go_wp2
      go_ret
      exact ⟨k, A, B, u7, rfl, by omega, hT, jR, hA⟩

set_option maxRecDepth 100000 in
set_option maxHeartbeats 4000000 in
theorem loadsof_in (places : Nat) (most : Int) (hp : 1 ≤ places ∧ places ≤ 100) (hm : 0 ≤ most ∧ most ≤ 30) (bs : Nat) (w : World) (hs : SeedAt bs w) :
    Calls Try.prog 34 #[.pointer (some ⟨bs, 0, none⟩), .int .i64 places, .int .i64 most] w fun e w' => ∃ (n : Nat) (L : Nat → Ld) (v : Value), e = .returned v ∧ (n : Int) ≤ most ∧ (∀ i, i < n → (L i).Ok places) ∧ w'.ownsRow w.heap.size 53 4 v n (catC (loadC L) n) ∧ Drawn bs w w' := by
  have hbs : bs < w.heap.size := hs.choose_spec.lt
  obtain ⟨i0, hi0, hz0, hz1, hz2⟩ := info_parts Try.infoLoad
  have e1 : IntKind.i64.wrap (most + 1) = most + 1 := IntWalk.i64_in _ (by omega)
  have e2 : IntKind.i64.wrap (100 * (places : Int)) = 100 * (places : Int) := IntWalk.i64_in _ (by omega)
  have e5 : IntKind.i64.wrap (100 * (places : Int) - 1) = 100 * (places : Int) - 1 := IntWalk.i64_in _ (by omega)
  go_enter Try.func34, Try.ntmps34
  go_wp2_with fail
  refine (below_in (100 * (places : Int)) bs _ hs (by omega)).mono ?_
  rintro e w0 ⟨at0, rfl, at00, at01, hA⟩
  replace at01 : at0 < 100 * (places : Int) := by omega
  go_wp2_with fail
  refine (below_in (most + 1) bs _ hA.seed (by omega)).mono ?_
  rintro e w1 ⟨c, rfl, c0, c1, hd⟩
  replace hA := hA.trans hd
  clear hd
  replace c1 : c ≤ most := by omega
  obtain ⟨c, rfl⟩ := Int.eq_ofNat_of_zero_le (show 0 ≤ c by omega)
  have jR := World.ownsRow_nil w1 w.heap.size 53 4
  have zB := hA.2.size
  go_wp2_with fail
  go_loopw [7, 8, 9] (fun l a i wr => ∃ (k j : Nat) (av : Int) (L : Nat → Ld), a = .int .i64 av ∧ i = .int .i64 j ∧ 0 ≤ av ∧ av < 100 * (places : Int) ∧ ((k + j : Nat) : Int) ≤ most ∧ (∀ i, i < k → (L i).Ok places) ∧ wr.ownsRow w.heap.size 53 4 l k (catC (loadC L) k) ∧ Drawn bs w wr ∧ w.heap.size ≤ wr.heap.size) (fun _ _ i _ => (intOf i).toNat)
  case atStart => exact ⟨0, c, at0, fun _ => ⟨0, 0, 0, 0⟩, rfl, rfl, at00, at01, by omega, fun i hi => by omega, jR, hA, zB⟩
  case round =>
    clear hA jR zB c0 c1 at00 at01
    obtain ⟨k, j, av, L, rfl, rfl, av0, av1, hkj, hT, jR, hA, zB⟩ := hrel
    by_cases hj : 0 < j
    · obtain ⟨j, rfl⟩ : ∃ i, j = i + 1 := ⟨j - 1, by omega⟩
      go_wp2_with fail
      refine (below_in (100 * (places : Int)) bs _ hA.seed (by omega)).mono ?_
      rintro e w2 ⟨b1, rfl, b10, b11, hd⟩
      replace b11 : b1 < 100 * (places : Int) := by omega
      replace jR := hd.row jR hbs
      replace zB : w.heap.size ≤ w2.heap.size := by have := hd.2.size; (try simp at this); omega
      replace hA := hA.trans hd
      clear hd
      go_wp2_with fail
      refine (below_in 40 bs _ hA.seed (by decide)).mono ?_
      rintro e w3 ⟨b2, rfl, b20, b21, hd⟩
      replace b21 : b2 < 40 := by omega
      replace jR := hd.row jR hbs
      replace zB : w.heap.size ≤ w3.heap.size := by have := hd.2.size; (try simp at this); omega
      replace hA := hA.trans hd
      clear hd
      have e3 : IntKind.i64.wrap (av + b2) = av + b2 := IntWalk.i64_in _ (by omega)
      have hmin : 0 ≤ min (100 * (places : Int) - 1) (av + b2) ∧ min (100 * (places : Int) - 1) (av + b2) ≤ 100 * (places : Int) - 1 := by omega
      go_wp2_with fail
      refine (of3_in av b1 (min (100 * (places : Int) - 1) (av + b2)) 0 (100 * (places : Int) - 1) bs _ _ (by simp) hA.seed (by omega) (by omega) (by omega) (by omega) (by omega) (by omega)).mono ?_
      rintro e w4 ⟨me, rfl, me0, me1, hd⟩
      replace jR := hd.row (jR.alloc (.cells #[.int .i64 av, .int .i64 b1, .int .i64 (min (100 * (places : Int) - 1) (av + b2))] 3)) hbs
      replace zB : w.heap.size ≤ w4.heap.size := by have := hd.2.size; (try simp at this); omega
      replace hA := (hA.new (.cells #[.int .i64 av, .int .i64 b1, .int .i64 (min (100 * (places : Int) - 1) (av + b2))] 3)).trans hd
      clear hd
      clear hmin b10 b11 b20 b21 e3
      go_wp2_with fail
      refine (of2_in 0 5000 0 5000 bs _ _ (by simp) hA.seed (by decide) (by decide) (by decide) (by decide)).mono ?_
      rintro e w5 ⟨a1, rfl, a10, a11, hd⟩
      replace jR := hd.row (jR.alloc (.cells #[.int .i64 0, .int .i64 5000] 3)) hbs
      replace zB : w.heap.size ≤ w5.heap.size := by have := hd.2.size; (try simp at this); omega
      replace hA := (hA.new (.cells #[.int .i64 0, .int .i64 5000] 3)).trans hd
      clear hd
      go_wp2_with fail
      refine (of2_in 12000 40000 12000 40000 bs _ _ (by simp) hA.seed (by decide) (by decide) (by decide) (by decide)).mono ?_
      rintro e w6 ⟨a2, rfl, a20, a21, hd⟩
      replace jR := hd.row (jR.alloc (.cells #[.int .i64 12000, .int .i64 40000] 3)) hbs
      replace zB : w.heap.size ≤ w6.heap.size := by have := hd.2.size; (try simp at this); omega
      replace hA := (hA.new (.cells #[.int .i64 12000, .int .i64 40000] 3)).trans hd
      clear hd
      go_wp2_with fail
      refine (kspan_in a1 a2 bs _ hA.seed (by omega) (by omega) (by omega)).mono ?_
      rintro e w7 ⟨x, y, rfl, x0, xy, y1, hd⟩
      replace jR := hd.row jR hbs
      replace zB : w.heap.size ≤ w7.heap.size := by have := hd.2.size; (try simp at this); omega
      replace hA := hA.trans hd
      clear hd
      go_wp2_with fail
      refine (below_in 3000 bs _ hA.seed (by decide)).mono ?_
      rintro e w8 ⟨b3, rfl, b30, b31, hd⟩
      replace b31 : b3 < 3000 := by omega
      replace jR := hd.row jR hbs
      replace zB : w.heap.size ≤ w8.heap.size := by have := hd.2.size; (try simp at this); omega
      replace hA := hA.trans hd
      clear hd
      go_wp2_with fail
      refine (of3_in 0 0 b3 0 3000 bs _ _ (by simp) hA.seed (by decide) (by decide) (by decide) (by decide) (by omega) (by omega)).mono ?_
      rintro e wa ⟨st, rfl, st0, st1, hd⟩
      replace jR := hd.row (jR.alloc (.cells #[.int .i64 0, .int .i64 0, .int .i64 b3] 3)) hbs
      replace zB : w.heap.size ≤ wa.heap.size := by have := hd.2.size; (try simp at this); omega
      replace hA := (hA.new (.cells #[.int .i64 0, .int .i64 0, .int .i64 b3] 3)).trans hd
      clear hd
      have hE : Ld.Ok ⟨me, x, y, st⟩ places := ⟨me0, by simp only; omega, by simp only; omega, xy, by simp only; omega, st0, by simp only; omega⟩
      have hr : ∀ z, u7.ownBlock = some z → w.heap.size ≤ z := fun z e => (jR.lt z e).1
      go_wp2_with (at_builtin; refine wpList_append_own_at _ rfl _ _ 43 rfl w.heap.size 53 i0 (.agg #[.int .i64 0, .int .i64 0, .int .i64 0, .int .i64 0]) 4 32 Try.underlying43 hi0 hz0 hz1 hz2 rfl (by decide) _ _ _ rfl (jR.alloc _) ⟨wa.heap.size, 0, none⟩ 1 1 [.int .i64 me, .int .i64 x, .int .i64 y, .int .i64 st] rfl rfl (news4 _ _ _ _ _ _) (one4 _ _ _ _) (by unfold maxLen; omega) (by omega) (by simp; omega) ?_; intro v' w9 hown' hgrow _ _; replace hown' := (loadC_up L k ⟨me, x, y, st⟩).symm ▸ hown'; have kA := (hA.new (.cells #[.int .i64 me, .int .i64 x, .int .i64 y, .int .i64 st] 53)).grown hgrow (fun q e => by have := hr q e; omega) hbs; have kZ : w.heap.size ≤ w9.heap.size := (by have := hgrow.size; simp at this; omega))
      clear hgrow jR hA zB hr
      go_roundw
      case rel => exact ⟨k + 1, j, me, upL L k ⟨me, x, y, st⟩, rfl, by go_num, me0, by omega, by omega, fun i hi => by
          by_cases e : i = k
          · subst e; rw [upL_at]; exact hE
          · rw [upL_ne _ _ _ _ e]; exact hT i (by omega), hown', kA, kZ⟩
      case measure => simp [intOf]
    · obtain rfl : j = 0 := by omega
      go_wp2
      go_ret
      exact ⟨k, L, u7, rfl, by omega, hT, jR, hA⟩
end Go.Proofs.Ytkkljbbgaogifaa
