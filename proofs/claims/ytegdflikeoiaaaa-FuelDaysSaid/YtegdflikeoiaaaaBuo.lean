/-
  BurnOf (sastrugikit): some burn.
-/
import Derived.Test.YtegdflikeoiaaaaCol
set_option linter.unusedVariables false
set_option linter.unusedSimpArgs false
namespace Go.Proofs.Ytegdflikeoiaaaa
open Go.RowKit

def upB (f : Nat → Bu) (k : Nat) (v : Bu) : Nat → Bu := fun i => if i = k then v else f i
theorem cat_upB (B : Nat → Bu) (j : Nat) (u : Bu) : catC (buC (upB B j u)) (j + 1) = catC (buC B) j ++ [.int .i64 u.co, .int .i64 u.lo, .int .i64 u.hi] := by
  rw [catC, catC_congr j (C := buC (upB B j u)) (D := buC B) (fun i hi => by unfold buC upB; rw [if_neg (by omega)])]
  unfold buC upB
  simp
set_option maxRecDepth 100000 in
set_option maxHeartbeats 2000000 in
theorem burnof_in (bs : Nat) (w : World) (hs : SeedAt bs w) :
    Calls Try.prog 45 #[.pointer (some ⟨bs, 0, none⟩), .bool false] w fun e w' => ∃ v n B, e = .returned v ∧ BusAt w' v n B ∧ w'.ownsRow w.heap.size 127 3 v n (catC (buC B) n) ∧ Drawn bs w w' := by
  have hbs : bs < w.heap.size := hs.choose_spec.lt
  obtain ⟨i0, hi0, hz0, hz1, hz2⟩ := info_parts Try.infoBurn
  have hD := Drawn.refl hs
  go_enter Try.func45, Try.ntmps45
  go_wp2_with fail
  refine (from_in (-100) 100 bs _ hD.seed (by omega) (by omega) (by omega) (by omega)).mono ?_
  rintro e w1 ⟨x, rfl, -, -, hd⟩
  replace hD := hD.trans hd
  clear hd
  go_wp2_with fail
  refine (from_in 1 4 bs _ hD.seed (by omega) (by omega) (by omega) (by omega)).mono ?_
  rintro e w1 ⟨c, rfl, c0, c1, hd⟩
  replace hD := hD.trans hd
  have c2 : c ≤ 4 := by omega
  clear hd c1
  obtain ⟨k, rfl⟩ : ∃ k : Nat, c = k := ⟨c.toNat, by omega⟩
  clear c0
  have jR : w1.ownsRow w.heap.size 127 3 (.slice none 0 0) 0 (catC (buC (fun _ => ⟨0, 0, 0⟩)) 0) := World.ownsRow_nil _ _ _ _
  go_wp2_with fail
  go_loopw [5, 6, 7] (fun l s6 i wr => ∃ k j : Nat, ∃ B x, k + j ≤ 4 ∧ i = .int .i64 k ∧ s6 = .int .i64 x ∧ wr.ownsRow w.heap.size 127 3 l j (catC (buC B) j) ∧ Drawn bs w wr) (fun _ _ i _ => (intOf i).toNat)
  case atStart => exact ⟨k, 0, fun _ => ⟨0, 0, 0⟩, x, by omega, rfl, rfl, jR, hD⟩
  case round =>
    clear jR hD c2
    obtain ⟨k, j, B, x, hkj, rfl, rfl, jR, hD⟩ := hrel
    by_cases h0 : k = 0
    · subst h0
      have hS := lat_of_row jR (by omega) (fun i _ => rfl)
      go_wp2
      go_ret
      exact ⟨_, j, B, rfl, hS, jR, hD⟩
    · have e2 : (0 : Int) < k := by omega
      have e3 : IntKind.i64.wrap ((k : Int) - 1) = ((k - 1 : Nat) : Int) := by rw [show (k : Int) - 1 = ((k - 1 : Nat) : Int) by omega]; exact IntWalk.i64_in _ (by omega)
      go_wp2_with fail
      refine (kspan_in 0 60 bs _ hD.seed (by omega) (by omega) (by omega)).mono ?_
      rintro e w2 ⟨lo, hi, rfl, _, _, _, hd⟩
      replace jR := hd.row jR hbs
      replace hD := hD.trans hd
      clear hd
      have jX := Blk.new w2 #[.int .i64 x, .int .i64 lo, .int .i64 hi] 127
      have zW := hD.2.size
      replace jR := jR.alloc (.cells #[.int .i64 x, .int .i64 lo, .int .i64 hi] 127)
      replace hD := hD.new (.cells #[.int .i64 x, .int .i64 lo, .int .i64 hi] 127)
      obtain ⟨al, cl, hl, -, -, -⟩ := row_at jR (by omega)
      subst hl
      go_upto_region 10 with fail
      generalize w2.alloc (.cells #[.int .i64 x, .int .i64 lo, .int .i64 hi] 127) = V at jX jR hD ⊢
      obtain ⟨bA, hbA⟩ : ∃ b, w2.heap.size = b := ⟨_, rfl⟩
      rw [hbA] at jX zW ⊢
      clear hbA
      obtain ⟨c0, c1⟩ : V.cell? ⟨bA, 0, none⟩ = some (.int .i64 x) ∧ V.cell? ⟨bA, 1, none⟩ = some (.int .i64 lo) := ⟨jX.cell 0 rfl, jX.cell 1 rfl⟩
      have c2 : V.cell? ⟨bA, 2, none⟩ = some (.int .i64 hi) := jX.cell 2 rfl
      have zA := jX.lt
      have zV := hD.2.size
      have H1 := Lib.hid (cat_upB B j ⟨x, lo, hi⟩)
      have hr : ∀ z, (Value.slice al j cl).ownBlock = some z → w.heap.size ≤ z := fun z e => (jR.lt z e).1
      go_wp2_with (at_builtin; refine wpList_append_own_at _ rfl _ _ 73 rfl w.heap.size 127 i0 (.agg #[.int .i64 0, .int .i64 0, .int .i64 0]) 3 24 Try.underlying73 hi0 hz0 hz1 hz2 rfl (by decide) _ _ _ rfl (jR.alloc _) ⟨V.heap.size, 0, none⟩ 1 1 [.int .i64 x, .int .i64 lo, .int .i64 hi] rfl rfl (newsN _ _ _) (one3 _ _ _) (by unfold maxLen; omega) (by omega) (by simp; omega) ?_; intro v' w9 hown' hgrow _ _; rw [← H1.out] at hown'; have kD := (hD.new (.cells #[.int .i64 x, .int .i64 lo, .int .i64 hi] 127)).grown hgrow hr hbs)
      clear hgrow jR hD hr jX c0 c1 c2
      refine (from_in 1 80 bs _ kD.seed (by omega) (by omega) (by omega) (by omega)).mono ?_
      rintro e w10 ⟨y, rfl, -, -, hd⟩
      replace hown' := hd.row hown' hbs
      replace kD := kD.trans hd
      clear hd
      go_wp2
      go_roundw
      case rel => exact ⟨k - 1, j + 1, upB B j ⟨x, lo, hi⟩, _, by omega, rfl, rfl, hown', kD⟩
      case measure => simp [intOf]; omega
end Go.Proofs.Ytegdflikeoiaaaa
