/-
  ColdsOf (sastrugikit): some list of spans.
-/
import Derived.Test.YtpeogfcfiabcfaaSpan
import Derived.Test.YtpeogfcfiabcfaaRow
import Derived.Test.YtpeogfcfiabcfaaTab
set_option linter.unusedVariables false
set_option linter.unusedSimpArgs false
namespace Go.Proofs.Ytpeogfcfiabcfaa
open Go.RowKit

def upF (f : Nat → Int) (k : Nat) (v : Int) : Nat → Int := fun i => if i = k then v else f i
theorem cat_up (A B : Nat → Int) (j : Nat) (x y : Int) : catC (spC (upF A j x) (upF B j y)) (j + 1) = catC (spC A B) j ++ [.int .i64 x, .int .i64 y] := by
  rw [catC, catC_congr j (C := spC (upF A j x) (upF B j y)) (D := spC A B) (fun i hi => by unfold spC upF; rw [if_neg (by omega), if_neg (by omega)])]
  unfold spC upF
  simp
set_option maxRecDepth 100000 in
set_option maxHeartbeats 2000000 in
theorem colds_in (bs : Nat) (w : World) (hs : SeedAt bs w) :
    Calls Try.prog 46 #[.pointer (some ⟨bs, 0, none⟩), .int .i64 20] w fun e w' => ∃ v n C D, e = .returned v ∧ SpansAt w' v n C D ∧ w'.ownsRow w.heap.size 26 2 v n (catC (spC C D) n) ∧ Drawn bs w w' := by
  have hbs : bs < w.heap.size := hs.choose_spec.lt
  obtain ⟨i0, hi0, hz0, hz1, hz2⟩ := info_parts Try.infoSpan
  have hD := Drawn.refl hs
  have e1 : IntKind.i64.wrap ((20 : Int) + 1) = 21 := by decide
  go_enter Try.func46, Try.ntmps46
  go_wp2_with fail
  refine (below_in 21 bs _ hD.seed (by omega)).mono ?_
  rintro e w1 ⟨c, rfl, c0, c1, hd⟩
  replace hD := hD.trans hd
  have c2 : c ≤ 21 := by omega
  clear hd c1
  obtain ⟨k, rfl⟩ : ∃ k : Nat, c = k := ⟨c.toNat, by omega⟩
  clear c0
  have jR : w1.ownsRow w.heap.size 26 2 (.slice none 0 0) 0 (catC (spC (fun _ => 0) (fun _ => 0)) 0) := World.ownsRow_nil _ _ _ _
  go_wp2_with fail
  go_loopw [5, 6] (fun l i wr => ∃ k j : Nat, ∃ A B, k + j ≤ 21 ∧ i = .int .i64 k ∧ wr.ownsRow w.heap.size 26 2 l j (catC (spC A B) j) ∧ Drawn bs w wr) (fun _ i _ => (intOf i).toNat)
  case atStart => exact ⟨k, 0, fun _ => 0, fun _ => 0, by omega, rfl, jR, hD⟩
  case round =>
    clear jR hD c2
    obtain ⟨k, j, A, B, hkj, rfl, jR, hD⟩ := hrel
    by_cases h0 : k = 0
    · subst h0
      have hS := lat_of_row jR (by omega) (fun i _ => rfl)
      go_wp2
      go_ret
      exact ⟨_, j, A, B, rfl, hS, jR, hD⟩
    · have e2 : (0 : Int) < k := by omega
      have e3 : IntKind.i64.wrap ((k : Int) - 1) = ((k - 1 : Nat) : Int) := by rw [show (k : Int) - 1 = ((k - 1 : Nat) : Int) by omega]; exact IntWalk.i64_in _ (by omega)
      go_wp2_with fail
      refine (kspan_in (-150) 350 bs _ hD.seed (by omega) (by omega) (by omega)).mono ?_
      rintro e w2 ⟨x, y, rfl, _, _, _, hd⟩
      replace jR := hd.row jR hbs
      replace hD := hD.trans hd
      clear hd
      have H1 := Lib.hid (cat_up A B j x y)
      have zW := hD.2.size
      have hr : ∀ z, u5.ownBlock = some z → w.heap.size ≤ z := fun z e => (jR.lt z e).1
      go_wp2_with (at_builtin; refine wpList_append_own_at _ rfl _ _ 33 rfl w.heap.size 26 i0 (.agg #[.int .i64 0, .int .i64 0]) 2 16 Try.underlying33 hi0 hz0 hz1 hz2 rfl (by decide) _ _ _ rfl (jR.alloc _) ⟨w2.heap.size, 0, none⟩ 1 1 [.int .i64 x, .int .i64 y] rfl rfl (newsN _ _ _) (one2 _ _) (by unfold maxLen; omega) (by omega) (by simp; omega) ?_; intro v' w9 hown' hgrow _ _; rw [← H1.out] at hown'; have kD := (hD.new (.cells #[.int .i64 x, .int .i64 y] 26)).grown hgrow hr hbs)
      clear hgrow jR hD hr
      go_roundw
      case rel => exact ⟨k - 1, j + 1, upF A j x, upF B j y, by omega, rfl, hown', kD⟩
      case measure => simp [intOf]; omega
end Go.Proofs.Ytpeogfcfiabcfaa
