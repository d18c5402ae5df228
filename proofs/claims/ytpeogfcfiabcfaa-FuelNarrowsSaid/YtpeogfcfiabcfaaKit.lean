/-
  The law's small functions: span, one, tank, book.
-/
import Derived.Test.YtpeogfcfiabcfaaTail
import Derived.Test.YtpeogfcfiabcfaaCon
set_option linter.unusedVariables false
set_option linter.unusedSimpArgs false
namespace Go.Proofs.Ytpeogfcfiabcfaa
open Go.RowKit

set_option maxRecDepth 100000 in
theorem span0_any (lo hi : Int) (w : World) : Calls Try.prog 58 #[.int .i64 lo, .int .i64 hi] w fun e w' => e = .returned (.agg #[.int .i64 lo, .int .i64 hi]) ∧ Below w.heap.size w w' := by
  have jN := Blk.new w #[.int .i64 lo, .int .i64 hi] 26
  have jB : Below w.heap.size w (w.alloc (.cells #[.int .i64 lo, .int .i64 hi] 26)) := by (repeat (first | exact Below.refl _ _ | assumption | refine Below.drew ?_ | refine Below.drewN ?_ _ | refine blT ?_ | refine blU ?_))
  obtain ⟨z0, z1⟩ := jN.c2
  go_enter Try.func58, Try.ntmps58
  go_wp2
  exact bodyPost_ret (v := .agg #[.int .i64 lo, .int .i64 hi]) (by simp [results, Try.results58, go_sem, z0, z1]) rfl ⟨rfl, jB⟩
set_option maxRecDepth 100000 in
theorem one_any (lo : Int) (w : World) : Calls Try.prog 64 #[.int .i64 lo] w fun e w' => e = .returned (.agg #[.int .i64 lo, .int .i64 lo]) ∧ Below w.heap.size w w' := by
  have jN := Blk.new w #[.int .i64 0, .int .i64 0] 26
  have jB : Below w.heap.size w (w.alloc (.cells #[.int .i64 0, .int .i64 0] 26)) := by (repeat (first | exact Below.refl _ _ | assumption | refine Below.drew ?_ | refine Below.drewN ?_ _ | refine blT ?_ | refine blU ?_))
  go_enter Try.func64, Try.ntmps64
  go_wp2_with fail
  refine (span0_any lo lo _).mono ?_
  rintro e w' ⟨rfl, hb⟩
  replace jN := jN.call hb
  replace jB := bwS jB (Nat.le_refl _) hb
  clear hb
  obtain ⟨r0, r1⟩ := jN.c2
  have f0 := jN.free 0
  have f1 := jN.free 1
  have zN := jN.lt
  have kN := Lib.hid ((jN.set 0 (.int .i64 lo)).set 1 (.int .i64 lo))
  have kB := Lib.hid ((jB.setCell (p := ⟨w.heap.size, 0, none⟩) (Nat.le_refl _) (.int .i64 lo)).setCell (p := ⟨w.heap.size, 1, none⟩) (Nat.le_refl _) (.int .i64 lo))
  clear jN jB
  go_wp2_with fail
  obtain ⟨z0, z1⟩ := kN.out.c2
  exact bodyPost_ret (v := .agg #[.int .i64 lo, .int .i64 lo]) (by simp [results, Try.results64, go_sem, z0, z1]) rfl ⟨rfl, kB.out⟩

def tkH (i : Nat) : Int := [0, 1000, 2000].getD i 0
def tkL (i : Nat) : Int := [0, 5000, 12000].getD i 0
theorem at3 {w : World} {b : Nat} {x y z : Int} {t : TypeId} {f : Nat → Int} (h : Blk w b #[.int .i64 x, .int .i64 y, .int .i64 z] t) (e0 : f 0 = x) (e1 : f 1 = y) (e2 : f 2 = z) : AtC w b 0 3 1 (inC f) := by
  intro i j u hi hu
  unfold inC at hu
  cases j with
  | succ j => simp at hu
  | zero =>
    have hu2 : Value.int .i64 (f i) = u := by simpa using hu
    subst hu2
    rcases i with _ | _ | _ | i
    · rw [e0]; exact h.cell 0 rfl
    · rw [e1]; exact h.cell 1 rfl
    · rw [e2]; exact h.cell 2 rfl
    · omega
set_option maxRecDepth 100000 in
theorem tank0 (w : World) : Calls Try.prog 67 #[] w fun e w' => ∃ b b2 : Nat, e = .returned (.agg #[.slice (some ⟨b, 0, none⟩) 3 3, .slice (some ⟨b2, 0, none⟩) 3 3]) ∧ AtC w' b 0 3 1 (inC tkH) ∧ AtC w' b2 0 3 1 (inC tkL) ∧ Below w.heap.size w w' := by
  have jX := ((Blk.new w #[.slice (some ⟨w.heap.size + 1, 0, none⟩) 3 3, .slice (some ⟨w.heap.size + 1 + 1, 0, none⟩) 3 3] 24).alloc (.cells #[.int .i64 0, .int .i64 1000, .int .i64 2000] 3)).alloc (.cells #[.int .i64 0, .int .i64 5000, .int .i64 12000] 3)
  have jH := (Blk.new1 w (.cells #[.slice (some ⟨w.heap.size + 1, 0, none⟩) 3 3, .slice (some ⟨w.heap.size + 1 + 1, 0, none⟩) 3 3] 24) #[.int .i64 0, .int .i64 1000, .int .i64 2000] 3).alloc (.cells #[.int .i64 0, .int .i64 5000, .int .i64 12000] 3)
  have jL := Blk.new2 w (.cells #[.slice (some ⟨w.heap.size + 1, 0, none⟩) 3 3, .slice (some ⟨w.heap.size + 1 + 1, 0, none⟩) 3 3] 24) (.cells #[.int .i64 0, .int .i64 1000, .int .i64 2000] 3) #[.int .i64 0, .int .i64 5000, .int .i64 12000] 3
  have jB : Below w.heap.size w (((w.alloc (.cells #[.slice (some ⟨w.heap.size + 1, 0, none⟩) 3 3, .slice (some ⟨w.heap.size + 1 + 1, 0, none⟩) 3 3] 24)).alloc (.cells #[.int .i64 0, .int .i64 1000, .int .i64 2000] 3)).alloc (.cells #[.int .i64 0, .int .i64 5000, .int .i64 12000] 3)) := by (repeat (first | exact Below.refl _ _ | assumption | refine Below.drew ?_ | refine Below.drewN ?_ _ | refine blT ?_ | refine blU ?_))
  obtain ⟨z0, z1⟩ := jX.c2
  have hX := Lib.hid (And.intro (at3 jH (f := tkH) rfl rfl rfl) (And.intro (at3 jL (f := tkL) rfl rfl rfl) jB))
  clear jX jH jL jB
  go_enter Try.func67, Try.ntmps67
  go_wp2_with fail
  exact bodyPost_ret (v := .agg #[.slice (some ⟨w.heap.size + 1, 0, none⟩) 3 3, .slice (some ⟨w.heap.size + 1 + 1, 0, none⟩) 3 3]) (by simp [results, Try.results67, go_sem, z0, z1]) rfl ⟨_, _, rfl, hX.out⟩

def bkA (i : Nat) : Ac := [(⟨⟨#[114, 97, 99, 107]⟩, 1, 1000, 1000, 600, 610⟩ : Ac), ⟨⟨#[99, 97, 109, 112]⟩, 1, 100, 110, 480, 490⟩, ⟨⟨#[103, 114, 111, 117, 110, 100]⟩, 2, 0, 0, 0, 5⟩].getD i ⟨⟨#[]⟩, 0, 0, 0, 0, 0⟩
def bkM (i : Nat) : Mv := [(⟨0, 1, 390, 400⟩ : Mv)].getD i ⟨0, 0, 0, 0⟩
theorem atA {w : World} {b : Nat} {t : TypeId} (h : Blk w b #[.string ⟨#[114, 97, 99, 107]⟩, .int .i64 1, .int .i64 1000, .int .i64 1000, .int .i64 600, .int .i64 610, .string ⟨#[99, 97, 109, 112]⟩, .int .i64 1, .int .i64 100, .int .i64 110, .int .i64 480, .int .i64 490, .string ⟨#[103, 114, 111, 117, 110, 100]⟩, .int .i64 2, .int .i64 0, .int .i64 0, .int .i64 0, .int .i64 5] t) : AtC w b 0 3 6 (acC bkA) := by
  intro i j u hi hu
  unfold acC at hu
  rcases i with _ | _ | _ | i
  · rcases j with _ | _ | _ | _ | _ | _ | j
    all_goals first | (simp at hu; done) | (exact h.cell _ hu)
  · rcases j with _ | _ | _ | _ | _ | _ | j
    all_goals first | (simp at hu; done) | (exact h.cell _ hu)
  · rcases j with _ | _ | _ | _ | _ | _ | j
    all_goals first | (simp at hu; done) | (exact h.cell _ hu)
  · omega
theorem atM {w : World} {b : Nat} {t : TypeId} (h : Blk w b #[.int .i64 0, .int .i64 1, .int .i64 390, .int .i64 400] t) : AtC w b 0 1 4 (mvC bkM) := by
  intro i j u hi hu
  unfold mvC at hu
  rcases i with _ | i
  · rcases j with _ | _ | _ | _ | j
    all_goals first | (simp at hu; done) | (exact h.cell _ hu)
  · omega
set_option maxRecDepth 100000 in
set_option maxHeartbeats 1000000 in
theorem book0 (w : World) : Calls Try.prog 66 #[] w fun e w' => ∃ b b2 : Nat, e = .returned (.agg #[.slice (some ⟨b, 0, none⟩) 3 3, .slice (some ⟨b2, 0, none⟩) 1 1]) ∧ AtC w' b 0 3 6 (acC bkA) ∧ AtC w' b2 0 1 4 (mvC bkM) ∧ Below w.heap.size w w' := by
  have jN := Blk.new w #[.slice none 0 0, .slice none 0 0] 44
  have jB : Below w.heap.size w (w.alloc (.cells #[.slice none 0 0, .slice none 0 0] 44)) := by (repeat (first | exact Below.refl _ _ | assumption | refine Below.drew ?_ | refine Below.drewN ?_ _ | refine blT ?_ | refine blU ?_))
  go_enter Try.func66, Try.ntmps66
  go_wp2_with fail
  refine (one_any 1000 _).mono ?_
  rintro e w1 ⟨rfl, hb⟩
  replace jN := jN.call hb
  replace jB := bwS jB (Nat.le_refl _) hb
  clear hb
  go_wp2_with fail
  refine (span0_any 600 610 _).mono ?_
  rintro e w1 ⟨rfl, hb⟩
  replace jN := jN.call hb
  replace jB := bwS jB (Nat.le_refl _) hb
  clear hb
  go_wp2_with fail
  refine (span0_any 100 110 _).mono ?_
  rintro e w1 ⟨rfl, hb⟩
  replace jN := jN.call hb
  replace jB := bwS jB (Nat.le_refl _) hb
  clear hb
  go_wp2_with fail
  refine (span0_any 480 490 _).mono ?_
  rintro e w1 ⟨rfl, hb⟩
  replace jN := jN.call hb
  replace jB := bwS jB (Nat.le_refl _) hb
  clear hb
  go_wp2_with fail
  refine (span0_any 0 5 _).mono ?_
  rintro e w1 ⟨rfl, hb⟩
  replace jN := jN.call hb
  replace jB := bwS jB (Nat.le_refl _) hb
  clear hb
  have zA : w.heap.size ≠ w1.heap.size := Nat.ne_of_lt jN.lt
  have jA := Blk.new w1 #[.string ⟨#[114, 97, 99, 107]⟩, .int .i64 1, .int .i64 1000, .int .i64 1000, .int .i64 600, .int .i64 610, .string ⟨#[99, 97, 109, 112]⟩, .int .i64 1, .int .i64 100, .int .i64 110, .int .i64 480, .int .i64 490, .string ⟨#[103, 114, 111, 117, 110, 100]⟩, .int .i64 2, .int .i64 0, .int .i64 0, .int .i64 0, .int .i64 5] 87
  replace jN := jN.alloc (.cells #[.string ⟨#[114, 97, 99, 107]⟩, .int .i64 1, .int .i64 1000, .int .i64 1000, .int .i64 600, .int .i64 610, .string ⟨#[99, 97, 109, 112]⟩, .int .i64 1, .int .i64 100, .int .i64 110, .int .i64 480, .int .i64 490, .string ⟨#[103, 114, 111, 117, 110, 100]⟩, .int .i64 2, .int .i64 0, .int .i64 0, .int .i64 0, .int .i64 5] 87)
  replace jB := bwA jB (Nat.le_refl _) (.cells #[.string ⟨#[114, 97, 99, 107]⟩, .int .i64 1, .int .i64 1000, .int .i64 1000, .int .i64 600, .int .i64 610, .string ⟨#[99, 97, 109, 112]⟩, .int .i64 1, .int .i64 100, .int .i64 110, .int .i64 480, .int .i64 490, .string ⟨#[103, 114, 111, 117, 110, 100]⟩, .int .i64 2, .int .i64 0, .int .i64 0, .int .i64 0, .int .i64 5] 87)
  go_wp2_with fail
  refine (span0_any 390 400 _).mono ?_
  rintro e w2 ⟨rfl, hb⟩
  replace jN := jN.call hb
  replace jA := jA.call hb
  replace jB := bwS jB (Nat.le_refl _) hb
  clear hb
  obtain ⟨bA, hbA⟩ : ∃ x, w1.heap.size = x := ⟨_, rfl⟩
  rw [hbA] at jA zA ⊢
  clear hbA
  have zM : w.heap.size ≠ w2.heap.size := Nat.ne_of_lt jN.lt
  have jM := Blk.new w2 #[.int .i64 0, .int .i64 1, .int .i64 390, .int .i64 400] 68
  replace jN := jN.alloc (.cells #[.int .i64 0, .int .i64 1, .int .i64 390, .int .i64 400] 68)
  replace jA := jA.alloc (.cells #[.int .i64 0, .int .i64 1, .int .i64 390, .int .i64 400] 68)
  replace jB := bwA jB (Nat.le_refl _) (.cells #[.int .i64 0, .int .i64 1, .int .i64 390, .int .i64 400] 68)
  obtain ⟨r0, r1⟩ := jN.c2
  have f0 := jN.free 0
  have f1 := jN.free 1
  have zN := jN.lt
  have kN := ((jN.set 0 (.slice (some ⟨bA, 0, none⟩) 3 3)).set 1 (.slice (some ⟨w2.heap.size, 0, none⟩) 1 1))
  have kA := (jA.other ⟨w.heap.size, 0, none⟩ (.slice (some ⟨bA, 0, none⟩) 3 3) (Ne.symm zA)).other ⟨w.heap.size, 1, none⟩ (.slice (some ⟨w2.heap.size, 0, none⟩) 1 1) (Ne.symm zA)
  have kM := (jM.other ⟨w.heap.size, 0, none⟩ (.slice (some ⟨bA, 0, none⟩) 3 3) (Ne.symm zM)).other ⟨w.heap.size, 1, none⟩ (.slice (some ⟨w2.heap.size, 0, none⟩) 1 1) (Ne.symm zM)
  have kB := (jB.setCell (p := ⟨w.heap.size, 0, none⟩) (Nat.le_refl _) (.slice (some ⟨bA, 0, none⟩) 3 3)).setCell (p := ⟨w.heap.size, 1, none⟩) (Nat.le_refl _) (.slice (some ⟨w2.heap.size, 0, none⟩) 1 1)
  have KX := Lib.hid (And.intro (atA kA) (And.intro (atM kM) kB))
  have KN := Lib.hid kN
  clear kN kA kM kB jN jA jM jB
  go_wp2_with fail
  obtain ⟨z0, z1⟩ := KN.out.c2
  exact bodyPost_ret (v := .agg #[.slice (some ⟨bA, 0, none⟩) 3 3, .slice (some ⟨w2.heap.size, 0, none⟩) 1 1]) (by simp [results, Try.results66, go_sem, z0, z1]) rfl ⟨_, _, rfl, KX.out⟩
end Go.Proofs.Ytpeogfcfiabcfaa
