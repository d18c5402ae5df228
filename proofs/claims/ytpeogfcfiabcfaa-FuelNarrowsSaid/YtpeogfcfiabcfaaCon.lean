/-
  What is in a valid tank at a height (package fuel).
-/
import Derived.Test.YtpeogfcfiabcfaaTail
import Derived.Test.YtpeogfcfiabcfaaVol
import Derived.Test.YtpeogfcfiabcfaaShare
set_option linter.unusedVariables false
set_option linter.unusedSimpArgs false
namespace Go.Proofs.Ytpeogfcfiabcfaa
open Go.RowKit

structure TkOk (n : Nat) (H L : Nat → Int) : Prop where
  n2 : 2 ≤ n
  n40 : n ≤ 40
  h0 : ∀ i, i < n → 0 ≤ H i ∧ H i ≤ 100000
  l0 : ∀ i, i < n → 0 ≤ L i ∧ L i ≤ 1000000000
  hs : ∀ i, i + 1 < n → H i < H (i + 1)
  ls : ∀ i, i + 1 < n → L i ≤ L (i + 1)
structure Part (n : Nat) (H : Nat → Int) (h : Int) (k : Nat) : Prop where
  k1 : k + 1 < n
  lo : H k ≤ h
  hi : h ≤ H (k + 1)
  ge : ∀ j, k = j + 1 → H k < h
def ctLo (H L : Nat → Int) (h : Int) (k : Nat) : Int := L k + (h - H k) * (L (k + 1) - L k) / (H (k + 1) - H k)
def ctHi (H L : Nat → Int) (h : Int) (k : Nat) : Int := L k + upQ ((h - H k) * (L (k + 1) - L k)) (H (k + 1) - H k)

theorem Blk.undrew {w : World} {b : Nat} {C : Array Value} {t : TypeId} (h : Blk w.drew b C t) : Blk w b C t := h
theorem below_undrew {B : Nat} {a w : World} (h : Below B a w.drew) : Below B a w := ⟨h.os, h.tape, h.output, h.size, h.block⟩
theorem below_set2 {B : Nat} {w v : World} (h : Below B w v) {c j k : Nat} (hp : B ≤ c) (y0 y1 : Value) : Below B w ((v.setCell ⟨c, j, none⟩ y0).setCell ⟨c, k, none⟩ y1) :=
  (h.setCell (p := ⟨c, j, none⟩) hp _).setCell (p := ⟨c, k, none⟩) hp _

set_option maxRecDepth 100000 in
set_option maxHeartbeats 4000000 in
theorem contents_ok (n : Nat) (H L : Nat → Int) (h : Int) (b o cH b2 o2 cL : Nat) (w : World) (ok : TkOk n H L) (g0 : H 0 ≤ h) (g1 : h ≤ H (n - 1)) (hH : AtC w b o n 1 (inC H)) (hL : AtC w b2 o2 n 1 (inC L)) :
    Calls Try.prog 71 #[.agg #[.slice (some ⟨b, o, none⟩) n cH, .slice (some ⟨b2, o2, none⟩) n cL], .int .i64 h] w fun e w' => ∃ k : Nat, Part n H h k ∧ e = .returned (.agg #[.int .i64 (ctLo H L h k), .int .i64 (ctHi H L h k)]) ∧ Below w.heap.size w w' := by
  have n2 := ok.n2
  have n40 := ok.n40
  have hok := Lib.hid (And.intro ok (And.intro g0 g1))
  clear ok g0 g1
  have HH := Lib.hid hH
  have HL := Lib.hid hL
  have zb := hH.lt (i := 0) (by omega) rfl
  have zb2 := hL.lt (i := 0) (by omega) rfl
  clear hH hL
  have jT := ((Blk.new w #[.slice (some ⟨b, o, none⟩) n cH, .slice (some ⟨b2, o2, none⟩) n cL] 24).alloc (.cells #[.int .i64 h] 3)).alloc (.cells #[.int .i64 0, .int .i64 0] 26)
  have jQ := (Blk.new (w.alloc (.cells #[.slice (some ⟨b, o, none⟩) n cH, .slice (some ⟨b2, o2, none⟩) n cL] 24)) #[.int .i64 h] 3).alloc (.cells #[.int .i64 0, .int .i64 0] 26)
  have jR := Blk.new ((w.alloc (.cells #[.slice (some ⟨b, o, none⟩) n cH, .slice (some ⟨b2, o2, none⟩) n cL] 24)).alloc (.cells #[.int .i64 h] 3)) #[.int .i64 0, .int .i64 0] 26
  have jB : Below w.heap.size w (((w.alloc (.cells #[.slice (some ⟨b, o, none⟩) n cH, .slice (some ⟨b2, o2, none⟩) n cL] 24)).alloc (.cells #[.int .i64 h] 3)).alloc (.cells #[.int .i64 0, .int .i64 0] 26)) := by (repeat (first | exact Below.refl _ _ | assumption | refine Below.drew ?_ | refine Below.drewN ?_ _ | refine blT ?_ | refine blU ?_))
  simp only [World.size_alloc] at jQ jR
  have e1 : IntKind.i64.wrap ((n : Int) - 2) = (n : Int) - 2 := IntWalk.i64_in _ (by omega)
  have e2 : (n : Int) - 2 = ((n - 2 : Nat) : Int) := by omega
  go_enter Try.func71, Try.ntmps71
  go_wp2_with fail
  clear e1 e2
  obtain ⟨U, hU⟩ : ∃ U, Blk.wld jT = U := ⟨_, rfl⟩
  simp only [Blk.wld] at hU
  rw [hU] at jT jQ jR jB ⊢
  clear hU
  obtain ⟨c0, c1⟩ := jT.c2
  have q0 := jQ.cell 0 rfl
  refine (search2_in (n - 2) (by omega) (.pointer (some ⟨w.heap.size, 0, none⟩)) (.pointer (some ⟨w.heap.size + 1, 0, none⟩)) (fun i => decide (h ≤ H (i + 1))) U (fun i hi W hW => conts1_any H h _ _ b o n cH i (by omega) (by omega) W (cell_later hW c0) (cell_later hW q0) (HH.out.below (jB.trans (hW.mono jB.size)) zb))).mono ?_
  rintro e w1 ⟨k, rfl, hk, f1, f2, hb⟩
  have hPt : Part n H h k := by
    obtain ⟨ok, g0, g1⟩ := hok.out
    refine ⟨by omega, ?_, ?_, ?_⟩
    · cases k with
      | zero => exact g0
      | succ j => have := f2 j rfl; simp at this; omega
    · by_cases hkn : k < n - 2
      · have := f1 hkn; simpa using this
      · have : k + 1 = n - 1 := by omega
        rw [this]; exact g1
    · intro j hj
      subst hj
      have := f2 j rfl
      simp at this; exact this
  clear f1 f2
  replace jT := jT.call hb
  replace jQ := jQ.call hb
  replace jR := jR.call hb
  replace jB := bwS jB (Nat.le_refl _) hb
  clear hb c0 c1 q0
  have zk := hPt.k1
  have e3 : IntKind.i64.wrap (1 + (k : Int)) = (k : Int) + 1 := by rw [Int.add_comm]; exact IntWalk.i64_in _ (by omega)
  have e4 : IntKind.i64.wrap ((k : Int) + 1 - 1) = (k : Int) := by rw [Int.add_sub_cancel]; exact IntWalk.i64_in _ (by omega)
  obtain ⟨ok, g0, g1⟩ := hok.out
  have o1 := ok.h0 k (by omega)
  have o2' := ok.h0 (k + 1) zk
  have o3 := ok.l0 k (by omega)
  have o4 := ok.l0 (k + 1) zk
  have o5 := ok.hs k zk
  have o6 := ok.ls k zk
  have o7 := hPt.lo
  have o8 := hPt.hi
  have a1 := HH.out.c1 (i := k) (by omega) rfl
  have a2 := HH.out.c1 (i := k + 1) zk rfl
  have a3 := HL.out.c1 (i := k) (by omega) rfl
  have a4 := HL.out.c1 (i := k + 1) zk rfl
  have hR1 : ctLo H L h k = L k + (h - H k) * (L (k + 1) - L k) / (H (k + 1) - H k) := rfl
  have hR2 : ctHi H L h k = L k + upQ ((h - H k) * (L (k + 1) - L k)) (H (k + 1) - H k) := rfl
  have HPt := Lib.hid hPt
  clear hPt ok g0 g1
  generalize H k = x at o1 o5 o7 a1 hR1 hR2
  generalize H (k + 1) = y at o2' o5 o8 a2 hR1 hR2
  generalize L k = u at o3 o6 a3 hR1 hR2
  generalize L (k + 1) = v at o4 o6 a4 hR1 hR2
  have e5 : IntKind.i64.wrap (h - x) = h - x := IntWalk.i64_in _ (by omega)
  have e6 : IntKind.i64.wrap (v - u) = v - u := IntWalk.i64_in _ (by omega)
  have e7 : IntKind.i64.wrap (y - x) = y - x := IntWalk.i64_in _ (by omega)
  obtain ⟨m, hm⟩ : ∃ m, (h - x) * (v - u) = m := ⟨_, rfl⟩
  have m0 : 0 ≤ m := by rw [← hm]; exact Int.mul_nonneg (by omega) (by omega)
  have m1 : m ≤ 100000000000000 := by
    rw [← hm]
    exact Int.le_trans (Int.mul_le_mul (show h - x ≤ 100000 by omega) (show v - u ≤ 1000000000 by omega) (by omega) (by omega)) (by decide)
  have e8 : IntKind.i64.wrap ((h - x) * (v - u)) = m := by rw [hm]; exact IntWalk.i64_in _ (by omega)
  rw [hm] at hR1 hR2
  obtain ⟨d, hd⟩ : ∃ d, y - x = d := ⟨_, rfl⟩
  have d0 : 1 ≤ d := by omega
  have d1 : d ≤ 100000 := by omega
  rw [hd] at hR1 hR2
  replace e7 := e7.trans hd
  have HF := Lib.hid (fun (W : World) => fraction_any m d m0 (by omega) d0 (by omega) W)
  obtain ⟨q, hq⟩ : ∃ q, m / d = q := ⟨_, rfl⟩
  obtain ⟨q2, hq2⟩ : ∃ q, upQ m d = q := ⟨_, rfl⟩
  have b1 : 0 ≤ q := by rw [← hq]; exact Int.ediv_nonneg m0 (by omega)
  have b2 : q ≤ m := by rw [← hq]; exact Int.ediv_le_self d m0
  have b3 : 0 ≤ q2 := by rw [← hq2]; exact Int.ediv_nonneg (by omega) (by omega)
  have b4 : q2 ≤ m + d - 1 := by rw [← hq2]; exact Int.ediv_le_self d (by omega)
  simp only [hq, hq2] at HF
  rw [hq] at hR1
  rw [hq2] at hR2
  have e9 : IntKind.i64.wrap (u + q) = u + q := IntWalk.i64_in _ (by omega)
  have e10 : IntKind.i64.wrap (u + q2) = u + q2 := IntWalk.i64_in _ (by omega)
  have e11 : (k : Int) < n := by omega
  have e12 : (k : Int) + 1 < n := by omega
  have e13 : (0 : Int) ≤ (k : Int) + 1 := by omega
  have HV := Lib.hid (fun (W : World) (hW : Below w.heap.size w W) => And.intro (cell_later hW a1) (And.intro (cell_later hW a2) (And.intro (cell_later hW a3) (cell_later hW a4))))
  have zz1 := World.block_lt_of_cell? _ _ a1
  have zz2 := World.block_lt_of_cell? _ _ a3
  have HR := Lib.hid (And.intro hR1 hR2)
  clear a1 a2 a3 a4 hR1 hR2 hm hd hq hq2 b1 b2 b3 b4 m0 m1 d0 d1 o1 o2' o3 o4 o5 o6 o7 o8 hok HH HL
  go_upto_region 3 with fail
  go_cut [7] (fun s7 wx => ∃ bA : Nat, s7 = .pointer (some ⟨bA, 0, none⟩) ∧ w.heap.size + 1 + 1 < bA ∧ Blk wx bA #[.int .i64 q, .int .i64 q2] 26 ∧ (Blk wx w.heap.size #[.slice (some ⟨b, o, none⟩) n cH, .slice (some ⟨b2, o2, none⟩) n cL] 24 ∧ Blk wx (w.heap.size + 1) #[.int .i64 h] 3 ∧ Blk wx (w.heap.size + 1 + 1) #[.int .i64 0, .int .i64 0] 26 ∧ Below w.heap.size w wx))
  case first =>
    (
 let S9 : World → Prop := (fun wx => Blk wx w.heap.size #[.slice (some ⟨b, o, none⟩) n cH, .slice (some ⟨b2, o2, none⟩) n cL] 24 ∧ Blk wx (w.heap.size + 1) #[.int .i64 h] 3 ∧ Blk wx (w.heap.size + 1 + 1) #[.int .i64 0, .int .i64 0] 26 ∧ Below w.heap.size w wx)
 refine wp_region_held_drew (S := S9) (by kernel_rfl) ?_ (fun hH => ?_)
 · (try dsimp only); (exact ⟨jT.drew, jQ.drew, jR.drew, jB.drew⟩)
 apply share0 (fun (bA : Nat) (W : World) => S9 W ∧ Blk W bA #[.int .i64 0, .int .i64 0] 26 ∧ (w.heap.size + 1 + 1 < bA))
 {
 intro X1
 apply share0 (fun (bA : Nat) (W : World) => S9 W ∧ Blk W bA #[.int .i64 0, .int .i64 0] 26 ∧ (w.heap.size + 1 + 1 < bA))
 {
 intro X0
 refine tkY 0 (some 17) ?_ ?_ ?_
 rotate_left
 · intro w hS0; (try dsimp only at hS0); obtain ⟨kT, kQ, kR, kB⟩ := hS0; obtain ⟨c0, c1⟩ := kT.c2; have q0 := kQ.cell 0 rfl; obtain ⟨r1, r2, r3, r4⟩ := HV.out _ kB; have y1 := kT.lt; have y2 := kQ.lt; have y3 := World.block_lt_of_cell? _ _ r1; have y4 := World.block_lt_of_cell? _ _ r3;go_simp; (try with_reducible rfl)
 (try simp only [cq])
 refine tkY 1 (some 18) ?_ ?_ ?_
 rotate_left
 · intro w hS0; (try dsimp only at hS0); obtain ⟨kT, kQ, kR, kB⟩ := hS0; obtain ⟨c0, c1⟩ := kT.c2; have q0 := kQ.cell 0 rfl; obtain ⟨r1, r2, r3, r4⟩ := HV.out _ kB; have y1 := kT.lt; have y2 := kQ.lt; have y3 := World.block_lt_of_cell? _ _ r1; have y4 := World.block_lt_of_cell? _ _ r3;go_simp; (try with_reducible rfl)
 (try simp only [cq])
 refine tkY 2 (some 19) ?_ ?_ ?_
 rotate_left
 · intro w hS0; (try dsimp only at hS0); obtain ⟨kT, kQ, kR, kB⟩ := hS0; obtain ⟨c0, c1⟩ := kT.c2; have q0 := kQ.cell 0 rfl; obtain ⟨r1, r2, r3, r4⟩ := HV.out _ kB; have y1 := kT.lt; have y2 := kQ.lt; have y3 := World.block_lt_of_cell? _ _ r1; have y4 := World.block_lt_of_cell? _ _ r3;go_simp; (try with_reducible rfl)
 (try simp only [cq])
 refine tkY 3 (some 20) ?_ ?_ ?_
 rotate_left
 · intro w _; go_simp; (try with_reducible rfl)
 (try simp only [cq])
 refine tkY 4 (some 21) ?_ ?_ ?_
 rotate_left
 · intro w hS0; (try dsimp only at hS0); obtain ⟨kT, kQ, kR, kB⟩ := hS0; obtain ⟨c0, c1⟩ := kT.c2; have q0 := kQ.cell 0 rfl; obtain ⟨r1, r2, r3, r4⟩ := HV.out _ kB; have y1 := kT.lt; have y2 := kQ.lt; have y3 := World.block_lt_of_cell? _ _ r1; have y4 := World.block_lt_of_cell? _ _ r3;go_simp; (try with_reducible rfl)
 (try simp only [cq])
 refine tkY 5 (some 22) ?_ ?_ ?_
 rotate_left
 · intro w hS0; (try dsimp only at hS0); obtain ⟨kT, kQ, kR, kB⟩ := hS0; obtain ⟨c0, c1⟩ := kT.c2; have q0 := kQ.cell 0 rfl; obtain ⟨r1, r2, r3, r4⟩ := HV.out _ kB; have y1 := kT.lt; have y2 := kQ.lt; have y3 := World.block_lt_of_cell? _ _ r1; have y4 := World.block_lt_of_cell? _ _ r3;go_simp; (try with_reducible rfl)
 (try simp only [cq])
 refine tkY 6 (some 23) ?_ ?_ ?_
 rotate_left
 · intro w _; go_simp; (try with_reducible rfl)
 (try simp only [cq])
 refine tkY 7 (some 24) ?_ ?_ ?_
 rotate_left
 · intro w hS0; (try dsimp only at hS0); obtain ⟨kT, kQ, kR, kB⟩ := hS0; obtain ⟨c0, c1⟩ := kT.c2; have q0 := kQ.cell 0 rfl; obtain ⟨r1, r2, r3, r4⟩ := HV.out _ kB; have y1 := kT.lt; have y2 := kQ.lt; have y3 := World.block_lt_of_cell? _ _ r1; have y4 := World.block_lt_of_cell? _ _ r3;go_simp; (try with_reducible rfl)
 (try simp only [cq])
 refine tkY 8 (some 25) ?_ ?_ ?_
 rotate_left
 · intro w hS0; (try dsimp only at hS0); obtain ⟨kT, kQ, kR, kB⟩ := hS0; obtain ⟨c0, c1⟩ := kT.c2; have q0 := kQ.cell 0 rfl; obtain ⟨r1, r2, r3, r4⟩ := HV.out _ kB; have y1 := kT.lt; have y2 := kQ.lt; have y3 := World.block_lt_of_cell? _ _ r1; have y4 := World.block_lt_of_cell? _ _ r3;go_simp; (try with_reducible rfl)
 (try simp only [cq])
 refine tkY 9 (some 26) ?_ ?_ ?_
 rotate_left
 · intro w _; go_simp; (try with_reducible rfl)
 (try simp only [cq])
 refine tkY 10 (some 27) ?_ ?_ ?_
 rotate_left
 · intro w hS0; (try dsimp only at hS0); obtain ⟨kT, kQ, kR, kB⟩ := hS0; obtain ⟨c0, c1⟩ := kT.c2; have q0 := kQ.cell 0 rfl; obtain ⟨r1, r2, r3, r4⟩ := HV.out _ kB; have y1 := kT.lt; have y2 := kQ.lt; have y3 := World.block_lt_of_cell? _ _ r1; have y4 := World.block_lt_of_cell? _ _ r3;go_simp; (try with_reducible rfl)
 (try simp only [cq])
 refine tkY 11 (some 28) ?_ ?_ ?_
 rotate_left
 · intro w hS0; (try dsimp only at hS0); obtain ⟨kT, kQ, kR, kB⟩ := hS0; obtain ⟨c0, c1⟩ := kT.c2; have q0 := kQ.cell 0 rfl; obtain ⟨r1, r2, r3, r4⟩ := HV.out _ kB; have y1 := kT.lt; have y2 := kQ.lt; have y3 := World.block_lt_of_cell? _ _ r1; have y4 := World.block_lt_of_cell? _ _ r3;go_simp; (try with_reducible rfl)
 (try simp only [cq])
 refine tkY 12 (some 29) ?_ ?_ ?_
 rotate_left
 · intro w hS0; (try dsimp only at hS0); obtain ⟨kT, kQ, kR, kB⟩ := hS0; obtain ⟨c0, c1⟩ := kT.c2; have q0 := kQ.cell 0 rfl; obtain ⟨r1, r2, r3, r4⟩ := HV.out _ kB; have y1 := kT.lt; have y2 := kQ.lt; have y3 := World.block_lt_of_cell? _ _ r1; have y4 := World.block_lt_of_cell? _ _ r3;go_simp; (try with_reducible rfl)
 (try simp only [cq])
 refine tkY 13 (some 30) ?_ ?_ ?_
 rotate_left
 · intro w hS0; (try dsimp only at hS0); obtain ⟨kT, kQ, kR, kB⟩ := hS0; obtain ⟨c0, c1⟩ := kT.c2; have q0 := kQ.cell 0 rfl; obtain ⟨r1, r2, r3, r4⟩ := HV.out _ kB; have y1 := kT.lt; have y2 := kQ.lt; have y3 := World.block_lt_of_cell? _ _ r1; have y4 := World.block_lt_of_cell? _ _ r3;go_simp; (try with_reducible rfl)
 (try simp only [cq])
 refine tkY 14 (some 31) ?_ ?_ ?_
 rotate_left
 · intro w _; go_simp; (try with_reducible rfl)
 (try simp only [cq])
 refine tkY 15 (some 32) ?_ ?_ ?_
 rotate_left
 · intro w hS0; (try dsimp only at hS0); obtain ⟨kT, kQ, kR, kB⟩ := hS0; obtain ⟨c0, c1⟩ := kT.c2; have q0 := kQ.cell 0 rfl; obtain ⟨r1, r2, r3, r4⟩ := HV.out _ kB; have y1 := kT.lt; have y2 := kQ.lt; have y3 := World.block_lt_of_cell? _ _ r1; have y4 := World.block_lt_of_cell? _ _ r3;go_simp; (try with_reducible rfl)
 (try simp only [cq])
 refine tkY 16 (some 33) ?_ ?_ ?_
 rotate_left
 · intro w hS0; (try dsimp only at hS0); obtain ⟨kT, kQ, kR, kB⟩ := hS0; obtain ⟨c0, c1⟩ := kT.c2; have q0 := kQ.cell 0 rfl; obtain ⟨r1, r2, r3, r4⟩ := HV.out _ kB; have y1 := kT.lt; have y2 := kQ.lt; have y3 := World.block_lt_of_cell? _ _ r1; have y4 := World.block_lt_of_cell? _ _ r3;go_simp; (try with_reducible rfl)
 (try simp only [cq])
 refine tkY 17 (some 34) ?_ ?_ ?_
 rotate_left
 · intro w _; go_simp; (try with_reducible rfl)
 (try simp only [cq])
 refine tkY 18 (some 35) ?_ ?_ ?_
 rotate_left
 · intro w _; go_simp; (try with_reducible rfl)
 (try simp only [cq])
 refine tkY 19 (some 36) ?_ ?_ ?_
 rotate_left
 · intro w hS0; (try dsimp only at hS0); obtain ⟨kT, kQ, kR, kB⟩ := hS0; obtain ⟨c0, c1⟩ := kT.c2; have q0 := kQ.cell 0 rfl; obtain ⟨r1, r2, r3, r4⟩ := HV.out _ kB; have y1 := kT.lt; have y2 := kQ.lt; have y3 := World.block_lt_of_cell? _ _ r1; have y4 := World.block_lt_of_cell? _ _ r3;go_simp; (try with_reducible rfl)
 (try simp only [cq])
 refine tkY 20 (some 37) ?_ ?_ ?_
 rotate_left
 · intro w hS0; (try dsimp only at hS0); obtain ⟨kT, kQ, kR, kB⟩ := hS0; obtain ⟨c0, c1⟩ := kT.c2; have q0 := kQ.cell 0 rfl; obtain ⟨r1, r2, r3, r4⟩ := HV.out _ kB; have y1 := kT.lt; have y2 := kQ.lt; have y3 := World.block_lt_of_cell? _ _ r1; have y4 := World.block_lt_of_cell? _ _ r3;go_simp; (try with_reducible rfl)
 (try simp only [cq])
 refine tkY 21 (some 38) ?_ ?_ ?_
 rotate_left
 · intro w _; go_simp; (try with_reducible rfl)
 (try simp only [cq])
 refine tkY 22 (some 39) ?_ ?_ ?_
 rotate_left
 · intro w hS0; (try dsimp only at hS0); obtain ⟨kT, kQ, kR, kB⟩ := hS0; obtain ⟨c0, c1⟩ := kT.c2; have q0 := kQ.cell 0 rfl; obtain ⟨r1, r2, r3, r4⟩ := HV.out _ kB; have y1 := kT.lt; have y2 := kQ.lt; have y3 := World.block_lt_of_cell? _ _ r1; have y4 := World.block_lt_of_cell? _ _ r3;go_simp; (try with_reducible rfl)
 (try simp only [cq])
 refine tkY 23 (some 40) ?_ ?_ ?_
 rotate_left
 · intro w hS0; (try dsimp only at hS0); obtain ⟨kT, kQ, kR, kB⟩ := hS0; obtain ⟨c0, c1⟩ := kT.c2; have q0 := kQ.cell 0 rfl; obtain ⟨r1, r2, r3, r4⟩ := HV.out _ kB; have y1 := kT.lt; have y2 := kQ.lt; have y3 := World.block_lt_of_cell? _ _ r1; have y4 := World.block_lt_of_cell? _ _ r3;go_simp; (try with_reducible rfl)
 (try simp only [cq])
 refine tkY 24 (some 41) ?_ ?_ ?_
 rotate_left
 · intro w hS0; (try dsimp only at hS0); obtain ⟨kT, kQ, kR, kB⟩ := hS0; obtain ⟨c0, c1⟩ := kT.c2; have q0 := kQ.cell 0 rfl; obtain ⟨r1, r2, r3, r4⟩ := HV.out _ kB; have y1 := kT.lt; have y2 := kQ.lt; have y3 := World.block_lt_of_cell? _ _ r1; have y4 := World.block_lt_of_cell? _ _ r3;go_simp; (try with_reducible rfl)
 (try simp only [cq])
 refine tkY 25 (some 42) ?_ ?_ ?_
 rotate_left
 · intro w hS0; (try dsimp only at hS0); obtain ⟨kT, kQ, kR, kB⟩ := hS0; obtain ⟨c0, c1⟩ := kT.c2; have q0 := kQ.cell 0 rfl; obtain ⟨r1, r2, r3, r4⟩ := HV.out _ kB; have y1 := kT.lt; have y2 := kQ.lt; have y3 := World.block_lt_of_cell? _ _ r1; have y4 := World.block_lt_of_cell? _ _ r3;go_simp; (try with_reducible rfl)
 (try simp only [cq])
 refine tkY 26 (some 43) ?_ ?_ ?_
 rotate_left
 · intro w _; go_simp; (try with_reducible rfl)
 (try simp only [cq])
 refine tkY 27 (some 44) ?_ ?_ ?_
 rotate_left
 · intro w hS0; (try dsimp only at hS0); obtain ⟨kT, kQ, kR, kB⟩ := hS0; obtain ⟨c0, c1⟩ := kT.c2; have q0 := kQ.cell 0 rfl; obtain ⟨r1, r2, r3, r4⟩ := HV.out _ kB; have y1 := kT.lt; have y2 := kQ.lt; have y3 := World.block_lt_of_cell? _ _ r1; have y4 := World.block_lt_of_cell? _ _ r3;go_simp; (try with_reducible rfl)
 (try simp only [cq])
 refine tkY 28 (some 45) ?_ ?_ ?_
 rotate_left
 · intro w hS0; (try dsimp only at hS0); obtain ⟨kT, kQ, kR, kB⟩ := hS0; obtain ⟨c0, c1⟩ := kT.c2; have q0 := kQ.cell 0 rfl; obtain ⟨r1, r2, r3, r4⟩ := HV.out _ kB; have y1 := kT.lt; have y2 := kQ.lt; have y3 := World.block_lt_of_cell? _ _ r1; have y4 := World.block_lt_of_cell? _ _ r3;go_simp; (try with_reducible rfl)
 (try simp only [cq])
 refine tkY 29 (some 46) ?_ ?_ ?_
 rotate_left
 · intro w _; go_simp; (try with_reducible rfl)
 (try simp only [cq])
 refine wpAnyH_ready (rs := [30, 31]) (by kernel_rfl) (by simp) ?_
 refine arc (some 47) (fun K hK => ?_) ?_
 {
 go_simp
 (refine (HF.out _).mono ?_; rintro e w' ⟨rfl, hbc⟩; (try replace hA := hA.call hbc))
 refine hK.out _ _ ?_ ?_
 · (exact ⟨hH.1.call hbc, hH.2.1.call hbc, hH.2.2.1.call hbc, bwS hH.2.2.2 (Nat.le_refl _) hbc⟩)
 (try clear hH); (try clear hbc)
 intro hH
 clear hK K
 (try simp only [cq])
 refine wpAnyH_ready (rs := [31]) (by kernel_rfl) (by simp) ?_
 refine arc1 (some 7) fun K hK => ?_
 (have hN1 := hH.2.2.1.lt; (try simp only [World.drew] at hN1))
 go_simp
 first | refine oA hK ?_ (fun hH hA => ?_) | refine oD hK ?_ (fun hH hA => ?_)
 · exact ⟨hH.1.alloc _, hH.2.1.alloc _, hH.2.2.1.alloc _, bwA hH.2.2.2 (Nat.le_refl _) _⟩
 clear hK K
 (try simp only [cq])
 obtain ⟨bA, hbA⟩ : ∃ b, Blk.num hA = b := ⟨_, rfl⟩
 obtain ⟨W, hW⟩ : ∃ V, Blk.wld hA = V := ⟨_, rfl⟩
 simp only [Blk.num] at hbA
 simp only [Blk.wld] at hW
 rw [hW] at hH hA ⊢
 rw [hbA] at hA ⊢
 replace hN1 : w.heap.size + 1 + 1 < bA := (by rw [← hbA]; exact hN1)
 clear hW hbA
 exact X1  bA W ⟨hH, hA, hN1⟩
 }
 refine arc (some 7) (fun K hK => ?_) ?_
 {
 (have hN1 := hH.2.2.1.lt; (try simp only [World.drew] at hN1))
 go_simp
 first | refine oA hK ?_ (fun hH hA => ?_) | refine oD hK ?_ (fun hH hA => ?_)
 · exact ⟨hH.1.alloc _, hH.2.1.alloc _, hH.2.2.1.alloc _, bwA hH.2.2.2 (Nat.le_refl _) _⟩
 clear hK K
 (try simp only [cq])
 obtain ⟨bA, hbA⟩ : ∃ b, Blk.num hA = b := ⟨_, rfl⟩
 obtain ⟨W, hW⟩ : ∃ V, Blk.wld hA = V := ⟨_, rfl⟩
 simp only [Blk.num] at hbA
 simp only [Blk.wld] at hW
 rw [hW] at hH hA ⊢
 rw [hbA] at hA ⊢
 replace hN1 : w.heap.size + 1 + 1 < bA := (by rw [← hbA]; exact hN1)
 clear hW hbA
 exact X0  bA W ⟨hH, hA, hN1⟩
 }
 exact AllReadyH.nil
 }
 {
 intro bA W hall
 obtain ⟨hH, hA, hN1⟩ := hall
 (try dsimp only at hH)
 refine wpAnyH_ready (rs := [30]) (by kernel_rfl) (by simp) ?_
 refine arc1 (some 47) fun K hK => ?_
 go_simp
 (refine (HF.out _).mono ?_; rintro e w' ⟨rfl, hbc⟩; (try replace hA := hA.call hbc))
 refine hK.out _ _ ?_ ?_
 · (exact ⟨hH.1.call hbc, hH.2.1.call hbc, hH.2.2.1.call hbc, bwS hH.2.2.2 (Nat.le_refl _) hbc⟩)
 (try clear hH); (try clear hbc)
 intro hH
 clear hK K
 (try simp only [cq])
 exact X1  bA w' ⟨hH, hA, hN1⟩
 }
 }
 {
 intro bA W hall
 obtain ⟨hH, hA, hN1⟩ := hall
 (try dsimp only at hH)
 refine wpAnyH_ready (rs := [32]) (by kernel_rfl) (by simp) ?_
 refine arc1 none fun K hK => ?_
 obtain ⟨r0, r1⟩ := hA.c2
 have fr0 := hA.free 0
 have fr1 := hA.free 1
 have zR := hA.lt
 have HS := Lib.hid (show Blk _ bA #[.int .i64 q, .int .i64 q2] _ from (hA.set 0 (.int .i64 q)).set 1 (.int .i64 q2))
 go_simp
 refine hK.out _ _ ?_ ?_
 · exact ⟨(hH.1.other _ _ (by show _ ≠ bA; omega)).other _ _ (by show _ ≠ bA; omega), (hH.2.1.other _ _ (by show _ ≠ bA; omega)).other _ _ (by show _ ≠ bA; omega), (hH.2.2.1.other _ _ (by show _ ≠ bA; omega)).other _ _ (by show _ ≠ bA; omega), below_set2 hH.2.2.2 (by omega) _ _⟩
 (try clear hH); (try clear hbc)
 intro hH
 clear hK K
 (try simp only [cq])
 refine wpAnyH_done (by kernel_rfl) ?_ _
 (try dsimp only [Act.put])
 (try simp only [cq])
 clear hA r0 r1 fr0 fr1 zR
 go_wp2_with fail
 go_meet
 exact ⟨_, rfl, hN1, HS.out, hH⟩
 } )
  case rest =>
    clear jT jQ jR jB HF
    obtain ⟨bA, rfl, zA, kA, jS⟩ := hcut
    have nA1 : ¬ bA = w.heap.size + 1 + 1 := by omega
    have nA2 : ¬ w.heap.size + 1 + 1 = bA := by omega
    go_upto_region 4 with fail
    (
 refine wp_region_held_drew (S := (fun wx => (Blk wx w.heap.size #[.slice (some ⟨b, o, none⟩) n cH, .slice (some ⟨b2, o2, none⟩) n cL] 24 ∧ Blk wx (w.heap.size + 1) #[.int .i64 h] 3 ∧ Two wx (w.heap.size + 1 + 1) 26 ∧ Below w.heap.size w wx) ∧ Blk wx bA #[.int .i64 q, .int .i64 q2] 26)) (by kernel_rfl) ?_ (fun hH => ?_)
 · (try dsimp only); (exact ⟨⟨jS.1.drew, jS.2.1.drew, ⟨_, _, jS.2.2.1.drew⟩, jS.2.2.2.drew⟩, kA.drew⟩)
 refine tkY 0 (some 48) ?_ ?_ ?_
 rotate_left
 · intro w hS0; (try dsimp only at hS0); obtain ⟨⟨kT, kQ, kR, kB⟩, kA⟩ := hS0; obtain ⟨c0, c1⟩ := kT.c2; have q0 := kQ.cell 0 rfl; obtain ⟨r1, r2, r3, r4⟩ := HV.out _ kB; obtain ⟨t0, t1⟩ := kA.c2; have y1 := kT.lt; have y2 := kA.lt; have y4 := World.block_lt_of_cell? _ _ r3;go_simp; (try with_reducible rfl)
 (try simp only [cq])
 refine tkY 1 (some 49) ?_ ?_ ?_
 rotate_left
 · intro w hS0; (try dsimp only at hS0); obtain ⟨⟨kT, kQ, kR, kB⟩, kA⟩ := hS0; obtain ⟨c0, c1⟩ := kT.c2; have q0 := kQ.cell 0 rfl; obtain ⟨r1, r2, r3, r4⟩ := HV.out _ kB; obtain ⟨t0, t1⟩ := kA.c2; have y1 := kT.lt; have y2 := kA.lt; have y4 := World.block_lt_of_cell? _ _ r3;go_simp; (try with_reducible rfl)
 (try simp only [cq])
 refine tkY 2 (some 50) ?_ ?_ ?_
 rotate_left
 · intro w _; go_simp; (try with_reducible rfl)
 (try simp only [cq])
 refine tkY 3 (some 51) ?_ ?_ ?_
 rotate_left
 · intro w hS0; (try dsimp only at hS0); obtain ⟨⟨kT, kQ, kR, kB⟩, kA⟩ := hS0; obtain ⟨c0, c1⟩ := kT.c2; have q0 := kQ.cell 0 rfl; obtain ⟨r1, r2, r3, r4⟩ := HV.out _ kB; obtain ⟨t0, t1⟩ := kA.c2; have y1 := kT.lt; have y2 := kA.lt; have y4 := World.block_lt_of_cell? _ _ r3;go_simp; (try with_reducible rfl)
 (try simp only [cq])
 refine tkY 4 (some 52) ?_ ?_ ?_
 rotate_left
 · intro w hS0; (try dsimp only at hS0); obtain ⟨⟨kT, kQ, kR, kB⟩, kA⟩ := hS0; obtain ⟨c0, c1⟩ := kT.c2; have q0 := kQ.cell 0 rfl; obtain ⟨r1, r2, r3, r4⟩ := HV.out _ kB; obtain ⟨t0, t1⟩ := kA.c2; have y1 := kT.lt; have y2 := kA.lt; have y4 := World.block_lt_of_cell? _ _ r3;go_simp; (try with_reducible rfl)
 (try simp only [cq])
 refine tkY 5 (some 53) ?_ ?_ ?_
 rotate_left
 · intro w hS0; (try dsimp only at hS0); obtain ⟨⟨kT, kQ, kR, kB⟩, kA⟩ := hS0; obtain ⟨c0, c1⟩ := kT.c2; have q0 := kQ.cell 0 rfl; obtain ⟨r1, r2, r3, r4⟩ := HV.out _ kB; obtain ⟨t0, t1⟩ := kA.c2; have y1 := kT.lt; have y2 := kA.lt; have y4 := World.block_lt_of_cell? _ _ r3;go_simp; (try with_reducible rfl)
 (try simp only [cq])
 refine tkY 6 (some 54) ?_ ?_ ?_
 rotate_left
 · intro w hS0; (try dsimp only at hS0); obtain ⟨⟨kT, kQ, kR, kB⟩, kA⟩ := hS0; obtain ⟨c0, c1⟩ := kT.c2; have q0 := kQ.cell 0 rfl; obtain ⟨r1, r2, r3, r4⟩ := HV.out _ kB; obtain ⟨t0, t1⟩ := kA.c2; have y1 := kT.lt; have y2 := kA.lt; have y4 := World.block_lt_of_cell? _ _ r3;go_simp; (try with_reducible rfl)
 (try simp only [cq])
 refine tkY 7 (some 55) ?_ ?_ ?_
 rotate_left
 · intro w _; go_simp; (try with_reducible rfl)
 (try simp only [cq])
 refine tkY 8 (some 56) ?_ ?_ ?_
 rotate_left
 · intro w hS0; (try dsimp only at hS0); obtain ⟨⟨kT, kQ, kR, kB⟩, kA⟩ := hS0; obtain ⟨c0, c1⟩ := kT.c2; have q0 := kQ.cell 0 rfl; obtain ⟨r1, r2, r3, r4⟩ := HV.out _ kB; obtain ⟨t0, t1⟩ := kA.c2; have y1 := kT.lt; have y2 := kA.lt; have y4 := World.block_lt_of_cell? _ _ r3;go_simp; (try with_reducible rfl)
 (try simp only [cq])
 refine tkY 9 (some 57) ?_ ?_ ?_
 rotate_left
 · intro w hS0; (try dsimp only at hS0); obtain ⟨⟨kT, kQ, kR, kB⟩, kA⟩ := hS0; obtain ⟨c0, c1⟩ := kT.c2; have q0 := kQ.cell 0 rfl; obtain ⟨r1, r2, r3, r4⟩ := HV.out _ kB; obtain ⟨t0, t1⟩ := kA.c2; have y1 := kT.lt; have y2 := kA.lt; have y4 := World.block_lt_of_cell? _ _ r3;go_simp; (try with_reducible rfl)
 (try simp only [cq])
 refine tkY 10 (some 58) ?_ ?_ ?_
 rotate_left
 · intro w _; go_simp; (try with_reducible rfl)
 (try simp only [cq])
 refine tkY 11 (some 59) ?_ ?_ ?_
 rotate_left
 · intro w hS0; (try dsimp only at hS0); obtain ⟨⟨kT, kQ, kR, kB⟩, kA⟩ := hS0; obtain ⟨c0, c1⟩ := kT.c2; have q0 := kQ.cell 0 rfl; obtain ⟨r1, r2, r3, r4⟩ := HV.out _ kB; obtain ⟨t0, t1⟩ := kA.c2; have y1 := kT.lt; have y2 := kA.lt; have y4 := World.block_lt_of_cell? _ _ r3;go_simp; (try with_reducible rfl)
 (try simp only [cq])
 refine tkY 12 (some 60) ?_ ?_ ?_
 rotate_left
 · intro w hS0; (try dsimp only at hS0); obtain ⟨⟨kT, kQ, kR, kB⟩, kA⟩ := hS0; obtain ⟨c0, c1⟩ := kT.c2; have q0 := kQ.cell 0 rfl; obtain ⟨r1, r2, r3, r4⟩ := HV.out _ kB; obtain ⟨t0, t1⟩ := kA.c2; have y1 := kT.lt; have y2 := kA.lt; have y4 := World.block_lt_of_cell? _ _ r3;go_simp; (try with_reducible rfl)
 (try simp only [cq])
 refine tkY 13 (some 61) ?_ ?_ ?_
 rotate_left
 · intro w hS0; (try dsimp only at hS0); obtain ⟨⟨kT, kQ, kR, kB⟩, kA⟩ := hS0; obtain ⟨c0, c1⟩ := kT.c2; have q0 := kQ.cell 0 rfl; obtain ⟨r1, r2, r3, r4⟩ := HV.out _ kB; obtain ⟨t0, t1⟩ := kA.c2; have y1 := kT.lt; have y2 := kA.lt; have y4 := World.block_lt_of_cell? _ _ r3;go_simp; (try with_reducible rfl)
 (try simp only [cq])
 refine tkY 14 (some 62) ?_ ?_ ?_
 rotate_left
 · intro w hS0; (try dsimp only at hS0); obtain ⟨⟨kT, kQ, kR, kB⟩, kA⟩ := hS0; obtain ⟨c0, c1⟩ := kT.c2; have q0 := kQ.cell 0 rfl; obtain ⟨r1, r2, r3, r4⟩ := HV.out _ kB; obtain ⟨t0, t1⟩ := kA.c2; have y1 := kT.lt; have y2 := kA.lt; have y4 := World.block_lt_of_cell? _ _ r3;go_simp; (try with_reducible rfl)
 (try simp only [cq])
 refine tkY 15 (some 63) ?_ ?_ ?_
 rotate_left
 · intro w _; go_simp; (try with_reducible rfl)
 (try simp only [cq])
 refine tkY 16 (some 64) ?_ ?_ ?_
 rotate_left
 · intro w _; go_simp; (try with_reducible rfl)
 (try simp only [cq])
 refine wpAnyH_ready (rs := [17]) (by kernel_rfl) (by simp) ?_
 refine arc1 none fun K hK => ?_
 obtain ⟨⟨kT, kQ, ⟨x0, x1, kR⟩, kB⟩, kA⟩ := hH
 replace kT := kT.undrew
 replace kQ := kQ.undrew
 replace kR := kR.undrew
 replace kA := kA.undrew
 replace kB := below_undrew kB
 obtain ⟨r0, r1⟩ := kR.c2
 have f0 := kR.free 0
 have f1 := kR.free 1
 have zR := kR.lt
 have KT := Lib.hid ((kT.other ⟨w.heap.size + 1 + 1, 0, none⟩ (.int .i64 (u + q)) (by show _ ≠ w.heap.size + 1 + 1; omega)).other ⟨w.heap.size + 1 + 1, 1, none⟩ (.int .i64 (u + q2)) (by show _ ≠ w.heap.size + 1 + 1; omega))
 have KQ := Lib.hid ((kQ.other ⟨w.heap.size + 1 + 1, 0, none⟩ (.int .i64 (u + q)) (by show _ ≠ w.heap.size + 1 + 1; omega)).other ⟨w.heap.size + 1 + 1, 1, none⟩ (.int .i64 (u + q2)) (by show _ ≠ w.heap.size + 1 + 1; omega))
 have KA := Lib.hid ((kA.other ⟨w.heap.size + 1 + 1, 0, none⟩ (.int .i64 (u + q)) (by show _ ≠ w.heap.size + 1 + 1; omega)).other ⟨w.heap.size + 1 + 1, 1, none⟩ (.int .i64 (u + q2)) (by show _ ≠ w.heap.size + 1 + 1; omega))
 have KR := Lib.hid ((kR.set 0 (.int .i64 (u + q))).set 1 (.int .i64 (u + q2)))
 have KB := Lib.hid (((kB.setCell (p := ⟨w.heap.size + 1 + 1, 0, none⟩) (by show _ ≤ w.heap.size + 1 + 1; omega) (.int .i64 (u + q))).setCell (p := ⟨w.heap.size + 1 + 1, 1, none⟩) (by show _ ≤ w.heap.size + 1 + 1; omega) (.int .i64 (u + q2))).drew)
 go_simp
 refine hK.out _ _ ?_ (fun hH => ?_)
 · exact ⟨⟨KT.out, KQ.out, ⟨_, _, KR.out⟩, KB.out⟩, KA.out⟩
 clear hK K
 (try simp only [cq])
 refine wpAnyH_done (by kernel_rfl) ?_ _
 (try dsimp only [Act.put])
 (try simp only [cq])
 obtain ⟨z0, z1⟩ := KR.out.c2
 go_wp2
 exact bodyPost_ret (v := .agg #[.int .i64 (u + q), .int .i64 (u + q2)]) (by simp [results, Try.results71, go_sem, z0, z1]) rfl ⟨k, HPt.out, by rw [HR.out.1, HR.out.2], KB.out⟩ )
end Go.Proofs.Ytpeogfcfiabcfaa
