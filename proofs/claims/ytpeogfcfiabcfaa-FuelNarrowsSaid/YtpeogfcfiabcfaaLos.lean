/-
  Losses (package fuel) at a book that has a truth.
-/
import Derived.Test.YtpeogfcfiabcfaaTail
import Derived.Test.YtpeogfcfiabcfaaKno
import Derived.Test.YtpeogfcfiabcfaaClo
set_option linter.unusedVariables false
set_option linter.unusedSimpArgs false
namespace Go.Proofs.Ytpeogfcfiabcfaa
open Go.RowKit

theorem slice_sp (b N cap lo hi : Nat) (h1 : lo ≤ hi) (h2 : hi ≤ cap) (h3 : lo < cap) (w : World) :
    (Instr.slice 33 (.slice (some ⟨b, 0, none⟩) N cap) (some (.int .i64 (lo : Int))) (some (.int .i64 (hi : Int))) none).run Try.prog w = .ok (.slice (some ⟨b, lo * 2, none⟩) (hi - lo) (cap - lo)) w := by
  have e : (sizeOf (Try.prog.elem 33)).run Try.prog w = .ok 2 w := by kernel_rfl
  rw [run_slice_lh w 33 (some ⟨b, 0, none⟩) N cap (by kernel_rfl) .i64 .i64 (lo : Int) (hi : Int) (by omega) (by omega) (by omega), e]
  simp only [sliced, Result.andThen, Int.toNat_natCast]
  rw [if_neg (by omega)]
  simp only [Option.map, Addr.add, Nat.zero_add]
  by_cases h0 : lo * 2 = 0
  · rw [if_pos h0, h0]
  · rw [if_neg h0]
theorem KnAt.part {w : World} {b N : Nat} {A B : Nat → Int} (h : KnAt w b N A B) (lo n cap : Nat) (h1 : lo + n ≤ N) (h2 : n ≤ cap) (h3 : cap ≤ 9223372036854775807) : SpansAt w (.slice (some ⟨b, lo * 2, none⟩) n cap) n (fun i => A (lo + i)) (fun i => B (lo + i)) := by
  refine ⟨_, _, rfl, h2, h3, fun _ => ⟨b, lo * 2, rfl, fun i j u hi hu => ?_⟩⟩
  obtain ⟨c0, c1⟩ := h.cell (i := lo + i) (by omega)
  match j with
  | 0 =>
    simp only [spC, List.getElem?_cons_zero, Option.some.injEq] at hu
    rw [show lo * 2 + i * 2 + 0 = (lo + i) * 2 by omega, c0, hu]
  | 1 =>
    simp only [spC, List.getElem?_cons_succ, List.getElem?_cons_zero, Option.some.injEq] at hu
    rw [show lo * 2 + i * 2 + 1 = (lo + i) * 2 + 1 by omega, c1, hu]
  | j + 2 => simp [spC] at hu

theorem two_lt {w : World} {b : Nat} {t : TypeId} (h : Two w b t) : b + 1 ≤ w.heap.size := by
  obtain ⟨x, y, h⟩ := h
  exact h.lt
theorem row_set2 {w : World} {base s n b : Nat} {e : TypeId} {v : Value} {xs : List Value} (h : w.ownsRow base e s v n xs) (hb : ∀ q, v.ownBlock = some q → q ≠ b) (u1 u2 : Value) : ((w.setCell ⟨b, 0, none⟩ u1).setCell ⟨b, 1, none⟩ u2).ownsRow base e s v n xs := by
  refine h.kept (row := some b) ⟨rfl, rfl, rfl, by simp, fun k hk hne => (Below.heap_setCell _ _ _ k (by simp; intro q; exact hne (by rw [q]))).trans (Below.heap_setCell _ _ _ k (by simp; intro q; exact hne (by rw [q])))⟩ ?_
  cases hv : v.ownBlock with
  | none => exact .inl rfl
  | some q => exact .inr (by simpa using hb q hv)
set_option maxRecDepth 100000 in
set_option maxHeartbeats 2000000 in
theorem losses_ok (n : Nat) (A : Nat → Ac) (m : Nat) (M : Nat → Mv) (vA vM : Value) (w : World) (hn : n ≤ 8) (hm : m ≤ 30) (hM0 : ∀ i, i < m → 0 ≤ (M i).fr ∧ 0 ≤ (M i).tt) (hA : AcsAt w vA n A) (hM : MvsAt w vM m M) (hs : NmOk n A) (hR : eRows n A m M = 0)
    (hE : FlOk (flE n A m M) (flN n m)) (hC : CutS (flE n A m M) (flN n m) (2 ^ (n + 1))) (KA KB : Nat → Int) (hKA : (knA (flE n A m M) (flN n m) (2 ^ (n + 1))).1 = KA) (hKB : (knA (flE n A m M) (flN n m) (2 ^ (n + 1))).2 = KB) :
    Calls Try.prog 36 #[.agg #[vA, vM]] w fun e w' => ∃ v, e = .returned (.tuple #[v, .agg #[.int .i64 (KA (2 * n + m + n)), .int .i64 (KB (2 * n + m + n))], .int .i64 0]) ∧
      w'.ownsRow w.heap.size 26 2 v n (catC (spC (fun i => KA (2 * n + m + i)) (fun i => KB (2 * n + m + i))) n) ∧ Below w.heap.size w w' := by
  have HK := Lib.hid (fun (W : World) (h : Below w.heap.size w W) => known_ok n A m M vA vM W hn hm hM0 (hA.later h) (hM.later h) hs hR hE hC)
  rw [hKA, hKB] at HK
  obtain ⟨aA, cA, rfl, h1, h2, h3⟩ := hA
  obtain ⟨aM, cM, rfl, g1, g2, g3⟩ := hM
  clear h3 g3 hR hs hM0 hE hC hKA hKB
  have hN : flN n m = 2 * n + m + n + 1 := rfl
  rw [hN] at HK
  obtain ⟨L, hL⟩ : ∃ L, 2 * n + m + n = L := ⟨_, rfl⟩
  obtain ⟨P, hP⟩ : ∃ P, 2 * n + m = P := ⟨_, rfl⟩
  rw [hL] at HK ⊢
  rw [hP]
  have HLP := Lib.hid (And.intro hL hP)
  clear hL hP hN
  have jX := (Blk.new w #[.slice aA n cA, .slice aM m cM] 44).alloc (.cells #[.int .i64 0, .int .i64 0] 26)
  have jT := Blk.new1 w (.cells #[.slice aA n cA, .slice aM m cM] 44) #[.int .i64 0, .int .i64 0] 26
  have jB : Below w.heap.size w ((w.alloc (.cells #[.slice aA n cA, .slice aM m cM] 44)).alloc (.cells #[.int .i64 0, .int .i64 0] 26)) := by (repeat (first | exact Below.refl _ _ | assumption | refine Below.drew ?_ | refine Below.drewN ?_ _ | refine blT ?_ | refine blU ?_))
  go_enter Try.func36, Try.ntmps36
  go_wp2_with fail
  refine (HK.out _ jB).mono ?_
  rintro e w1 ⟨bk, cap, rfl, q1, q2, q3, hK, hb⟩
  replace jX := jX.call hb
  replace jT := jT.call hb
  replace jB := bwS jB (Nat.le_refl _) hb
  clear hb HK
  simp only [World.size_alloc] at q3
  obtain ⟨hL, hP⟩ := HLP.out
  have hPL : P + n = L := by omega
  have zL : L ≤ 54 := by omega
  obtain ⟨cp, hcp⟩ : ∃ c, cap - P = c := ⟨_, rfl⟩
  have hsl : ∀ W, (Instr.slice 33 (.slice (some ⟨bk, 0, none⟩) (L + 1) cap) (some (.int .i64 (P : Int))) (some (.int .i64 (L : Int))) none).run Try.prog W = .ok (.slice (some ⟨bk, P * 2, none⟩) n cp) W := fun W => by
    have := slice_sp bk (L + 1) cap P L (by omega) (by omega) (by omega) W
    rwa [show L - P = n by omega, hcp] at this
  have HCl := Lib.hid (fun (W : World) (h : KnAt W bk (L + 1) KA KB) => clone_spans bk (P * 2) n cp _ _ W (by omega) (h.part P n cp (by omega) (by omega) (by omega)))
  have hLt : (L : Int) < L + 1 := by omega
  have hv : IntKind.i64.wrap ((L : Int) - n) = P := by rw [show (L : Int) - n = P by omega]; exact IntWalk.i64_in _ (by omega)
  have zbk : w.heap.size + 1 < bk := by omega
  clear hcp hL hP HLP
  have kT : Two w1 (w.heap.size + 1) 26 := ⟨_, _, jT⟩
  clear jT
  go_upto_region 5 with fail
  (
 refine wp_region_held_drew (S := (fun w' => Blk w' w.heap.size #[.slice aA n cA, .slice aM m cM] 44 ∧ KnAt w' bk (L + 1) KA KB ∧ Two w' (w.heap.size + 1) 26 ∧ Below w.heap.size w w')) (by kernel_rfl) ?_ (fun hH => ?_)
 · (try dsimp only); (exact ⟨jX.drew, hK.drew, kT, jB.drew⟩)
 refine tkY 0 (some 19) ?_ ?_ ?_
 rotate_left
 · intro w _; go_simp; (try with_reducible rfl)
 (try simp only [cq])
 refine tkY 1 (some 20) ?_ ?_ ?_
 rotate_left
 · intro w _; go_simp; (try with_reducible rfl)
 (try simp only [cq])
 refine tkY 2 (some 21) ?_ ?_ ?_
 rotate_left
 · intro w hS0; (try dsimp only at hS0); obtain ⟨k1, k2, _, _⟩ := hS0; obtain ⟨c0, c1⟩ := k1.c2; obtain ⟨d0, d1⟩ := k2.cell (i := L) (by omega); have y1 := k1.lt; have y2 := k2.lt;go_simp; (try with_reducible rfl)
 (try simp only [cq])
 refine tkY 3 (some 22) ?_ ?_ ?_
 rotate_left
 · intro w hS0; (try dsimp only at hS0); obtain ⟨k1, k2, _, _⟩ := hS0; obtain ⟨c0, c1⟩ := k1.c2; obtain ⟨d0, d1⟩ := k2.cell (i := L) (by omega); have y1 := k1.lt; have y2 := k2.lt;go_simp; (try with_reducible rfl)
 (try simp only [cq])
 refine tkY 4 (some 23) ?_ ?_ ?_
 rotate_left
 · intro w hS0; (try dsimp only at hS0); obtain ⟨k1, k2, _, _⟩ := hS0; obtain ⟨c0, c1⟩ := k1.c2; obtain ⟨d0, d1⟩ := k2.cell (i := L) (by omega); have y1 := k1.lt; have y2 := k2.lt;go_simp; (try with_reducible rfl)
 (try simp only [cq])
 refine tkY 5 (some 24) ?_ ?_ ?_
 rotate_left
 · intro w _; go_simp; (try with_reducible rfl)
 (try simp only [cq])
 refine tkY 6 (some 25) ?_ ?_ ?_
 rotate_left
 · intro w _; go_simp; (try with_reducible rfl)
 (try simp only [cq])
 refine tkY 7 (some 26) ?_ ?_ ?_
 rotate_left
 · intro w hS0; (try dsimp only at hS0); obtain ⟨k1, k2, _, _⟩ := hS0; obtain ⟨c0, c1⟩ := k1.c2; obtain ⟨d0, d1⟩ := k2.cell (i := L) (by omega); have y1 := k1.lt; have y2 := k2.lt;go_simp; (try with_reducible rfl)
 (try simp only [cq])
 refine tkY 9 (some 28) ?_ ?_ ?_
 rotate_left
 · intro w _; go_simp; (try with_reducible rfl)
 (try simp only [cq])
 refine tkY 10 (some 29) ?_ ?_ ?_
 rotate_left
 · intro w _; go_simp; (try with_reducible rfl)
 (try simp only [cq])
 refine tkY 11 (some 30) ?_ ?_ ?_
 rotate_left
 · intro w hS0; (try dsimp only at hS0); obtain ⟨k1, k2, _, _⟩ := hS0; obtain ⟨c0, c1⟩ := k1.c2; obtain ⟨d0, d1⟩ := k2.cell (i := L) (by omega); have y1 := k1.lt; have y2 := k2.lt;go_simp; (try with_reducible rfl)
 (try simp only [cq])
 refine tkY 12 (some 31) ?_ ?_ ?_
 rotate_left
 · intro w hS0; (try dsimp only at hS0); obtain ⟨k1, k2, _, _⟩ := hS0; obtain ⟨c0, c1⟩ := k1.c2; obtain ⟨d0, d1⟩ := k2.cell (i := L) (by omega); have y1 := k1.lt; have y2 := k2.lt;go_simp; (try with_reducible rfl)
 (try simp only [cq])
 refine wpAnyH_ready (rs := [8]) (by kernel_rfl) (by simp) ?_
 refine arc1 (some 27) fun K hK => ?_
 go_simp
 (have hsz := two_lt hH.2.2.1; refine (HCl.out _ hH.2.1).mono ?_; rintro e w' ⟨v, rfl, hr, hb⟩; replace hr := ownsRow_base hr hsz; clear hsz)
 refine hK.out _ _ ?_ ?_
 · (exact ⟨hH.1.call hb, hH.2.1.later hb, hH.2.2.1.call hb, bwS hH.2.2.2 (Nat.le_refl _) hb⟩)
 (try clear hH); (try clear hb)
 intro hH
 clear hK K
 (try simp only [cq])
 refine tkY 13 (some 2) ?_ ?_ ?_
 rotate_left
 · intro w _; go_simp; (try with_reducible rfl)
 (try simp only [cq])
 refine wpAnyH_ready (rs := [14]) (by kernel_rfl) (by simp) ?_
 refine arc1 none fun K hK => ?_
 obtain ⟨kX, kK, ⟨t0, t1, kT⟩, kB⟩ := hH
 obtain ⟨r0, r1⟩ := kT.c2
 have f0 := kT.free 0
 have f1 := kT.free 1
 have zT := kT.lt
 have KT := Lib.hid ((kT.set 0 (.int .i64 (KA L))).set 1 (.int .i64 (KB L)))
 have KX := Lib.hid ((kX.setOther (c := w.heap.size + 1) (by omega) 0 (.int .i64 (KA L))).setOther (c := w.heap.size + 1) (by omega) 1 (.int .i64 (KB L)))
 have KK : Hid (KnAt _ bk (L + 1) KA KB) := (by
   obtain ⟨C, p1, p2⟩ := kK
   exact ⟨C, (p1.setOther (c := w.heap.size + 1) (by omega) 0 (.int .i64 (KA L))).setOther (c := w.heap.size + 1) (by omega) 1 (.int .i64 (KB L)), p2⟩)
 have KB9 := Lib.hid ((kB.setCell (p := ⟨w.heap.size + 1, 0, none⟩) (by simp) (.int .i64 (KA L))).setCell (p := ⟨w.heap.size + 1, 1, none⟩) (by simp) (.int .i64 (KB L)))
 have HRW := Lib.hid (row_set2 (b := w.heap.size + 1) hr (fun q e => by have := (hr.lt q e).1; omega) (.int .i64 (KA L)) (.int .i64 (KB L)))
 go_simp
 refine hK.out _ _ ?_ ?_
 · exact ⟨KX.out, KK.out, ⟨_, _, KT.out⟩, KB9.out⟩
 (try clear hH); (try clear hb)
 intro hH
 clear hK K
 (try simp only [cq])
 refine tkY 15 (some 4) ?_ ?_ ?_
 rotate_left
 · intro w _; go_simp; (try with_reducible rfl)
 (try simp only [cq])
 refine wpAnyH_done (by kernel_rfl) ?_ _
 (try dsimp only [Act.put])
 (try simp only [cq])
 clear hH r0 r1 f0 f1 zT
 obtain ⟨z0, z1⟩ := KT.out.c2
 go_wp2
 exact bodyPost_ret (v := .tuple #[v, .agg #[.int .i64 (KA L), .int .i64 (KB L)], .int .i64 0]) (by simp [results, Try.results36, go_sem, z0, z1]) rfl ⟨v, rfl, ownsRow_base HRW.out (by omega), KB9.out⟩ )
end Go.Proofs.Ytpeogfcfiabcfaa
