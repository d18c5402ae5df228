/-
  The sum of cold: the program's Index and the reference's.
  Run of both sides at any input.
  Two lists of days with the same days are the same; a list of days appended to an owned one; big.
-/
import Derived.Test.YtdbiijldincoiaaGreatTail
import Derived.Test.YtdbiijldincoiaaGreatShare
import Derived.Test.YtdbiijldincoiaaGreatRef11
import Derived.Test.YtdbiijldincoiaaGreatBd
import Derived.Test.YtdbiijldincoiaaGreatBig
import Derived.Laws.AppendOwnNone
set_option linter.unusedVariables false
set_option linter.unusedSimpArgs false
namespace Go.Proofs.YtdbiijldincoiaaGreat
open Go.RowKit

theorem eDs_ok {n : Nat} {d : Nat → Dy} (h : eDs n d = 0) : n ≤ 400 ∧ ∀ i, i < n → (d i).Ok := by
  unfold eDs at h
  by_cases hn : 400 < n
  · rw [if_pos hn] at h
    exact absurd h (by decide)
  · rw [if_neg hn] at h
    exact ⟨by omega, fun i hi => day_ok_of (firstNZ_all _ n 0 h i (by omega) (by omega))⟩
end Go.Proofs.YtdbiijldincoiaaGreat

namespace Go.Proofs.YtdbiijldincoiaaGreat
open Go.RowKit

def eRun (l : Lw) (x : Ic) (n : Nat) (d : Nat → Dy) : Int := eAll l.gr l.la l.n l.D l.P0 l.P1 l.m0 l.m1 l.so l.h0 l.h1 x n d
theorem eRun_ok {l : Lw} {x : Ic} {n : Nat} {d : Nat → Dy} (h : eRun l x n d = 0) : l.Ok ∧ l.n ≤ 12 ∧ x.Val ∧ n ≤ 400 ∧ ∀ i, i < n → (d i).Ok := by
  unfold eRun eAll at h
  obtain ⟨a1, h⟩ := orE_zeros h
  obtain ⟨a2, a3⟩ := orE_zeros h
  have q := law_ok_of a1
  obtain ⟨p1, p2⟩ := eDs_ok a3
  exact ⟨q.1, q.2, Ic.val_of_e a2, p1, p2⟩
theorem iceAt_in {l : Lw} {x : Ic} {n : Nat} {d : Nat → Dy} (h : eRun l x n d = 0) : ∀ k, k ≤ n → (iceAt l d x k).In 400000000 := fun k hk => by
  obtain ⟨h1, _, h3, h4, h5⟩ := eRun_ok h
  have q := iceAt_bd (j := 0) h1 h3.bd n h5 k hk (by omega)
  exact q.in (by omega) (by omega)

theorem row_call {w w' : World} {base s n : Nat} {e : TypeId} {v : Value} {xs : List Value} (h : w.ownsRow base e s v n xs) (hb : Below w.heap.size w w') : w'.ownsRow base e s v n xs := by
  refine h.kept (grown_of_below hb) ?_
  rcases h.2 with ⟨rfl, _⟩ | ⟨g, cap, cur, rfl, _⟩
  · exact .inl rfl
  · exact .inr (by simp [Value.ownBlock])
theorem row_set8 {w : World} {base s n : Nat} {e : TypeId} {v : Value} {xs : List Value} (h : w.ownsRow base e s v n xs) {c : Nat} (hc : c < base) (y0 y1 y2 y3 y4 y5 y6 y7 : Value) :
    ((((((((w.setCell ⟨c, 0, none⟩ y0).setCell ⟨c, 1, none⟩ y1).setCell ⟨c, 2, none⟩ y2).setCell ⟨c, 3, none⟩ y3).setCell ⟨c, 4, none⟩ y4).setCell ⟨c, 5, none⟩ y5).setCell ⟨c, 6, none⟩ y6).setCell ⟨c, 7, none⟩ y7).ownsRow base e s v n xs :=
  ownsRow_setCell_below (ownsRow_setCell_below (ownsRow_setCell_below (ownsRow_setCell_below (ownsRow_setCell_below (ownsRow_setCell_below (ownsRow_setCell_below (ownsRow_setCell_below h (a := (⟨c, 0, none⟩ : Addr)) hc y0) (a := (⟨c, 1, none⟩ : Addr)) hc y1) (a := (⟨c, 2, none⟩ : Addr)) hc y2) (a := (⟨c, 3, none⟩ : Addr)) hc y3) (a := (⟨c, 4, none⟩ : Addr)) hc y4) (a := (⟨c, 5, none⟩ : Addr)) hc y5) (a := (⟨c, 6, none⟩ : Addr)) hc y6) (a := (⟨c, 7, none⟩ : Addr)) hc y7

set_option maxRecDepth 100000 in
set_option maxHeartbeats 4000000 in
theorem rrun_in (l : Lw) (va : Option Addr) (vcap : Nat) (x : Nat → Ic) (a : Option Addr) (dcap : Nat) (m : Nat) (d : Nat → Dy) (w : World) (hm : m ≤ 400) (hd : DaysAt w (.slice a m dcap) m d)
    (hS : ∀ k W, k < m → Below w.heap.size w W → Calls Tryz.prog 64 #[.agg #[.int .i64 l.gr, .int .i64 l.la, (.slice va l.n vcap), .int .i64 l.m0, .int .i64 l.m1, .int .i64 l.so, .int .i64 l.h0, .int .i64 l.h1], .agg #[.int .i64 (x k).b0, .int .i64 (x k).b1, .int .i64 (x k).w0, .int .i64 (x k).w1, .int .i64 (x k).q0, .int .i64 (x k).q1, .int .i64 (x k).s0, .int .i64 (x k).s1], .agg #[.int .i64 (d k).c0, .int .i64 (d k).c1, .int .i64 (d k).f0, .int .i64 (d k).f1, .int .i64 (d k).wa, .bool (d k).cl]] W fun e w' => e = .returned (.agg #[.int .i64 (x (k + 1)).b0, .int .i64 (x (k + 1)).b1, .int .i64 (x (k + 1)).w0, .int .i64 (x (k + 1)).w1, .int .i64 (x (k + 1)).q0, .int .i64 (x (k + 1)).q1, .int .i64 (x (k + 1)).s0, .int .i64 (x (k + 1)).s1]) ∧ Below W.heap.size W w') :
    Calls Tryz.prog 39 #[.agg #[.int .i64 l.gr, .int .i64 l.la, (.slice va l.n vcap), .int .i64 l.m0, .int .i64 l.m1, .int .i64 l.so, .int .i64 l.h0, .int .i64 l.h1], .agg #[.int .i64 (x 0).b0, .int .i64 (x 0).b1, .int .i64 (x 0).w0, .int .i64 (x 0).w1, .int .i64 (x 0).q0, .int .i64 (x 0).q1, .int .i64 (x 0).s0, .int .i64 (x 0).s1], .slice a m dcap] w
      fun e w' => ∃ r, e = .returned r ∧ w'.ownsRow w.heap.size 28 8 r m (rowsC x m) ∧ Below w.heap.size w w' := by
  have HD := Lib.hid hd
  have HS := Lib.hid hS
  clear hd hS
  have jL := (Blk.new w #[.int .i64 l.gr, .int .i64 l.la, (.slice va l.n vcap), .int .i64 l.m0, .int .i64 l.m1, .int .i64 l.so, .int .i64 l.h0, .int .i64 l.h1] 26).alloc (.cells #[.int .i64 (x 0).b0, .int .i64 (x 0).b1, .int .i64 (x 0).w0, .int .i64 (x 0).w1, .int .i64 (x 0).q0, .int .i64 (x 0).q1, .int .i64 (x 0).s0, .int .i64 (x 0).s1] 28)
  have jX := Blk.new1 w (.cells #[.int .i64 l.gr, .int .i64 l.la, (.slice va l.n vcap), .int .i64 l.m0, .int .i64 l.m1, .int .i64 l.so, .int .i64 l.h0, .int .i64 l.h1] 26) #[.int .i64 (x 0).b0, .int .i64 (x 0).b1, .int .i64 (x 0).w0, .int .i64 (x 0).w1, .int .i64 (x 0).q0, .int .i64 (x 0).q1, .int .i64 (x 0).s0, .int .i64 (x 0).s1] 28
  have jB : Below w.heap.size w ((w.alloc (.cells #[.int .i64 l.gr, .int .i64 l.la, (.slice va l.n vcap), .int .i64 l.m0, .int .i64 l.m1, .int .i64 l.so, .int .i64 l.h0, .int .i64 l.h1] 26)).alloc (.cells #[.int .i64 (x 0).b0, .int .i64 (x 0).b1, .int .i64 (x 0).w0, .int .i64 (x 0).w1, .int .i64 (x 0).q0, .int .i64 (x 0).q1, .int .i64 (x 0).s0, .int .i64 (x 0).s1] 28)) := by (repeat (first | exact Below.refl _ _ | assumption | refine Below.drew ?_ | refine Below.drewN ?_ _ | refine blT ?_ | refine blU ?_))
  go_enter Tryz.func39, Tryz.ntmps39
  go_wp2_with fail
  obtain ⟨bL, hbL⟩ : ∃ b, w.heap.size = b := ⟨_, rfl⟩
  have zwL : w.heap.size ≤ bL := by omega
  have zwL2 : bL ≤ w.heap.size := by omega
  have hz : ((w.alloc (.cells #[.int .i64 l.gr, .int .i64 l.la, (.slice va l.n vcap), .int .i64 l.m0, .int .i64 l.m1, .int .i64 l.so, .int .i64 l.h0, .int .i64 l.h1] 26)).alloc (.cells #[.int .i64 (x 0).b0, .int .i64 (x 0).b1, .int .i64 (x 0).w0, .int .i64 (x 0).w1, .int .i64 (x 0).q0, .int .i64 (x 0).q1, .int .i64 (x 0).s0, .int .i64 (x 0).s1] 28)).heap.size = w.heap.size + 1 + 1 := by simp
  have zB : bL + 1 + 1 ≤ ((w.alloc (.cells #[.int .i64 l.gr, .int .i64 l.la, (.slice va l.n vcap), .int .i64 l.m0, .int .i64 l.m1, .int .i64 l.so, .int .i64 l.h0, .int .i64 l.h1] 26)).alloc (.cells #[.int .i64 (x 0).b0, .int .i64 (x 0).b1, .int .i64 (x 0).w0, .int .i64 (x 0).w1, .int .i64 (x 0).q0, .int .i64 (x 0).q1, .int .i64 (x 0).s0, .int .i64 (x 0).s1] 28)).heap.size := by omega
  rw [hbL] at jL jX
  (try rw [hbL])
  clear hbL hz
  have jR := World.ownsRow_nil ((w.alloc (.cells #[.int .i64 l.gr, .int .i64 l.la, (.slice va l.n vcap), .int .i64 l.m0, .int .i64 l.m1, .int .i64 l.so, .int .i64 l.h0, .int .i64 l.h1] 26)).alloc (.cells #[.int .i64 (x 0).b0, .int .i64 (x 0).b1, .int .i64 (x 0).w0, .int .i64 (x 0).w1, .int .i64 (x 0).q0, .int .i64 (x 0).q1, .int .i64 (x 0).s0, .int .i64 (x 0).s1] 28)) (bL + 1 + 1) 28 8
  generalize (w.alloc (.cells #[.int .i64 l.gr, .int .i64 l.la, (.slice va l.n vcap), .int .i64 l.m0, .int .i64 l.m1, .int .i64 l.so, .int .i64 l.h0, .int .i64 l.h1] 26)).alloc (.cells #[.int .i64 (x 0).b0, .int .i64 (x 0).b1, .int .i64 (x 0).w0, .int .i64 (x 0).w1, .int .i64 (x 0).q0, .int .i64 (x 0).q1, .int .i64 (x 0).s0, .int .i64 (x 0).s1] 28) = V at jL jX jB zB jR ⊢
  obtain ⟨i0, hi0, hz0, hz1, hz2⟩ := info_parts Tryz.infoIce
  go_loopw [7, 8] (fun op ip wr => ∃ (k : Nat) (r : Value), ip = .int .i64 k ∧ r = op ∧ k ≤ m ∧ Blk wr bL #[.int .i64 l.gr, .int .i64 l.la, (.slice va l.n vcap), .int .i64 l.m0, .int .i64 l.m1, .int .i64 l.so, .int .i64 l.h0, .int .i64 l.h1] 26 ∧ Blk wr (bL + 1) #[.int .i64 (x k).b0, .int .i64 (x k).b1, .int .i64 (x k).w0, .int .i64 (x k).w1, .int .i64 (x k).q0, .int .i64 (x k).q1, .int .i64 (x k).s0, .int .i64 (x k).s1] 28 ∧ wr.ownsRow (bL + 1 + 1) 28 8 r k (rowsC x k) ∧ Below w.heap.size w wr ∧ bL + 1 + 1 ≤ wr.heap.size) (fun _ ip _ => m - (intOf ip).toNat)
  case atStart => exact ⟨0, _, rfl, rfl, Nat.zero_le _, jL, jX, jR, jB, zB⟩
  case round =>
    clear jL jX jR jB zB
    obtain ⟨k, r, rfl, rfl, hk, jL, jX, jR, jB, zB⟩ := hrel
    by_cases hlt : k < m
    · obtain ⟨aa, acap, hv, _, _, hz⟩ := HD.out
      simp only [Value.slice.injEq] at hv
      obtain ⟨rfl, _, rfl⟩ := hv
      obtain ⟨b, o, rfl, hc⟩ := hz (by omega)
      have HC := Lib.hid (hc k hlt)
      clear hc hz
      go_upto_region 5 with fail
      have kX := jX.drew
      (
 refine wp_region_held_drew (S := (fun w' => Blk w' bL #[.int .i64 l.gr, .int .i64 l.la, (.slice va l.n vcap), .int .i64 l.m0, .int .i64 l.m1, .int .i64 l.so, .int .i64 l.h0, .int .i64 l.h1] 26 ∧ Eight w' (bL + 1) 28 ∧ w'.ownsRow (bL + 1 + 1) 28 8 r k (rowsC x k) ∧ Below w.heap.size w w' ∧ bL + 1 + 1 ≤ w'.heap.size)) (by kernel_rfl) ?_ (fun hH => ?_)
 · (try dsimp only); (exact ⟨jL.drew, ⟨_, _, _, _, _, _, _, _, jX.drew⟩, jR, jB.drew, zB⟩)
 refine tkY 0 (some 15) ?_ ?_ ?_
 rotate_left
 · intro w hS0; (try dsimp only at hS0); obtain ⟨k1, _, _, kb, _⟩ := hS0; obtain ⟨l0, l1, l2, l3, l4, l5, l6, l7⟩ := k1.c8; have z1 := k1.lt; obtain ⟨a0, a1, a2, a3, a4, a5⟩ := HC.out; replace a0 := cell_later kb a0; replace a1 := cell_later kb a1; replace a2 := cell_later kb a2; replace a3 := cell_later kb a3; replace a4 := cell_later kb a4; replace a5 := cell_later kb a5; have z2 := World.block_lt_of_cell? _ _ a0;go_simp; (try with_reducible rfl)
 (try simp only [cq])
 refine tkY 2 (some 17) ?_ ?_ ?_
 rotate_left
 · intro w _; go_simp; (try with_reducible rfl)
 (try simp only [cq])
 refine tkY 3 (some 18) ?_ ?_ ?_
 rotate_left
 · intro w _; go_simp; (try with_reducible rfl)
 (try simp only [cq])
 refine tkY 4 (some 19) ?_ ?_ ?_
 rotate_left
 · intro w hS0; (try dsimp only at hS0); obtain ⟨k1, _, _, kb, _⟩ := hS0; obtain ⟨l0, l1, l2, l3, l4, l5, l6, l7⟩ := k1.c8; have z1 := k1.lt; obtain ⟨a0, a1, a2, a3, a4, a5⟩ := HC.out; replace a0 := cell_later kb a0; replace a1 := cell_later kb a1; replace a2 := cell_later kb a2; replace a3 := cell_later kb a3; replace a4 := cell_later kb a4; replace a5 := cell_later kb a5; have z2 := World.block_lt_of_cell? _ _ a0;go_simp; (try with_reducible rfl)
 (try simp only [cq])
 refine tkY 5 (some 20) ?_ ?_ ?_
 rotate_left
 · intro w hS0; (try dsimp only at hS0); obtain ⟨k1, _, _, kb, _⟩ := hS0; obtain ⟨l0, l1, l2, l3, l4, l5, l6, l7⟩ := k1.c8; have z1 := k1.lt; obtain ⟨a0, a1, a2, a3, a4, a5⟩ := HC.out; replace a0 := cell_later kb a0; replace a1 := cell_later kb a1; replace a2 := cell_later kb a2; replace a3 := cell_later kb a3; replace a4 := cell_later kb a4; replace a5 := cell_later kb a5; have z2 := World.block_lt_of_cell? _ _ a0;go_simp; (try with_reducible rfl)
 (try simp only [cq])
 refine wpAnyH_ready (rs := [1]) (by kernel_rfl) (by simp) ?_
 refine arc1 (some 16) fun K hK => ?_
 obtain ⟨p0, p1, p2, p3, p4, p5, p6, p7⟩ := kX.c8; have zX := kX.lt
 go_simp
 refine hK.out _ _ ?_ ?_
 · exact hH
 (try clear hH); (try clear hb)
 intro hH
 clear p0 p1 p2 p3 p4 p5 p6 p7 zX
 clear hK K
 (try simp only [cq])
 refine wpAnyH_ready (rs := [6]) (by kernel_rfl) (by simp) ?_
 refine arc1 (some 21) fun K hK => ?_
 go_simp
 (refine (HS.out k _ hlt hH.2.2.2.1).mono ?_; rintro e w' ⟨rfl, hb⟩; replace kX := kX.call hb)
 refine hK.out _ _ ?_ ?_
 · (exact ⟨hH.1.call hb, hH.2.1.call hb, row_call hH.2.2.1 hb, bwS hH.2.2.2.1 (Nat.le_refl _) hb, Nat.le_trans hH.2.2.2.2 hb.size⟩)
 (try clear hH); (try clear hb)
 intro hH
 clear hK K
 (try simp only [cq])
 refine wpAnyH_ready (rs := [7]) (by kernel_rfl) (by simp) ?_
 refine arc1 none fun K hK => ?_
 obtain ⟨h1, h2, h3, h4, h5⟩ := hH
 obtain ⟨y0, y1, y2, y3, y4, y5, y6, y7, h2⟩ := h2
 obtain ⟨r0, r1, r2, r3, r4, r5, r6, r7⟩ := h2.c8
 have fr0 := h2.free 0
 have fr1 := h2.free 1
 have fr2 := h2.free 2
 have fr3 := h2.free 3
 have fr4 := h2.free 4
 have fr5 := h2.free 5
 have fr6 := h2.free 6
 have fr7 := h2.free 7
 have zR := h2.lt
 have HK := Lib.hid (h2.set8 (.int .i64 (x (k + 1)).b0) (.int .i64 (x (k + 1)).b1) (.int .i64 (x (k + 1)).w0) (.int .i64 (x (k + 1)).w1) (.int .i64 (x (k + 1)).q0) (.int .i64 (x (k + 1)).q1) (.int .i64 (x (k + 1)).s0) (.int .i64 (x (k + 1)).s1))
 have HW := Lib.hid (below_set8 h4 (c := bL + 1) (by omega) (.int .i64 (x (k + 1)).b0) (.int .i64 (x (k + 1)).b1) (.int .i64 (x (k + 1)).w0) (.int .i64 (x (k + 1)).w1) (.int .i64 (x (k + 1)).q0) (.int .i64 (x (k + 1)).q1) (.int .i64 (x (k + 1)).s0) (.int .i64 (x (k + 1)).s1))
 have HR := Lib.hid (row_set8 h3 (c := bL + 1) (by omega) (.int .i64 (x (k + 1)).b0) (.int .i64 (x (k + 1)).b1) (.int .i64 (x (k + 1)).w0) (.int .i64 (x (k + 1)).w1) (.int .i64 (x (k + 1)).q0) (.int .i64 (x (k + 1)).q1) (.int .i64 (x (k + 1)).s0) (.int .i64 (x (k + 1)).s1))
 go_simp
 refine hK.out _ _ ?_ ?_
 · exact ⟨h1.other8 (by omega) _ _ _ _ _ _ _ _, ⟨_, _, _, _, _, _, _, _, HK.out⟩, HR.out, HW.out, by simpa using h5⟩
 (try clear hH); (try clear hb)
 intro hH
 clear hK K
 (try simp only [cq])
 refine wpAnyH_done (by kernel_rfl) ?_ _
 (try dsimp only [Act.put])
 (try simp only [cq])
 clear kX h1 h2 h3 h4 h5 r0 r1 r2 r3 r4 r5 r6 r7 fr0 fr1 fr2 fr3 fr4 fr5 fr6 fr7 zR HW HR
 obtain ⟨h1, _, h3, h4, h5⟩ := hH
 have h2 := HK.out
 obtain ⟨V2, hV2⟩ : ∃ V, Blk.wld h2 = V := ⟨_, rfl⟩
 simp only [Blk.wld] at hV2
 rw [hV2] at h1 h2 h3 h4 h5 ⊢
 clear hV2 HK
 obtain ⟨p0, p1, p2, p3, p4, p5, p6, p7⟩ := h2.c8
 have zX := h2.lt
 have hr : ∀ q, r.ownBlock = some q → bL + 1 + 1 ≤ q := fun q e => (h3.lt q e).1
 go_wp2_with (at_builtin; refine wpList_append_own_at _ rfl _ _ 38 rfl (bL + 1 + 1) 28 i0 (.agg #[.int .i64 0, .int .i64 0, .int .i64 0, .int .i64 0, .int .i64 0, .int .i64 0, .int .i64 0, .int .i64 0]) 8 64 Tryz.underlying38 hi0 hz0 hz1 hz2 rfl (by decide) _ _ _ rfl (h3.alloc _) ⟨V2.heap.size, 0, none⟩ 1 1 (ic8 (x (k + 1))) rfl rfl (news8 _ _) (one8 _) (by unfold maxLen; omega) (by omega) (by simp; omega) ?_; intro v' w10 hown' hgrow _ _; have g1 := (h1.alloc (.cells #[.int .i64 (x (k + 1)).b0, .int .i64 (x (k + 1)).b1, .int .i64 (x (k + 1)).w0, .int .i64 (x (k + 1)).w1, .int .i64 (x (k + 1)).q0, .int .i64 (x (k + 1)).q1, .int .i64 (x (k + 1)).s0, .int .i64 (x (k + 1)).s1] 28)).grown hgrow (fun q e => by have := hr q e; omega); have g2 := (h2.alloc (.cells #[.int .i64 (x (k + 1)).b0, .int .i64 (x (k + 1)).b1, .int .i64 (x (k + 1)).w0, .int .i64 (x (k + 1)).w1, .int .i64 (x (k + 1)).q0, .int .i64 (x (k + 1)).q1, .int .i64 (x (k + 1)).s0, .int .i64 (x (k + 1)).s1] 28)).grown hgrow (fun q e => by have := hr q e; omega); have g4 := (h4.alloc h4.size (.cells #[.int .i64 (x (k + 1)).b0, .int .i64 (x (k + 1)).b1, .int .i64 (x (k + 1)).w0, .int .i64 (x (k + 1)).w1, .int .i64 (x (k + 1)).q0, .int .i64 (x (k + 1)).q1, .int .i64 (x (k + 1)).s0, .int .i64 (x (k + 1)).s1] 28)).grown hgrow (by have := h4.size; simp; omega) (fun q e => by have := hr q e; omega); have g5 : bL + 1 + 1 ≤ w10.heap.size := (by have := hgrow.size; simp at this; omega); clear p0 p1 p2 p3 p4 p5 p6 p7 zX)
 clear hgrow h1 h2 h3 h4 h5 hr
 go_roundw
 case rel => exact ⟨k + 1, v', by go_num, rfl, by omega, g1, g2, hown', g4, g5⟩
 case measure => simp [intOf]; omega )
    · have hkm : k = m := by omega
      rw [hkm] at jR
      go_wp2
      go_ret
      exact ⟨_, rfl, ownsRow_base jR (by omega), jB⟩

theorem rrun_val (l : Lw) (v : Value) (x : Ic) (vd : Value) (m : Nat) (d : Nat → Dy) (w : World) (hE : eRun l x m d = 0) (hv : CovAt w v l.n l.D l.P0 l.P1) (hd : DaysAt w vd m d) :
    Calls Tryz.prog 39 #[.agg #[.int .i64 l.gr, .int .i64 l.la, v, .int .i64 l.m0, .int .i64 l.m1, .int .i64 l.so, .int .i64 l.h0, .int .i64 l.h1], .agg #[.int .i64 x.b0, .int .i64 x.b1, .int .i64 x.w0, .int .i64 x.w1, .int .i64 x.q0, .int .i64 x.q1, .int .i64 x.s0, .int .i64 x.s1], vd] w
      fun e w' => ∃ r, e = .returned r ∧ w'.ownsRow w.heap.size 28 8 r m (rowsC (iceAt l d x) m) ∧ Below w.heap.size w w' := by
  obtain ⟨hl, h12, hx, hm, hk⟩ := eRun_ok hE
  have hB := iceAt_in hE
  obtain ⟨va, cap, rfl, z1, z2, z3⟩ := hv
  obtain ⟨a, dcap, hvd, _, _, _⟩ := id hd
  subst hvd
  exact rrun_in l va cap (iceAt l d x) a dcap m d w hm hd (fun k W h hW => rstep_any l (iceAt l d x k) (d k) va cap W hl (by omega) (CovAt.later ⟨va, cap, rfl, z1, z2, z3⟩ hW) (hB k (by omega)) (hk k h) _ rfl)

end Go.Proofs.YtdbiijldincoiaaGreat

namespace Go.Proofs.YtdbiijldincoiaaGreat
open Go.RowKit

set_option maxRecDepth 100000 in
set_option maxHeartbeats 4000000 in
theorem samed_some (n c1 c2 b1 o1 b2 o2 : Nat) (d : Nat → Dy) (w : World) (h1 : DaysAt w (.slice (some ⟨b1, o1, none⟩) n c1) n d) (h2 : DaysAt w (.slice (some ⟨b2, o2, none⟩) n c2) n d) (hn : n ≤ 1000000) :
    Calls Tryz.prog 17 #[.slice (some ⟨b1, o1, none⟩) n c1, .slice (some ⟨b2, o2, none⟩) n c2] w fun e w' => e = .returned (.bool true) ∧ Below w.heap.size w w' := by
  have H1 := Lib.hid (fun (W : World) (k : Nat) (h : Below w.heap.size w W) (hk : k < n) => by
    obtain ⟨aa, acap, hv, _, _, hz⟩ := h1.later h
    simp only [Value.slice.injEq] at hv
    obtain ⟨hv, _, _⟩ := hv
    obtain ⟨b, o, ha, hc⟩ := hz (by omega)
    rw [← hv] at ha
    simp only [Option.some.injEq, Addr.mk.injEq] at ha
    obtain ⟨rfl, rfl, _⟩ := ha
    exact hc k hk)
  have H2 := Lib.hid (fun (W : World) (k : Nat) (h : Below w.heap.size w W) (hk : k < n) => by
    obtain ⟨aa, acap, hv, _, _, hz⟩ := h2.later h
    simp only [Value.slice.injEq] at hv
    obtain ⟨hv, _, _⟩ := hv
    obtain ⟨b, o, ha, hc⟩ := hz (by omega)
    rw [← hv] at ha
    simp only [Option.some.injEq, Addr.mk.injEq] at ha
    obtain ⟨rfl, rfl, _⟩ := ha
    exact hc k hk)
  clear h1 h2
  go_enter Tryz.func17, Tryz.ntmps17
  go_wp2_with fail
  go_loopw [5] (fun i wr => ∃ k : Nat, k ≤ n ∧ i = .int .i64 k ∧ Below w.heap.size w wr) (fun i _ => n - (intOf i).toNat)
  case atStart => exact ⟨0, Nat.zero_le _, rfl, Below.refl _ _⟩
  case round =>
    obtain ⟨k, hk, rfl, hB⟩ := hrel
    by_cases hlt : k < n
    · go_upto_region 6 with fail
      refine region_still (by kernel_rfl) (by kernel_rfl) (fun U hU => ?_)
      have hB2 := hB.drew
      rw [hU] at hB2
      clear hU hB
      obtain ⟨a0, a1, a2, a3, a4, a5⟩ := H1.out U k hB2 hlt
      obtain ⟨d0, d1, d2, d3, d4, d5⟩ := H2.out U k hB2 hlt
      have z1 := World.block_lt_of_cell? _ _ a0
      have z2 := World.block_lt_of_cell? _ _ d0
      repeat still_step
      refine wpStill_nil ?_
      clear a0 a1 a2 a3 a4 a5 d0 d1 d2 d3 d4 d5 z1 z2
      go_wp2
      go_roundw
      case rel => exact ⟨k + 1, by omega, by go_num, hB2⟩
      case measure => simp [intOf]; omega
    · go_wp2
      go_ret
      exact ⟨rfl, hB⟩
theorem samed_none (a1 a2 : Option Addr) (c1 c2 : Nat) (w : World) :
    Calls Tryz.prog 17 #[.slice a1 0 c1, .slice a2 0 c2] w fun e w' => e = .returned (.bool true) ∧ Below w.heap.size w w' := by
  go_enter Tryz.func17, Tryz.ntmps17
  go_wp2_with fail
  go_loopw [5] (fun i wr => i = .int .i64 0 ∧ Below w.heap.size w wr) (fun _ _ => 0)
  case atStart => exact ⟨rfl, Below.refl _ _⟩
  case round =>
    obtain ⟨rfl, hB⟩ := hrel
    go_wp2
    go_ret
    exact ⟨rfl, hB⟩
theorem samed_yes (v1 v2 : Value) (n : Nat) (d : Nat → Dy) (w : World) (hn : n ≤ 1000000) (h1 : DaysAt w v1 n d) (h2 : DaysAt w v2 n d) :
    Calls Tryz.prog 17 #[v1, v2] w fun e w' => e = .returned (.bool true) ∧ Below w.heap.size w w' := by
  obtain ⟨a1, c1, rfl, _, _, g1⟩ := id h1
  obtain ⟨a2, c2, rfl, _, _, g2⟩ := id h2
  by_cases h0 : 0 < n
  · obtain ⟨b1, o1, e1, k1⟩ := g1 h0
    obtain ⟨b2, o2, e2, k2⟩ := g2 h0
    subst e1
    subst e2
    exact samed_some n c1 c2 b1 o1 b2 o2 d w h1 h2 hn
  · obtain rfl : n = 0 := by omega
    exact samed_none a1 a2 c1 c2 w

theorem append_nothing (W : World) (base : Nat) (cap : Nat) {v : Value} {n : Nat} {xs : List Value} (h : W.ownsRow base 58 6 v n xs) :
    (Builtin.append_ #[29, 29] 29 #[v, .slice none 0 cap]).run Tryz.prog W = .ok v W := by
  obtain ⟨i0, hi0, _, _, _⟩ := info_parts Tryz.infoDay
  obtain ⟨_, h2⟩ := h
  rcases h2 with ⟨e1, e2⟩ | ⟨g, c, cur, e1, _, _, hle, _⟩
  · subst e1 e2
    simp [Builtin.append_, run_underlying Tryz.underlying29, sizeOf, typeInfo, hi0, Builtin.lenOf, Builtin.firstCells]
  · subst e1
    simp [Builtin.append_, run_underlying Tryz.underlying29, sizeOf, typeInfo, hi0, Builtin.lenOf, Builtin.firstCells, hle, storeCells]

theorem append_days {ops : Array Oper} {rest : List Oper} {o : Oper} {a : Act} {Q : Exit → Act → World → Prop} {W : World} (hgd : o.guard = none) (s x : Operand)
    (ho : o.op = .call { callee := .builtin .append, args := #[s, x], argTypes := #[29, 29] }) (hty : o.type = 29)
    (base : Nat) (v : Value) (n : Nat) (xs : List Value) (hs : a.eval s = v) (hown : W.ownsRow base 58 6 v n xs) (vd : Value) (m : Nat) (d : Nat → Dy) (hx : a.eval x = vd) (hd : DaysAt W vd m d) (hm : n + m ≤ 1000000) (hbase : base ≤ W.heap.size)
    (h : ∀ v' w', w'.ownsRow base 58 6 v' (n + m) (xs ++ daysC d m) → W.grownBy w' v.ownBlock → wpList Tryz.prog ops Q rest (a.put o.dst v') w') : wpList Tryz.prog ops Q (o :: rest) a W := by
  obtain ⟨i0, hi0, hz0, hz1, hz2⟩ := info_parts Tryz.infoDay
  obtain ⟨A, cap, rfl, h1, h2, h3⟩ := hd
  cases A with
  | none =>
    obtain rfl : m = 0 := by
      rcases Nat.eq_zero_or_pos m with h0 | h0
      · exact h0
      · obtain ⟨b, q, e, _⟩ := h3 h0
        exact absurd e (by simp)
    refine wpList_plain hgd fun K hK => ?_
    unfold Oper.wp execOp
    simp only [ho, hty, resolve, invoke, builtin, Sem.run_bind, Sem.run_pure, Result.andThen_ok, List.map_toArray, List.map_cons, List.map_nil, hs, hx, append_nothing W base cap hown]
    exact hK _ _ (h v W (by simpa [daysC] using hown) (World.grownBy.refl W _))
  | some ad =>
    rw [← hty] at ho
    by_cases h0 : 0 < m
    · obtain ⟨b, q, e, hc⟩ := h3 h0
      simp only [Option.some.injEq] at e
      subst e
      refine wpList_append_own_at W hgd s x _ ho base 58 i0 (.agg #[.int .i64 0, .int .i64 0, .int .i64 0, .int .i64 0, .int .i64 0, .bool false]) 6 48 (by rw [hty]; exact Tryz.underlying29) hi0 hz0 hz1 hz2 rfl (by decide) v n xs hs hown ⟨b, q, none⟩ m cap (daysC d m) hx (daysC_len d m) (days_news hc) (days_one6 d m) (by unfold maxLen; omega) (by omega) hbase (fun v' w' a1 a2 _ _ => h v' w' a1 a2)
    · obtain rfl : m = 0 := by omega
      refine wpList_append_own_at W hgd s x _ ho base 58 i0 (.agg #[.int .i64 0, .int .i64 0, .int .i64 0, .int .i64 0, .int .i64 0, .bool false]) 6 48 (by rw [hty]; exact Tryz.underlying29) hi0 hz0 hz1 hz2 rfl (by decide) v n xs hs hown ad 0 cap (daysC d 0) hx (daysC_len d 0) (fun j u hj => by simp [daysC] at hj) (fun u hu => by simp [daysC] at hu) (by unfold maxLen; omega) (by omega) hbase (fun v' w' a1 a2 _ _ => h v' w' a1 a2)

def bigB (n m : Nat) : Bool := decide (30 < n) || decide (420 < m)
theorem bigB_no {n m : Nat} (h : bigB n m = false) : m ≤ 420 := by
  unfold bigB at h
  simp at h
  omega
theorem bigd_any (l : Lw) (va : Option Addr) (vcap : Nat) (a : Option Addr) (m cap : Nat) (w : World) :
    Calls Tryz.prog 6 #[.agg #[.int .i64 l.gr, .int .i64 l.la, (.slice va l.n vcap), .int .i64 l.m0, .int .i64 l.m1, .int .i64 l.so, .int .i64 l.h0, .int .i64 l.h1], .slice a m cap] w fun e w' => e = .returned (.bool (bigB l.n m)) ∧ Below w.heap.size w w' := by
  have jB : Below w.heap.size w (w.alloc (.cells #[.int .i64 l.gr, .int .i64 l.la, (.slice va l.n vcap), .int .i64 l.m0, .int .i64 l.m1, .int .i64 l.so, .int .i64 l.h0, .int .i64 l.h1] 26)) := by (repeat (first | exact Below.refl _ _ | assumption | refine Below.drew ?_ | refine Below.drewN ?_ _ | refine blT ?_ | refine blU ?_))
  cases h : decide ((30 : Int) < (l.n : Int)) with
  | true =>
    have hb := Lib.hid (show bigB l.n m = true by unfold bigB; simp at h; simp; omega)
    go_enter Tryz.func6, Tryz.ntmps6
    go_wp2
    go_ret
    exact ⟨by rw [hb.out]; rfl, jB⟩
  | false =>
    cases h2 : decide ((420 : Int) < (m : Int)) with
    | true =>
      have hb := Lib.hid (show bigB l.n m = true by unfold bigB; simp at h2; simp; omega)
      go_enter Tryz.func6, Tryz.ntmps6
      go_wp2
      go_ret
      exact ⟨by rw [hb.out]; rfl, jB⟩
    | false =>
      have hb := Lib.hid (show bigB l.n m = false by unfold bigB; simp at h h2; simp; omega)
      go_enter Tryz.func6, Tryz.ntmps6
      go_wp2
      go_ret
      exact ⟨by rw [hb.out]; rfl, jB⟩
def pickB {α : Type} (a b c : α) (k : Nat) : α := match k with | 0 => a | 1 => b | _ => c
theorem lwArr3 (a b c : Lw × Value) : LwArr #[.int .i64 a.1.gr, .int .i64 a.1.la, a.2, .int .i64 a.1.m0, .int .i64 a.1.m1, .int .i64 a.1.so, .int .i64 a.1.h0, .int .i64 a.1.h1, .int .i64 b.1.gr, .int .i64 b.1.la, b.2, .int .i64 b.1.m0, .int .i64 b.1.m1, .int .i64 b.1.so, .int .i64 b.1.h0, .int .i64 b.1.h1, .int .i64 c.1.gr, .int .i64 c.1.la, c.2, .int .i64 c.1.m0, .int .i64 c.1.m1, .int .i64 c.1.so, .int .i64 c.1.h0, .int .i64 c.1.h1] 3 (pickB a b c) := by
  intro k hk
  match k, hk with
  | 0, _ => exact ⟨rfl, rfl, rfl, rfl, rfl, rfl, rfl, rfl⟩
  | 1, _ => exact ⟨rfl, rfl, rfl, rfl, rfl, rfl, rfl, rfl⟩
  | 2, _ => exact ⟨rfl, rfl, rfl, rfl, rfl, rfl, rfl, rfl⟩
theorem icArr3 (a b c : Ic) : IcArr #[.int .i64 a.b0, .int .i64 a.b1, .int .i64 a.w0, .int .i64 a.w1, .int .i64 a.q0, .int .i64 a.q1, .int .i64 a.s0, .int .i64 a.s1, .int .i64 b.b0, .int .i64 b.b1, .int .i64 b.w0, .int .i64 b.w1, .int .i64 b.q0, .int .i64 b.q1, .int .i64 b.s0, .int .i64 b.s1, .int .i64 c.b0, .int .i64 c.b1, .int .i64 c.w0, .int .i64 c.w1, .int .i64 c.q0, .int .i64 c.q1, .int .i64 c.s0, .int .i64 c.s1] 0 3 (pickB a b c) := by
  intro k hk
  match k, hk with
  | 0, _ => exact ⟨rfl, rfl, rfl, rfl, rfl, rfl, rfl, rfl⟩
  | 1, _ => exact ⟨rfl, rfl, rfl, rfl, rfl, rfl, rfl, rfl⟩
  | 2, _ => exact ⟨rfl, rfl, rfl, rfl, rfl, rfl, rfl, rfl⟩
def VlArr (C : Array Value) (m : Nat) (x : Nat → Value) : Prop := ∀ i, i < m → C[i]? = some (x i)
theorem vlArr3 (a b c : Value) : VlArr #[a, b, c] 3 (pickB a b c) := by
  intro k hk
  match k, hk with
  | 0, _ => rfl
  | 1, _ => rfl
  | 2, _ => rfl
theorem pickB_all {α : Type} {P : α → Prop} {a b c : α} (ha : P a) (hb : P b) (hc : P c) (k : Nat) : P (pickB a b c k) := by
  match k with
  | 0 => exact ha
  | 1 => exact hb
  | _ + 2 => exact hc

structure RLists (V : World) (b1 b2 b3 : Nat) (ls : Nat → Lw × Value) (xs : Nat → Ic) (vs : Nat → Value) (ns : Nat → Nat) (ds : Nat → Nat → Dy) : Prop where
  law : ∃ C, LwArr C 3 ls ∧ Blk V b1 C 26
  ice : ∃ C, IcArr C 0 3 xs ∧ Blk V b2 C 28
  day : ∃ C, VlArr C 3 vs ∧ Blk V b3 C 29
  cov : ∀ k, CovAt V (ls k).2 (ls k).1.n (ls k).1.D (ls k).1.P0 (ls k).1.P1
  days : ∀ k, DaysAt V (vs k) (ns k) (ds k)
  few : ∀ k, ns k ≤ 420

def IvArr (C : Array Value) (m : Nat) (x : Nat → Int) : Prop := ∀ i, i < m → C[i]? = some (.int .i64 (x i))
theorem ivArr3 (a b c : Int) : IvArr #[.int .i64 a, .int .i64 b, .int .i64 c] 3 (pickB a b c) := by
  intro k hk
  match k, hk with
  | 0, _ => rfl
  | 1, _ => rfl
  | 2, _ => rfl
end Go.Proofs.YtdbiijldincoiaaGreat
