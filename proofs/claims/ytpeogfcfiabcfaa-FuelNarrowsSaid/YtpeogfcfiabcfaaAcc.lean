/-
  The checks of accounts (package fuel), exact for any list of accounts.
-/
import Derived.Test.YtpeogfcfiabcfaaTail
import Derived.Test.YtpeogfcfiabcfaaNam
import Derived.StringKeys
set_option linter.unusedVariables false
set_option linter.unusedSimpArgs false
namespace Go.Proofs.Ytpeogfcfiabcfaa
open Go.RowKit

theorem Try.keyS : Go.Maps.Keyed Try.prog 9 := Go.Maps.string_keyed Try.underlying9
theorem Try.zeroB (w : World) : (zeroValue 4).run Try.prog w = .ok (.bool false) w := by kernel_rfl
def NamesAt (w : World) (bM k : Nat) (A : Nat → Ac) : Prop := w.ownsMap Try.prog 9 (plainElem Try.prog 4) bM k (nmD A k)
theorem NamesAt.lt {w : World} {bM k : Nat} {A : Nat → Ac} (h : NamesAt w bM k A) : bM < w.heap.size := World.ownsMap.lt h
theorem NamesAt.later {w w' : World} {bM k : Nat} {A : Nat → Ac} (h : NamesAt w bM k A) (hb : Below w.heap.size w w') : NamesAt w' bM k A :=
  World.ownsMap.kept (row := none) h ⟨hb.os, hb.tape, hb.output, hb.size, fun k hk _ => hb.block k hk⟩ (by simp)
theorem NamesAt.alloc {w : World} {bM k : Nat} {A : Nat → Ac} (h : NamesAt w bM k A) (o : Obj) : NamesAt (w.alloc o) bM k A := World.ownsMap.alloc h o
theorem NamesAt.drew {w : World} {bM k : Nat} {A : Nat → Ac} (h : NamesAt w bM k A) : NamesAt w.drew bM k A := h
theorem NamesAt.look {w : World} {bM k : Nat} {A : Nat → Ac} (h : NamesAt w bM k A) {s : ByteArray} (hs : s.size ≤ maxLen) : (Instr.lookup 171 (.map (some bM)) (.string s) false).run Try.prog w = .ok (.bool (seen A s k)) w := by
  obtain ⟨c, hrun, hat⟩ := lookup_bool h Try.keyS Try.underlying171 Try.underlying4 (Try.zeroB w) (Go.WideMaps.keyOf_string_mk Try.underlying9 hs)
  rw [nmD_at] at hat
  simp only [DataW.lit.injEq, Lit.bool.injEq] at hat
  rw [hrun, hat]
theorem NamesAt.ne {w : World} {bM k b o : Nat} {A : Nat → Ac} {v : Value} (h : NamesAt w bM k A) (hc : w.cell? ⟨b, o, none⟩ = some v) : b ≠ bM := by
  rintro rfl
  obtain ⟨es, cl, hb, _⟩ := h
  simp [World.cell?, hb] at hc

def eAcc (x : Ac) (sn : Bool) : Int := orE (eF (nmB x.nm)) (orE (eX (!sn)) (orE (eK x.ki 2) (orE (eLit x.o0 x.o1) (eLit x.c0 x.c1))))
def eAc (A : Nat → Ac) (k : Nat) : Int := eAcc (A k) (seen A (A k).nm k)
theorem first_ac (b cap : Nat) (x : Ac) (sn : Bool) (w : World) (h0 : w.cell? ⟨b, 0, none⟩ = some (.int .i64 (eF (nmB x.nm)))) (h1 : w.cell? ⟨b, 1, none⟩ = some (.int .i64 (eX (!sn)))) (h2 : w.cell? ⟨b, 2, none⟩ = some (.int .i64 (eK x.ki 2))) (h3 : w.cell? ⟨b, 3, none⟩ = some (.int .i64 (eLit x.o0 x.o1))) (h4 : w.cell? ⟨b, 4, none⟩ = some (.int .i64 (eLit x.c0 x.c1))) :
    Calls Try.prog 77 #[.slice (some ⟨b, 0, none⟩) 5 cap] w fun e w' => e = .returned (.int .i64 (eAcc x sn)) ∧ w = w' := first_five b cap _ _ _ _ _ w h0 h1 h2 h3 h4

set_option maxRecDepth 100000 in
set_option maxHeartbeats 2000000 in
theorem acc_one (A : Nat → Ac) (k bm bM : Nat) (hk : k < maxLen) (i : Int) (w : World) (hs : (A k).nm.size ≤ maxLen) (hm : w.cell? ⟨bm, 0, none⟩ = some (.map (some bM))) (hN : NamesAt w bM k A) :
    Calls Try.prog 154 #[.int .i64 i, .agg #[.string (A k).nm, .int .i64 (A k).ki, .int .i64 (A k).o0, .int .i64 (A k).o1, .int .i64 (A k).c0, .int .i64 (A k).c1], .pointer (some ⟨bm, 0, none⟩)] w fun e w' => e = .returned (.int .i64 (eAc A k)) ∧ NamesAt w' bM (k + 1) A ∧ w.grownBy w' (some bM) := by
  have zm := World.block_lt_of_cell? _ _ hm
  have hL : ∀ W, NamesAt W bM k A → (Instr.lookup 171 (.map (some bM)) (.string (A k).nm) false).run Try.prog W = .ok (.bool (seen A (A k).nm k)) W := fun W h => h.look hs
  have HL := Lib.hid hL
  clear hL
  have HD := Lib.hid (show nmD A (k + 1) = (nmD A k).put (nmL (A k)) (.lit (.bool true)) from rfl)
  have HP : Hid (∀ W, NamesAt W bM (k + 1) A = W.ownsMap Try.prog 9 (plainElem Try.prog 4) bM (k + 1) ((nmD A k).put (nmL (A k)) (.lit (.bool true)))) := fun W => rfl
  have hkey : keyOf Try.prog 9 (.string (A k).nm) = some (nmL (A k)) := Go.WideMaps.keyOf_string_mk Try.underlying9 hs
  obtain ⟨x, hx⟩ : ∃ x, A k = x := ⟨_, rfl⟩
  have HE := Lib.hid (show eAc A k = eAcc x (seen A x.nm k) by unfold eAc; rw [hx])
  have HX := Lib.hid hx
  rw [hx] at hs HL HP hkey ⊢
  obtain ⟨sn, hsn⟩ : ∃ b, seen A x.nm k = b := ⟨_, rfl⟩
  rw [hsn] at HL HE
  clear hx hsn HD
  have HK := Lib.hid hkey
  clear hkey
  have jX := Blk.new w #[.string x.nm, .int .i64 x.ki, .int .i64 x.o0, .int .i64 x.o1, .int .i64 x.c0, .int .i64 x.c1] 87
  have jB : Below w.heap.size w (w.alloc (.cells #[.string x.nm, .int .i64 x.ki, .int .i64 x.o0, .int .i64 x.o1, .int .i64 x.c0, .int .i64 x.c1] 87)) := by (repeat (first | exact Below.refl _ _ | assumption | refine Below.drew ?_ | refine Below.drewN ?_ _ | refine blT ?_ | refine blU ?_))
  have jN := hN.alloc (.cells #[.string x.nm, .int .i64 x.ki, .int .i64 x.o0, .int .i64 x.o1, .int .i64 x.c0, .int .i64 x.c1] 87)
  have jM := cell_later jB hm
  go_enter Try.func154, Try.ntmps154
  go_wp2_with fail
  refine wp_region_held_drew (S := (fun w' => Blk w' w.heap.size #[.string x.nm, .int .i64 x.ki, .int .i64 x.o0, .int .i64 x.o1, .int .i64 x.c0, .int .i64 x.c1] 87 ∧ w'.cell? ⟨bm, 0, none⟩ = some (.map (some bM)) ∧ NamesAt w' bM k A ∧ Below w.heap.size w w')) (by kernel_rfl) ?_ (fun hH => ?_)
  · (try dsimp only); (exact ⟨jX.drew, jM, jN.drew, jB.drew⟩)
  refine tkY 0 (some 7) ?_ ?_ ?_
  rotate_left
  · intro w hS0; (try dsimp only at hS0); obtain ⟨k1, k2, k3, k4⟩ := hS0; obtain ⟨c0, c1, c2, c3, c4, c5⟩ := k1.c6; have hlk := HL.out _ k3;go_simp; (try with_reducible rfl)
  (try simp only [cq])
  refine tkY 1 (some 8) ?_ ?_ ?_
  rotate_left
  · intro w hS0; (try dsimp only at hS0); obtain ⟨k1, k2, k3, k4⟩ := hS0; obtain ⟨c0, c1, c2, c3, c4, c5⟩ := k1.c6; have hlk := HL.out _ k3;go_simp; (try with_reducible rfl)
  (try simp only [cq])
  refine tkY 4 (some 11) ?_ ?_ ?_
  rotate_left
  · intro w hS0; (try dsimp only at hS0); obtain ⟨k1, k2, k3, k4⟩ := hS0; obtain ⟨c0, c1, c2, c3, c4, c5⟩ := k1.c6; have hlk := HL.out _ k3;go_simp; (try with_reducible rfl)
  (try simp only [cq])
  refine tkY 5 (some 12) ?_ ?_ ?_
  rotate_left
  · intro w hS0; (try dsimp only at hS0); obtain ⟨k1, k2, k3, k4⟩ := hS0; obtain ⟨c0, c1, c2, c3, c4, c5⟩ := k1.c6; have hlk := HL.out _ k3;go_simp; (try with_reducible rfl)
  (try simp only [cq])
  refine tkY 6 (some 13) ?_ ?_ ?_
  rotate_left
  · intro w hS0; (try dsimp only at hS0); obtain ⟨k1, k2, k3, k4⟩ := hS0; obtain ⟨c0, c1, c2, c3, c4, c5⟩ := k1.c6; have hlk := HL.out _ k3;go_simp; (try with_reducible rfl)
  (try simp only [cq])
  refine tkY 7 (some 14) ?_ ?_ ?_
  rotate_left
  · intro w hS0; (try dsimp only at hS0); obtain ⟨k1, k2, k3, k4⟩ := hS0; obtain ⟨c0, c1, c2, c3, c4, c5⟩ := k1.c6; have hlk := HL.out _ k3;go_simp; (try with_reducible rfl)
  (try simp only [cq])
  refine tkY 8 (some 15) ?_ ?_ ?_
  rotate_left
  · intro w _; go_simp; (try with_reducible rfl)
  (try simp only [cq])
  refine tkY 10 (some 17) ?_ ?_ ?_
  rotate_left
  · intro w hS0; (try dsimp only at hS0); obtain ⟨k1, k2, k3, k4⟩ := hS0; obtain ⟨c0, c1, c2, c3, c4, c5⟩ := k1.c6; have hlk := HL.out _ k3;go_simp; (try with_reducible rfl)
  (try simp only [cq])
  refine tkY 11 (some 18) ?_ ?_ ?_
  rotate_left
  · intro w hS0; (try dsimp only at hS0); obtain ⟨k1, k2, k3, k4⟩ := hS0; obtain ⟨c0, c1, c2, c3, c4, c5⟩ := k1.c6; have hlk := HL.out _ k3;go_simp; (try with_reducible rfl)
  (try simp only [cq])
  refine tkY 13 (some 20) ?_ ?_ ?_
  rotate_left
  · intro w hS0; (try dsimp only at hS0); obtain ⟨k1, k2, k3, k4⟩ := hS0; obtain ⟨c0, c1, c2, c3, c4, c5⟩ := k1.c6; have hlk := HL.out _ k3;go_simp; (try with_reducible rfl)
  (try simp only [cq])
  refine tkY 14 (some 21) ?_ ?_ ?_
  rotate_left
  · intro w hS0; (try dsimp only at hS0); obtain ⟨k1, k2, k3, k4⟩ := hS0; obtain ⟨c0, c1, c2, c3, c4, c5⟩ := k1.c6; have hlk := HL.out _ k3;go_simp; (try with_reducible rfl)
  (try simp only [cq])
  refine tkY 16 (some 23) ?_ ?_ ?_
  rotate_left
  · intro w hS0; (try dsimp only at hS0); obtain ⟨k1, k2, k3, k4⟩ := hS0; obtain ⟨c0, c1, c2, c3, c4, c5⟩ := k1.c6; have hlk := HL.out _ k3;go_simp; (try with_reducible rfl)
  (try simp only [cq])
  refine tkY 17 (some 24) ?_ ?_ ?_
  rotate_left
  · intro w hS0; (try dsimp only at hS0); obtain ⟨k1, k2, k3, k4⟩ := hS0; obtain ⟨c0, c1, c2, c3, c4, c5⟩ := k1.c6; have hlk := HL.out _ k3;go_simp; (try with_reducible rfl)
  (try simp only [cq])
  refine wpAnyH_ready (rs := [2]) (by kernel_rfl) (by simp) ?_
  refine arc1 (some 9) fun K hK => ?_
  go_simp
  (refine (name_any _ hs _).mono ?_; rintro e w' ⟨rfl, hb⟩)
  refine hK.out _ _ ?_ (fun hH => ?_)
  · (first | exact hH | exact ⟨hH.1.call hb, cell_later hb hH.2.1, hH.2.2.1.later hb, bwS hH.2.2.2 (Nat.le_refl _) hb⟩)
  clear hK K
  (try simp only [cq])
  refine wpAnyH_ready (rs := [3]) (by kernel_rfl) (by simp) ?_
  refine arc1 (some 10) fun K hK => ?_
  go_simp
  (refine (form_any _ _).mono ?_; rintro e w' ⟨rfl, rfl⟩)
  refine hK.out _ _ ?_ (fun hH => ?_)
  · (first | exact hH | exact ⟨hH.1.call hb, cell_later hb hH.2.1, hH.2.2.1.later hb, bwS hH.2.2.2 (Nat.le_refl _) hb⟩)
  clear hK K
  (try simp only [cq])
  refine wpAnyH_ready (rs := [9]) (by kernel_rfl) (by simp) ?_
  refine arc1 (some 16) fun K hK => ?_
  go_simp
  (refine (newc_any _ _).mono ?_; rintro e w' ⟨rfl, rfl⟩)
  refine hK.out _ _ ?_ (fun hH => ?_)
  · (first | exact hH | exact ⟨hH.1.call hb, cell_later hb hH.2.1, hH.2.2.1.later hb, bwS hH.2.2.2 (Nat.le_refl _) hb⟩)
  clear hK K
  (try simp only [cq])
  refine wpAnyH_ready (rs := [12]) (by kernel_rfl) (by simp) ?_
  refine arc1 (some 19) fun K hK => ?_
  go_simp
  (refine (kind_any _ _ _).mono ?_; rintro e w' ⟨rfl, rfl⟩)
  refine hK.out _ _ ?_ (fun hH => ?_)
  · (first | exact hH | exact ⟨hH.1.call hb, cell_later hb hH.2.1, hH.2.2.1.later hb, bwS hH.2.2.2 (Nat.le_refl _) hb⟩)
  clear hK K
  (try simp only [cq])
  refine wpAnyH_ready (rs := [15]) (by kernel_rfl) (by simp) ?_
  refine arc1 (some 22) fun K hK => ?_
  go_simp
  (refine (litres_any _ _ _).mono ?_; rintro e w' ⟨rfl, hb⟩)
  refine hK.out _ _ ?_ (fun hH => ?_)
  · (first | exact hH | exact ⟨hH.1.call hb, cell_later hb hH.2.1, hH.2.2.1.later hb, bwS hH.2.2.2 (Nat.le_refl _) hb⟩)
  clear hK K
  (try simp only [cq])
  refine wpAnyH_ready (rs := [18]) (by kernel_rfl) (by simp) ?_
  refine arc1 (some 25) fun K hK => ?_
  go_simp
  (refine (litres_any _ _ _).mono ?_; rintro e w' ⟨rfl, hb⟩)
  refine hK.out _ _ ?_ (fun hH => ?_)
  · (first | exact hH | exact ⟨hH.1.call hb, cell_later hb hH.2.1, hH.2.2.1.later hb, bwS hH.2.2.2 (Nat.le_refl _) hb⟩)
  clear hK K
  (try simp only [cq])
  refine wpAnyH_ready (rs := [19]) (by kernel_rfl) (by simp) ?_
  refine arc1 (some 26) fun K hK => ?_
  go_simp
  refine hK.out _ _ ?_ (fun hH => ?_)
  · exact ⟨hH.1.alloc _, cell_later ((Below.refl _ _).alloc (Nat.le_refl _) _) hH.2.1, hH.2.2.1.alloc _, bwA hH.2.2.2 (Nat.le_refl _) _⟩
  clear hK K
  (try simp only [cq])
  refine wpAnyH_ready (rs := [20]) (by kernel_rfl) (by simp) ?_
  refine arc1 (some 27) fun K hK => ?_
  go_simp
  (refine (first_ac _ _ x sn _ (by first | (simp; done) | (go_simp; done) | (go_keep; done)) (by first | (simp; done) | (go_simp; done) | (go_keep; done)) (by first | (simp; done) | (go_simp; done) | (go_keep; done)) (by first | (simp; done) | (go_simp; done) | (go_keep; done)) (by first | (simp; done) | (go_simp; done) | (go_keep; done))).mono ?_; rintro e w' ⟨rfl, rfl⟩)
  refine hK.out _ _ ?_ (fun hH => ?_)
  · (first | exact hH | exact ⟨hH.1.call hb, cell_later hb hH.2.1, hH.2.2.1.later hb, bwS hH.2.2.2 (Nat.le_refl _) hb⟩)
  clear hK K
  (try simp only [cq])
  refine tkY 21 (some 6) ?_ ?_ ?_
  rotate_left
  · intro w _; go_simp; (try with_reducible rfl)
  (try simp only [cq])
  refine wpAnyH_done (by kernel_rfl) ?_ _
  (try dsimp only [Act.put])
  (try simp only [cq])
  clear jX jB jN jM
  obtain ⟨jX, jM, jN, jB⟩ := hH
  obtain ⟨c0, c1, c2, c3, c4, c5⟩ := jX.c6
  have zX := jX.lt
  have zN := jN.lt
  go_wp2_with (at_mapUpdate; refine wpList_mapUpdate_own _ rfl _ _ _ 171 rfl 9 4 Try.keyS Try.underlying171 _ bM k _ rfl jN hk _ _ _ rfl rfl HK.out _ [] (plainElem_bool Try.underlying4 true) ?_; intro w1 hown1 hgrow1)
  go_ret
  refine ⟨by rw [HE.out]; rfl, by rw [HP.out]; exact hown1, ?_⟩
  exact ⟨hgrow1.os.trans jB.os, hgrow1.tape.trans jB.tape, hgrow1.output.trans jB.output, Nat.le_trans jB.size hgrow1.size, fun q hq hne => (hgrow1.block q (Nat.lt_of_lt_of_le hq jB.size) hne).trans (jB.block q hq)⟩
end Go.Proofs.Ytpeogfcfiabcfaa
