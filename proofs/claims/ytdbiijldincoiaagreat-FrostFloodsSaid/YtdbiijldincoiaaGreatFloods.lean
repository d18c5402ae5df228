/-
  FrostFloods says yes: the greatest water that leaves none.
-/
import Derived.Test.YtdbiijldincoiaaGreatTail
import Derived.Test.YtdbiijldincoiaaGreatFloE2
import Derived.Test.YtdbiijldincoiaaGreatAwake
import Derived.Test.YtdbiijldincoiaaGreatNew
import Derived.Test.YtdbiijldincoiaaGreatBig
import Derived.Maps.AppendAt
set_option linter.unusedVariables false
set_option linter.unusedSimpArgs false
namespace Go.Proofs.YtdbiijldincoiaaGreat
open Go.RowKit

def fLw (l : Lw) (v : Value) : Array Value := #[.int .i64 l.gr, .int .i64 l.la, v, .int .i64 l.m0, .int .i64 l.m1, .int .i64 l.so, .int .i64 l.h0, .int .i64 l.h1]
def fIc (x : Ic) : Array Value := #[.int .i64 x.b0, .int .i64 x.b1, .int .i64 x.w0, .int .i64 x.w1, .int .i64 x.q0, .int .i64 x.q1, .int .i64 x.s0, .int .i64 x.s1]
def fA1 (l m : Lw) (v u : Value) : Array Value := #[.int .i64 l.gr, .int .i64 l.la, v, .int .i64 l.m0, .int .i64 l.m1, .int .i64 l.so, .int .i64 l.h0, .int .i64 l.h1, .int .i64 m.gr, .int .i64 m.la, u, .int .i64 m.m0, .int .i64 m.m1, .int .i64 m.so, .int .i64 m.h0, .int .i64 m.h1, .int .i64 m.gr, .int .i64 m.la, u, .int .i64 m.m0, .int .i64 m.m1, .int .i64 m.so, .int .i64 m.h0, .int .i64 m.h1]
def fA2 (x y : Ic) : Array Value := #[.int .i64 x.b0, .int .i64 x.b1, .int .i64 x.w0, .int .i64 x.w1, .int .i64 x.q0, .int .i64 x.q1, .int .i64 x.s0, .int .i64 x.s1, .int .i64 y.b0, .int .i64 y.b1, .int .i64 y.w0, .int .i64 y.w1, .int .i64 y.q0, .int .i64 y.q1, .int .i64 y.s0, .int .i64 y.s1, .int .i64 y.b0, .int .i64 y.b1, .int .i64 y.w0, .int .i64 y.w1, .int .i64 y.q0, .int .i64 y.q1, .int .i64 y.s0, .int .i64 y.s1]
def fA3 (v u : Value) : Array Value := #[v, u, v]
theorem blk_seed {W : World} {b bs : Nat} {C : Array Value} {t : TypeId} (h : Blk W b C t) (hs : SeedAt bs W) (ht : t ≠ 70) : b ≠ bs := by
  rintro rfl
  obtain ⟨u, hu⟩ := hs
  unfold Blk at h hu
  rw [h] at hu
  simp at hu
  exact ht hu.2
theorem newsF (W : World) (C : Array Value) (t : TypeId) : ∀ (j : Nat) (u : Value), C.toList[j]? = some u → (W.alloc (.cells C t)).cell? ((⟨W.heap.size, 0, none⟩ : Addr).add j) = some u := by
  intro j u h
  have hk := Blk.new W C t
  have e : (⟨W.heap.size, 0, none⟩ : Addr).add j = ⟨W.heap.size, j, none⟩ := by simp [Addr.add]; intro hj; exact hj.symm
  rw [e]
  exact hk.cell j (by simpa using h)
theorem grownF {B : Nat} {w V W : World} {r : Option Nat} (h : Below B w V) (g : V.grownBy W r) (hr : ∀ k, r = some k → B ≤ k) (hB : B ≤ w.heap.size) : Below B w W :=
  ⟨g.os.trans h.os, g.tape.trans h.tape, g.output.trans h.output, Nat.le_trans h.size g.size, fun k hk => (g.block k (Nat.lt_of_lt_of_le hk (Nat.le_trans hB h.size)) (fun e => by have := hr k e.symm; omega)).trans (h.block k hk)⟩

set_option maxRecDepth 100000 in
set_option maxHeartbeats 16000000 in
theorem floods_any (l : Lw) (cv : Value) (x : Ic) (vd : Value) (md : Nat) (d : Nat → Dy) (at_ mo : Int) (a : Option Addr) (len cap : Nat) (w : World) (hc : CovAt w cv l.n l.D l.P0 l.P1) (hd : DaysAt w vd md d) (hn : NumsAt w a len) :
    Calls Tryz.prog 5 #[.agg #[.int .i64 l.gr, .int .i64 l.la, cv, .int .i64 l.m0, .int .i64 l.m1, .int .i64 l.so, .int .i64 l.h0, .int .i64 l.h1], .agg #[.int .i64 x.b0, .int .i64 x.b1, .int .i64 x.w0, .int .i64 x.w1, .int .i64 x.q0, .int .i64 x.q1, .int .i64 x.s0, .int .i64 x.s1], vd, .int .i64 at_, .int .i64 mo, .slice a len cap] w fun e w' => e = .returned (.bool true) ∧ Below w.heap.size w w' := by
  obtain ⟨i0, hi0, hz0, hz1, hz2⟩ := info_parts Tryz.infoDay
  have HC := Lib.hid hc
  have HD := Lib.hid hd
  obtain ⟨va, vcap, hvv, hz1', hz2', hz3⟩ := hc
  clear hz1' hz2' hz3
  subst hvv
  obtain ⟨da, dcap, hvd, hz1', hz2', hz3⟩ := hd
  clear hz1' hz2' hz3
  subst hvd
  have jL := (Blk.new w #[.int .i64 l.gr, .int .i64 l.la, (Value.slice va l.n vcap), .int .i64 l.m0, .int .i64 l.m1, .int .i64 l.so, .int .i64 l.h0, .int .i64 l.h1] 26).alloc (.cells #[.int .i64 x.b0, .int .i64 x.b1, .int .i64 x.w0, .int .i64 x.w1, .int .i64 x.q0, .int .i64 x.q1, .int .i64 x.s0, .int .i64 x.s1] 28)
  have jX := Blk.new1 w (.cells #[.int .i64 l.gr, .int .i64 l.la, (Value.slice va l.n vcap), .int .i64 l.m0, .int .i64 l.m1, .int .i64 l.so, .int .i64 l.h0, .int .i64 l.h1] 26) #[.int .i64 x.b0, .int .i64 x.b1, .int .i64 x.w0, .int .i64 x.w1, .int .i64 x.q0, .int .i64 x.q1, .int .i64 x.s0, .int .i64 x.s1] 28
  have jB : Below w.heap.size w ((w.alloc (.cells #[.int .i64 l.gr, .int .i64 l.la, (Value.slice va l.n vcap), .int .i64 l.m0, .int .i64 l.m1, .int .i64 l.so, .int .i64 l.h0, .int .i64 l.h1] 26)).alloc (.cells #[.int .i64 x.b0, .int .i64 x.b1, .int .i64 x.w0, .int .i64 x.w1, .int .i64 x.q0, .int .i64 x.q1, .int .i64 x.s0, .int .i64 x.s1] 28)) := by (repeat (first | exact Below.refl _ _ | assumption | refine Below.drew ?_ | refine Below.drewN ?_ _ | refine blT ?_ | refine blU ?_))
  go_enter Tryz.func5, Tryz.ntmps5
  go_upto_region 1 with fail
  generalize hV0 : (w.alloc (.cells #[.int .i64 l.gr, .int .i64 l.la, (Value.slice va l.n vcap), .int .i64 l.m0, .int .i64 l.m1, .int .i64 l.so, .int .i64 l.h0, .int .i64 l.h1] 26)).alloc (.cells #[.int .i64 x.b0, .int .i64 x.b1, .int .i64 x.w0, .int .i64 x.w1, .int .i64 x.q0, .int .i64 x.q1, .int .i64 x.s0, .int .i64 x.s1] 28) = V0 at jL jX jB ⊢
  clear hV0
  go_cut [40] (fun s40 wx => ∃ b : Bool, s40 = .bool b ∧ (b = false → md ≤ 420) ∧ Blk wx w.heap.size (fLw l (Value.slice va l.n vcap)) 26 ∧ Blk wx (w.heap.size + 1) (fIc x) 28 ∧ Below w.heap.size w wx)
  case first =>
    obtain ⟨l0, l1, l2, l3, l4, l5, l6, l7⟩ := jL.c8
    have yL := jL.lt
    have KL := Lib.hid jL
    clear jL
    go_wp2_with fail
    clear l0 l1 l2 l3 l4 l5 l6 l7 yL
    refine (bigd_any _ _ _ _ _ _ _).mono ?_
    rintro e w0 ⟨rfl, hb⟩
    have jL := KL.out.call hb
    replace jX := jX.call hb
    replace jB := bwS jB (Nat.le_refl _) hb
    clear hb KL
    cases hbg : bigB l.n md with
    | true =>
      clear hbg
      go_wp2_with fail
      go_meet
      exact ⟨true, rfl, fun h => by simp at h, jL, jX, jB⟩
    | false =>
      have hmd := bigB_no hbg
      clear hbg
      by_cases h30 : 30 < md
      · have q1 : decide ((30 : Int) < (md : Int)) = true := by simp; omega
        have q3 : decide (30 < md) = true := by simp; omega
        by_cases h400 : md ≤ 400
        · have q2 : decide ((md : Int) ≤ 400) = true := by simp; omega
          have q4 : decide (md ≤ 400) = true := by simp; omega
          clear h30 h400
          go_wp2_with fail
          go_meet
          exact ⟨true, rfl, fun h => by simp at h, jL, jX, jB⟩
        · have q2 : decide ((md : Int) ≤ 400) = false := by simp; omega
          have q4 : decide (md ≤ 400) = false := by simp; omega
          clear h30 h400
          go_wp2_with fail
          go_meet
          exact ⟨false, rfl, fun _ => hmd, jL, jX, jB⟩
      · have q1 : decide ((30 : Int) < (md : Int)) = false := by simp; omega
        have q3 : decide (30 < md) = false := by simp; omega
        clear h30
        go_wp2_with fail
        go_meet
        exact ⟨false, rfl, fun _ => hmd, jL, jX, jB⟩
  case rest =>
    clear jL jX jB
    obtain ⟨bf, rfl, hmd, jL, jX, jB⟩ := hcut
    cases bf with
    | true =>
      go_wp2_with fail
      refine (awake_any _).mono ?_
      rintro e w9 ⟨rfl, hb⟩
      replace jB := bwS jB (Nat.le_refl _) hb
      go_wp2
      go_ret
      exact ⟨rfl, jB⟩
    | false =>
    replace hmd := hmd rfl
    go_wp2_with fail
    refine (newseed_at a len cap _ (hn.later jB)).mono ?_
    rintro e w1 ⟨rfl, hS, hB⟩
    clear hn
    have zD := jX.lt
    obtain ⟨bs, hbs⟩ : ∃ b, wc.heap.size = b := ⟨_, rfl⟩
    replace jL := jL.call hB
    replace jX := jX.call hB
    replace jB := bwS jB (Nat.le_refl _) hB
    rw [hbs] at hS zD ⊢
    have hle : w.heap.size ≤ bs := by omega
    have HB := Lib.hid (And.intro hle jB)
    clear hbs hB jB hle
    obtain ⟨bL, hbL⟩ : ∃ b, w.heap.size = b := ⟨_, rfl⟩
    have zwL : w.heap.size ≤ bL := by omega
    rw [hbL] at jL jX zD ⊢
    clear hbL
    have hb1 : bs < w1.heap.size := hS.choose_spec.lt
    go_wp2_with fail
    refine (frostof_in bs w1 hS).mono ?_
    rintro e w2 ⟨m, v3, rfl, hm, hR, hA⟩
    obtain ⟨vb, vbcap, hvv, hz1', hz2', hz3⟩ := covAt_of_row hR
    clear hz1' hz2' hz3
    subst hvv
    go_wp2_with fail
    refine (iceof_in bs w2 hA.seed).mono ?_
    rintro e w3 ⟨y, rfl, hy, hd⟩
    replace hR := hd.row hR (by omega)
    replace hA := hA.trans hd
    clear hd
    replace jL := ((hA.blk jL (by omega)).alloc (.cells #[.int .i64 m.gr, .int .i64 m.la, (Value.slice vb m.n vbcap), .int .i64 m.m0, .int .i64 m.m1, .int .i64 m.so, .int .i64 m.h0, .int .i64 m.h1] 26)).alloc (.cells #[.int .i64 y.b0, .int .i64 y.b1, .int .i64 y.w0, .int .i64 y.w1, .int .i64 y.q0, .int .i64 y.q1, .int .i64 y.s0, .int .i64 y.s1] 28)
    replace jX := ((hA.blk jX (by omega)).alloc (.cells #[.int .i64 m.gr, .int .i64 m.la, (Value.slice vb m.n vbcap), .int .i64 m.m0, .int .i64 m.m1, .int .i64 m.so, .int .i64 m.h0, .int .i64 m.h1] 26)).alloc (.cells #[.int .i64 y.b0, .int .i64 y.b1, .int .i64 y.w0, .int .i64 y.w1, .int .i64 y.q0, .int .i64 y.q1, .int .i64 y.s0, .int .i64 y.s1] 28)
    have jM := (Blk.new w3 #[.int .i64 m.gr, .int .i64 m.la, (Value.slice vb m.n vbcap), .int .i64 m.m0, .int .i64 m.m1, .int .i64 m.so, .int .i64 m.h0, .int .i64 m.h1] 26).alloc (.cells #[.int .i64 y.b0, .int .i64 y.b1, .int .i64 y.w0, .int .i64 y.w1, .int .i64 y.q0, .int .i64 y.q1, .int .i64 y.s0, .int .i64 y.s1] 28)
    have jY := Blk.new1 w3 (.cells #[.int .i64 m.gr, .int .i64 m.la, (Value.slice vb m.n vbcap), .int .i64 m.m0, .int .i64 m.m1, .int .i64 m.so, .int .i64 m.h0, .int .i64 m.h1] 26) #[.int .i64 y.b0, .int .i64 y.b1, .int .i64 y.w0, .int .i64 y.w1, .int .i64 y.q0, .int .i64 y.q1, .int .i64 y.s0, .int .i64 y.s1] 28
    have zA := hA.2.size
    replace hR := (hR.alloc (.cells #[.int .i64 m.gr, .int .i64 m.la, (Value.slice vb m.n vbcap), .int .i64 m.m0, .int .i64 m.m1, .int .i64 m.so, .int .i64 m.h0, .int .i64 m.h1] 26)).alloc (.cells #[.int .i64 y.b0, .int .i64 y.b1, .int .i64 y.w0, .int .i64 y.w1, .int .i64 y.q0, .int .i64 y.q1, .int .i64 y.s0, .int .i64 y.s1] 28)
    replace hA := (hA.new (.cells #[.int .i64 m.gr, .int .i64 m.la, (Value.slice vb m.n vbcap), .int .i64 m.m0, .int .i64 m.m1, .int .i64 m.so, .int .i64 m.h0, .int .i64 m.h1] 26)).new (.cells #[.int .i64 y.b0, .int .i64 y.b1, .int .i64 y.w0, .int .i64 y.w1, .int .i64 y.q0, .int .i64 y.q1, .int .i64 y.s0, .int .i64 y.s1] 28)
    go_wp2_with fail
    refine (yes_in 2 bs _ hA.seed (by decide)).mono ?_
    rintro e w4 ⟨fr, rfl, hd⟩
    obtain ⟨bM, hbM⟩ : ∃ b, w3.heap.size = b := ⟨_, rfl⟩
    rw [hbM] at zA jM jY
    (try rw [hbM])
    clear hbM
    replace jL := hd.blk jL (by omega)
    replace jX := hd.blk jX (by omega)
    replace jM := hd.blk jM (by omega)
    replace jY := hd.blk jY (by omega)
    replace hR := hd.row hR (by omega)
    replace hA := hA.trans hd
    clear hd
    go_wp2_with fail
    refine (daysof_in 7 (by decide) (by decide) fr bs _ hA.seed).mono ?_
    rintro e w5 ⟨v2, n2, d2, rfl, hn2, hdk, hD, hd⟩
    replace jL := hd.blk jL (by omega)
    replace jX := hd.blk jX (by omega)
    replace jM := hd.blk jM (by omega)
    replace jY := hd.blk jY (by omega)
    replace hR := hd.row hR (by omega)
    replace hA := hA.trans hd
    clear hd hdk
    go_wp2_with fail
    refine (below_in 200 bs _ hA.seed (by decide)).mono ?_
    rintro e w6 ⟨g0, rfl, _, _, hd⟩
    replace jL := hd.blk jL (by omega)
    replace jX := hd.blk jX (by omega)
    replace jM := hd.blk jM (by omega)
    replace jY := hd.blk jY (by omega)
    replace hR := hd.row hR (by omega)
    replace hD := hd.row hD (by omega)
    replace hA := hA.trans hd
    clear hd
    have hAs := hA.seed
    have zwbs := HB.out.1
    have jB := Drawn.below HB.out.2 hA HB.out.1
    have zM := jM.lt
    have zB6 := jB.size
    have zs6 : bs < w6.heap.size := hAs.choose_spec.lt
    clear hA hS
    obtain ⟨d3, hd3⟩ : ∃ d3, updD d2 n2 (Dy.mk g0 200 0 0 0 false) = d3 := ⟨_, rfl⟩
    have HD3 := Lib.hid hd3
    clear hd3
    have HH := Lib.hid (And.intro (jL.alloc (.cells #[.int .i64 g0, .int .i64 200, .int .i64 0, .int .i64 0, .int .i64 0, .bool false] 58)) (And.intro (jX.alloc (.cells #[.int .i64 g0, .int .i64 200, .int .i64 0, .int .i64 0, .int .i64 0, .bool false] 58)) (And.intro (jM.alloc (.cells #[.int .i64 g0, .int .i64 200, .int .i64 0, .int .i64 0, .int .i64 0, .bool false] 58)) (And.intro (jY.alloc (.cells #[.int .i64 g0, .int .i64 200, .int .i64 0, .int .i64 0, .int .i64 0, .bool false] 58)) (And.intro (hR.alloc (.cells #[.int .i64 g0, .int .i64 200, .int .i64 0, .int .i64 0, .int .i64 0, .bool false] 58)) (And.intro (show SeedAt bs _ from hAs.imp fun _ h => h.alloc (.cells #[.int .i64 g0, .int .i64 200, .int .i64 0, .int .i64 0, .int .i64 0, .bool false] 58)) (bwA jB (Nat.le_refl _) (.cells #[.int .i64 g0, .int .i64 200, .int .i64 0, .int .i64 0, .int .i64 0, .bool false] 58))))))))
    have HDr := Lib.hid (hD.alloc (.cells #[.int .i64 g0, .int .i64 200, .int .i64 0, .int .i64 0, .int .i64 0, .bool false] 58))
    clear jL jX jM jY hR jB hAs
    go_upto_region 6 with (at_builtin; refine wpList_append_own_at _ rfl _ _ 29 rfl (bs + 1) 58 i0 (.agg #[.int .i64 0, .int .i64 0, .int .i64 0, .int .i64 0, .int .i64 0, .bool false]) 6 48 Tryz.underlying29 hi0 hz0 hz1 hz2 rfl (by decide) _ _ _ rfl (hD.alloc _) ⟨w6.heap.size, 0, none⟩ 1 1 (#[.int .i64 g0, .int .i64 200, .int .i64 0, .int .i64 0, .int .i64 0, .bool false] : Array Value).toList rfl rfl (newsF _ _ _) (one6 (Dy.mk g0 200 0 0 0 false)) (by unfold maxLen; omega) (by omega) (by simp; omega) ?_; intro v' w9 hown' hgrow _ _; have hD9 : w9.ownsRow (bs + 1) 58 6 v' (n2 + 1) (daysC d3 (n2 + 1)) := (by rw [← HD3.out, daysC_upd]; exact hown'); have jL := HH.out.1.grown3 hgrow (blk_row_ne2 HH.out.1 HDr.out (by decide)); have jX := HH.out.2.1.grown3 hgrow (blk_row_ne2 HH.out.2.1 HDr.out (by decide)); have jM := HH.out.2.2.1.grown3 hgrow (blk_row_ne2 HH.out.2.2.1 HDr.out (by decide)); have jY := HH.out.2.2.2.1.grown3 hgrow (blk_row_ne2 HH.out.2.2.2.1 HDr.out (by decide)); have hR := row_grown2 HH.out.2.2.2.2.1 HDr.out (by decide) hgrow; have hAs : SeedAt bs w9 := HH.out.2.2.2.2.2.1.imp fun _ h => h.grown3 hgrow (blk_row_ne2 h HDr.out (by decide)); have jB := grownF HH.out.2.2.2.2.2.2 hgrow (fun k e => by have := (HDr.out.lt k e).1; omega) (Nat.le_refl _); obtain ⟨aq, cq, hv2, _, _, _⟩ := daysAt_of_row hD9; subst hv2; clear hown' hgrow hD)
    clear HH HDr HD3
    go_cut [17, 18, 19, 20, 21] (fun s17 s18 s19 s20 s21 wx => ∃ (b1 b2 b3 b4 b5 : Nat) (ls : Nat → Lw × Value) (xs : Nat → Ic) (vs : Nat → Value) (ns : Nat → Nat) (ds : Nat → Nat → Dy) (zs ms : Nat → Int), s17 = .slice (some ⟨b1, 0, none⟩) 3 3 ∧ s18 = .slice (some ⟨b2, 0, none⟩) 3 3 ∧ s19 = .slice (some ⟨b3, 0, none⟩) 3 3 ∧ s20 = .slice (some ⟨b4, 0, none⟩) 3 3 ∧ s21 = .slice (some ⟨b5, 0, none⟩) 3 3 ∧ RLists wx b1 b2 b3 ls xs vs ns ds ∧ (∃ C, IvArr C 3 zs ∧ Blk wx b4 C 3) ∧ (∃ C, IvArr C 3 ms ∧ Blk wx b5 C 3) ∧ Below w.heap.size w wx)
    case first =>
      (
 let S9 : World → Prop := (fun w' => Blk w' bL (fLw l (Value.slice va l.n vcap)) 26 ∧ Blk w' (bL + 1) (fIc x) 28 ∧ Blk w' bM (fLw m (Value.slice vb m.n vbcap)) 26 ∧ Blk w' (bM + 1) (fIc y) 28 ∧ w'.ownsRow (bs + 1) 74 3 (Value.slice vb m.n vbcap) m.n (covC m.D m.P0 m.P1 m.n) ∧ w'.ownsRow (bs + 1) 58 6 (Value.slice aq (n2 + 1) cq) (n2 + 1) (daysC d3 (n2 + 1)) ∧ SeedAt bs w' ∧ Below w.heap.size w w')
 refine wp_region_held_drew (S := S9) (by kernel_rfl) ?_ (fun hH => ?_)
 · (try dsimp only); (exact ⟨jL.drew, jX.drew, jM.drew, jY.drew, hR, hD9, hAs, jB.drew⟩)
 have S9a : ∀ (W : World) (C : Array Value) (t : TypeId), S9 W → S9 (W.alloc (.cells C t)) := fun W C t hH => by (try dsimp only at hH); exact ⟨hH.1.alloc _, hH.2.1.alloc _, hH.2.2.1.alloc _, hH.2.2.2.1.alloc _, hH.2.2.2.2.1.alloc _, hH.2.2.2.2.2.1.alloc _, hH.2.2.2.2.2.2.1.imp fun _ h => h.alloc _, bwA (hH.2.2.2.2.2.2.2) (Nat.le_refl _) _⟩
 have S9b : ∀ (W : World) (C : Array Value) (t : TypeId), S9 W.drew → S9 (W.alloc (.cells C t)).drew := fun W C t hH => by (try dsimp only at hH); exact ⟨hH.1.alloc _, hH.2.1.alloc _, hH.2.2.1.alloc _, hH.2.2.2.1.alloc _, hH.2.2.2.2.1.alloc _, hH.2.2.2.2.2.1.alloc _, hH.2.2.2.2.2.2.1.imp fun _ h => h.alloc _, bwA (hH.2.2.2.2.2.2.2) (Nat.le_refl _) _⟩
 apply share4_VVNNNNN (fun (z1 : Int) (z2 : Int) (bP : Nat) (bQ : Nat) (bR : Nat) (bT : Nat) (bU : Nat) (W : World) => S9 W ∧ Blk W bP (fA1 l m (Value.slice va l.n vcap) (Value.slice vb m.n vbcap)) 26 ∧ Blk W bQ (fA2 x y) 28 ∧ Blk W bR (fA3 (Value.slice da md dcap) (Value.slice aq (n2 + 1) cq)) 29 ∧ Blk W bT #[.int .i64 at_, .int .i64 z1, .int .i64 at_] 3 ∧ Blk W bU #[.int .i64 mo, .int .i64 z2, .int .i64 mo] 3)
 {
 intro X_3_7_11_16_18_21_23
 apply share4_VVNNNN (fun (z1 : Int) (z2 : Int) (bP : Nat) (bQ : Nat) (bR : Nat) (bT : Nat) (W : World) => S9 W ∧ Blk W bP (fA1 l m (Value.slice va l.n vcap) (Value.slice vb m.n vbcap)) 26 ∧ Blk W bQ (fA2 x y) 28 ∧ Blk W bR (fA3 (Value.slice da md dcap) (Value.slice aq (n2 + 1) cq)) 29 ∧ Blk W bT #[.int .i64 at_, .int .i64 z1, .int .i64 at_] 3)
 {
 intro X_3_7_11_16_18_21
 apply share4_VVNNNN (fun (z1 : Int) (z2 : Int) (bP : Nat) (bQ : Nat) (bR : Nat) (bU : Nat) (W : World) => S9 W ∧ Blk W bP (fA1 l m (Value.slice va l.n vcap) (Value.slice vb m.n vbcap)) 26 ∧ Blk W bQ (fA2 x y) 28 ∧ Blk W bR (fA3 (Value.slice da md dcap) (Value.slice aq (n2 + 1) cq)) 29 ∧ Blk W bU #[.int .i64 mo, .int .i64 z2, .int .i64 mo] 3)
 {
 intro X_3_7_11_16_21_23
 apply share4_VVNNNN (fun (z1 : Int) (z2 : Int) (bP : Nat) (bQ : Nat) (bT : Nat) (bU : Nat) (W : World) => S9 W ∧ Blk W bP (fA1 l m (Value.slice va l.n vcap) (Value.slice vb m.n vbcap)) 26 ∧ Blk W bQ (fA2 x y) 28 ∧ Blk W bT #[.int .i64 at_, .int .i64 z1, .int .i64 at_] 3 ∧ Blk W bU #[.int .i64 mo, .int .i64 z2, .int .i64 mo] 3)
 {
 intro X_3_7_16_18_21_23
 apply share4_VVNNNN (fun (z1 : Int) (z2 : Int) (bP : Nat) (bR : Nat) (bT : Nat) (bU : Nat) (W : World) => S9 W ∧ Blk W bP (fA1 l m (Value.slice va l.n vcap) (Value.slice vb m.n vbcap)) 26 ∧ Blk W bR (fA3 (Value.slice da md dcap) (Value.slice aq (n2 + 1) cq)) 29 ∧ Blk W bT #[.int .i64 at_, .int .i64 z1, .int .i64 at_] 3 ∧ Blk W bU #[.int .i64 mo, .int .i64 z2, .int .i64 mo] 3)
 {
 intro X_3_11_16_18_21_23
 apply share4_VVNNNN (fun (z1 : Int) (z2 : Int) (bQ : Nat) (bR : Nat) (bT : Nat) (bU : Nat) (W : World) => S9 W ∧ Blk W bQ (fA2 x y) 28 ∧ Blk W bR (fA3 (Value.slice da md dcap) (Value.slice aq (n2 + 1) cq)) 29 ∧ Blk W bT #[.int .i64 at_, .int .i64 z1, .int .i64 at_] 3 ∧ Blk W bU #[.int .i64 mo, .int .i64 z2, .int .i64 mo] 3)
 {
 intro X_7_11_16_18_21_23
 apply share4_VNNNN (fun (z1 : Int) (bP : Nat) (bQ : Nat) (bR : Nat) (bT : Nat) (W : World) => S9 W ∧ Blk W bP (fA1 l m (Value.slice va l.n vcap) (Value.slice vb m.n vbcap)) 26 ∧ Blk W bQ (fA2 x y) 28 ∧ Blk W bR (fA3 (Value.slice da md dcap) (Value.slice aq (n2 + 1) cq)) 29 ∧ Blk W bT #[.int .i64 at_, .int .i64 z1, .int .i64 at_] 3)
 {
 intro X_3_7_11_16_18
 apply share4_VVNNN (fun (z1 : Int) (z2 : Int) (bP : Nat) (bQ : Nat) (bR : Nat) (W : World) => S9 W ∧ Blk W bP (fA1 l m (Value.slice va l.n vcap) (Value.slice vb m.n vbcap)) 26 ∧ Blk W bQ (fA2 x y) 28 ∧ Blk W bR (fA3 (Value.slice da md dcap) (Value.slice aq (n2 + 1) cq)) 29)
 {
 intro X_3_7_11_16_21
 apply share4_VVNNN (fun (z1 : Int) (z2 : Int) (bP : Nat) (bQ : Nat) (bT : Nat) (W : World) => S9 W ∧ Blk W bP (fA1 l m (Value.slice va l.n vcap) (Value.slice vb m.n vbcap)) 26 ∧ Blk W bQ (fA2 x y) 28 ∧ Blk W bT #[.int .i64 at_, .int .i64 z1, .int .i64 at_] 3)
 {
 intro X_3_7_16_18_21
 apply share4_VVNNN (fun (z1 : Int) (z2 : Int) (bP : Nat) (bQ : Nat) (bU : Nat) (W : World) => S9 W ∧ Blk W bP (fA1 l m (Value.slice va l.n vcap) (Value.slice vb m.n vbcap)) 26 ∧ Blk W bQ (fA2 x y) 28 ∧ Blk W bU #[.int .i64 mo, .int .i64 z2, .int .i64 mo] 3)
 {
 intro X_3_7_16_21_23
 apply share4_VVNNN (fun (z1 : Int) (z2 : Int) (bP : Nat) (bR : Nat) (bT : Nat) (W : World) => S9 W ∧ Blk W bP (fA1 l m (Value.slice va l.n vcap) (Value.slice vb m.n vbcap)) 26 ∧ Blk W bR (fA3 (Value.slice da md dcap) (Value.slice aq (n2 + 1) cq)) 29 ∧ Blk W bT #[.int .i64 at_, .int .i64 z1, .int .i64 at_] 3)
 {
 intro X_3_11_16_18_21
 apply share4_VVNNN (fun (z1 : Int) (z2 : Int) (bP : Nat) (bR : Nat) (bU : Nat) (W : World) => S9 W ∧ Blk W bP (fA1 l m (Value.slice va l.n vcap) (Value.slice vb m.n vbcap)) 26 ∧ Blk W bR (fA3 (Value.slice da md dcap) (Value.slice aq (n2 + 1) cq)) 29 ∧ Blk W bU #[.int .i64 mo, .int .i64 z2, .int .i64 mo] 3)
 {
 intro X_3_11_16_21_23
 apply share4_VVNNN (fun (z1 : Int) (z2 : Int) (bP : Nat) (bT : Nat) (bU : Nat) (W : World) => S9 W ∧ Blk W bP (fA1 l m (Value.slice va l.n vcap) (Value.slice vb m.n vbcap)) 26 ∧ Blk W bT #[.int .i64 at_, .int .i64 z1, .int .i64 at_] 3 ∧ Blk W bU #[.int .i64 mo, .int .i64 z2, .int .i64 mo] 3)
 {
 intro X_3_16_18_21_23
 apply share4_VVNNN (fun (z1 : Int) (z2 : Int) (bQ : Nat) (bR : Nat) (bT : Nat) (W : World) => S9 W ∧ Blk W bQ (fA2 x y) 28 ∧ Blk W bR (fA3 (Value.slice da md dcap) (Value.slice aq (n2 + 1) cq)) 29 ∧ Blk W bT #[.int .i64 at_, .int .i64 z1, .int .i64 at_] 3)
 {
 intro X_7_11_16_18_21
 apply share4_VVNNN (fun (z1 : Int) (z2 : Int) (bQ : Nat) (bR : Nat) (bU : Nat) (W : World) => S9 W ∧ Blk W bQ (fA2 x y) 28 ∧ Blk W bR (fA3 (Value.slice da md dcap) (Value.slice aq (n2 + 1) cq)) 29 ∧ Blk W bU #[.int .i64 mo, .int .i64 z2, .int .i64 mo] 3)
 {
 intro X_7_11_16_21_23
 apply share4_VVNNN (fun (z1 : Int) (z2 : Int) (bQ : Nat) (bT : Nat) (bU : Nat) (W : World) => S9 W ∧ Blk W bQ (fA2 x y) 28 ∧ Blk W bT #[.int .i64 at_, .int .i64 z1, .int .i64 at_] 3 ∧ Blk W bU #[.int .i64 mo, .int .i64 z2, .int .i64 mo] 3)
 {
 intro X_7_16_18_21_23
 apply share4_VVNNN (fun (z1 : Int) (z2 : Int) (bR : Nat) (bT : Nat) (bU : Nat) (W : World) => S9 W ∧ Blk W bR (fA3 (Value.slice da md dcap) (Value.slice aq (n2 + 1) cq)) 29 ∧ Blk W bT #[.int .i64 at_, .int .i64 z1, .int .i64 at_] 3 ∧ Blk W bU #[.int .i64 mo, .int .i64 z2, .int .i64 mo] 3)
 {
 intro X_11_16_18_21_23
 apply share4_VNNN (fun (z1 : Int) (bP : Nat) (bQ : Nat) (bR : Nat) (W : World) => S9 W ∧ Blk W bP (fA1 l m (Value.slice va l.n vcap) (Value.slice vb m.n vbcap)) 26 ∧ Blk W bQ (fA2 x y) 28 ∧ Blk W bR (fA3 (Value.slice da md dcap) (Value.slice aq (n2 + 1) cq)) 29)
 {
 intro X_3_7_11_16
 apply share4_VNNN (fun (z1 : Int) (bP : Nat) (bQ : Nat) (bT : Nat) (W : World) => S9 W ∧ Blk W bP (fA1 l m (Value.slice va l.n vcap) (Value.slice vb m.n vbcap)) 26 ∧ Blk W bQ (fA2 x y) 28 ∧ Blk W bT #[.int .i64 at_, .int .i64 z1, .int .i64 at_] 3)
 {
 intro X_3_7_16_18
 apply share4_VVNN (fun (z1 : Int) (z2 : Int) (bP : Nat) (bQ : Nat) (W : World) => S9 W ∧ Blk W bP (fA1 l m (Value.slice va l.n vcap) (Value.slice vb m.n vbcap)) 26 ∧ Blk W bQ (fA2 x y) 28)
 {
 intro X_3_7_16_21
 apply share4_VNNN (fun (z1 : Int) (bP : Nat) (bR : Nat) (bT : Nat) (W : World) => S9 W ∧ Blk W bP (fA1 l m (Value.slice va l.n vcap) (Value.slice vb m.n vbcap)) 26 ∧ Blk W bR (fA3 (Value.slice da md dcap) (Value.slice aq (n2 + 1) cq)) 29 ∧ Blk W bT #[.int .i64 at_, .int .i64 z1, .int .i64 at_] 3)
 {
 intro X_3_11_16_18
 apply share4_VVNN (fun (z1 : Int) (z2 : Int) (bP : Nat) (bR : Nat) (W : World) => S9 W ∧ Blk W bP (fA1 l m (Value.slice va l.n vcap) (Value.slice vb m.n vbcap)) 26 ∧ Blk W bR (fA3 (Value.slice da md dcap) (Value.slice aq (n2 + 1) cq)) 29)
 {
 intro X_3_11_16_21
 apply share4_VVNN (fun (z1 : Int) (z2 : Int) (bP : Nat) (bT : Nat) (W : World) => S9 W ∧ Blk W bP (fA1 l m (Value.slice va l.n vcap) (Value.slice vb m.n vbcap)) 26 ∧ Blk W bT #[.int .i64 at_, .int .i64 z1, .int .i64 at_] 3)
 {
 intro X_3_16_18_21
 apply share4_VVNN (fun (z1 : Int) (z2 : Int) (bP : Nat) (bU : Nat) (W : World) => S9 W ∧ Blk W bP (fA1 l m (Value.slice va l.n vcap) (Value.slice vb m.n vbcap)) 26 ∧ Blk W bU #[.int .i64 mo, .int .i64 z2, .int .i64 mo] 3)
 {
 intro X_3_16_21_23
 apply share4_VNNN (fun (z1 : Int) (bQ : Nat) (bR : Nat) (bT : Nat) (W : World) => S9 W ∧ Blk W bQ (fA2 x y) 28 ∧ Blk W bR (fA3 (Value.slice da md dcap) (Value.slice aq (n2 + 1) cq)) 29 ∧ Blk W bT #[.int .i64 at_, .int .i64 z1, .int .i64 at_] 3)
 {
 intro X_7_11_16_18
 apply share4_VVNN (fun (z1 : Int) (z2 : Int) (bQ : Nat) (bR : Nat) (W : World) => S9 W ∧ Blk W bQ (fA2 x y) 28 ∧ Blk W bR (fA3 (Value.slice da md dcap) (Value.slice aq (n2 + 1) cq)) 29)
 {
 intro X_7_11_16_21
 apply share4_VVNN (fun (z1 : Int) (z2 : Int) (bQ : Nat) (bT : Nat) (W : World) => S9 W ∧ Blk W bQ (fA2 x y) 28 ∧ Blk W bT #[.int .i64 at_, .int .i64 z1, .int .i64 at_] 3)
 {
 intro X_7_16_18_21
 apply share4_VVNN (fun (z1 : Int) (z2 : Int) (bQ : Nat) (bU : Nat) (W : World) => S9 W ∧ Blk W bQ (fA2 x y) 28 ∧ Blk W bU #[.int .i64 mo, .int .i64 z2, .int .i64 mo] 3)
 {
 intro X_7_16_21_23
 apply share4_VVNN (fun (z1 : Int) (z2 : Int) (bR : Nat) (bT : Nat) (W : World) => S9 W ∧ Blk W bR (fA3 (Value.slice da md dcap) (Value.slice aq (n2 + 1) cq)) 29 ∧ Blk W bT #[.int .i64 at_, .int .i64 z1, .int .i64 at_] 3)
 {
 intro X_11_16_18_21
 apply share4_VVNN (fun (z1 : Int) (z2 : Int) (bR : Nat) (bU : Nat) (W : World) => S9 W ∧ Blk W bR (fA3 (Value.slice da md dcap) (Value.slice aq (n2 + 1) cq)) 29 ∧ Blk W bU #[.int .i64 mo, .int .i64 z2, .int .i64 mo] 3)
 {
 intro X_11_16_21_23
 apply share4_VVNN (fun (z1 : Int) (z2 : Int) (bT : Nat) (bU : Nat) (W : World) => S9 W ∧ Blk W bT #[.int .i64 at_, .int .i64 z1, .int .i64 at_] 3 ∧ Blk W bU #[.int .i64 mo, .int .i64 z2, .int .i64 mo] 3)
 {
 intro X_16_18_21_23
 apply share4_NNN (fun (bP : Nat) (bQ : Nat) (bR : Nat) (W : World) => S9 W ∧ Blk W bP (fA1 l m (Value.slice va l.n vcap) (Value.slice vb m.n vbcap)) 26 ∧ Blk W bQ (fA2 x y) 28 ∧ Blk W bR (fA3 (Value.slice da md dcap) (Value.slice aq (n2 + 1) cq)) 29)
 {
 intro X_3_7_11
 apply share4_VNN (fun (z1 : Int) (bP : Nat) (bQ : Nat) (W : World) => S9 W ∧ Blk W bP (fA1 l m (Value.slice va l.n vcap) (Value.slice vb m.n vbcap)) 26 ∧ Blk W bQ (fA2 x y) 28)
 {
 intro X_3_7_16
 apply share4_VNN (fun (z1 : Int) (bP : Nat) (bR : Nat) (W : World) => S9 W ∧ Blk W bP (fA1 l m (Value.slice va l.n vcap) (Value.slice vb m.n vbcap)) 26 ∧ Blk W bR (fA3 (Value.slice da md dcap) (Value.slice aq (n2 + 1) cq)) 29)
 {
 intro X_3_11_16
 apply share4_VNN (fun (z1 : Int) (bP : Nat) (bT : Nat) (W : World) => S9 W ∧ Blk W bP (fA1 l m (Value.slice va l.n vcap) (Value.slice vb m.n vbcap)) 26 ∧ Blk W bT #[.int .i64 at_, .int .i64 z1, .int .i64 at_] 3)
 {
 intro X_3_16_18
 apply share4_VVN (fun (z1 : Int) (z2 : Int) (bP : Nat) (W : World) => S9 W ∧ Blk W bP (fA1 l m (Value.slice va l.n vcap) (Value.slice vb m.n vbcap)) 26)
 {
 intro X_3_16_21
 apply share4_VNN (fun (z1 : Int) (bQ : Nat) (bR : Nat) (W : World) => S9 W ∧ Blk W bQ (fA2 x y) 28 ∧ Blk W bR (fA3 (Value.slice da md dcap) (Value.slice aq (n2 + 1) cq)) 29)
 {
 intro X_7_11_16
 apply share4_VNN (fun (z1 : Int) (bQ : Nat) (bT : Nat) (W : World) => S9 W ∧ Blk W bQ (fA2 x y) 28 ∧ Blk W bT #[.int .i64 at_, .int .i64 z1, .int .i64 at_] 3)
 {
 intro X_7_16_18
 apply share4_VVN (fun (z1 : Int) (z2 : Int) (bQ : Nat) (W : World) => S9 W ∧ Blk W bQ (fA2 x y) 28)
 {
 intro X_7_16_21
 apply share4_VNN (fun (z1 : Int) (bR : Nat) (bT : Nat) (W : World) => S9 W ∧ Blk W bR (fA3 (Value.slice da md dcap) (Value.slice aq (n2 + 1) cq)) 29 ∧ Blk W bT #[.int .i64 at_, .int .i64 z1, .int .i64 at_] 3)
 {
 intro X_11_16_18
 apply share4_VVN (fun (z1 : Int) (z2 : Int) (bR : Nat) (W : World) => S9 W ∧ Blk W bR (fA3 (Value.slice da md dcap) (Value.slice aq (n2 + 1) cq)) 29)
 {
 intro X_11_16_21
 apply share4_VVN (fun (z1 : Int) (z2 : Int) (bT : Nat) (W : World) => S9 W ∧ Blk W bT #[.int .i64 at_, .int .i64 z1, .int .i64 at_] 3)
 {
 intro X_16_18_21
 apply share4_VVN (fun (z1 : Int) (z2 : Int) (bU : Nat) (W : World) => S9 W ∧ Blk W bU #[.int .i64 mo, .int .i64 z2, .int .i64 mo] 3)
 {
 intro X_16_21_23
 apply share4_NN (fun (bP : Nat) (bQ : Nat) (W : World) => S9 W ∧ Blk W bP (fA1 l m (Value.slice va l.n vcap) (Value.slice vb m.n vbcap)) 26 ∧ Blk W bQ (fA2 x y) 28)
 {
 intro X_3_7
 apply share4_NN (fun (bP : Nat) (bR : Nat) (W : World) => S9 W ∧ Blk W bP (fA1 l m (Value.slice va l.n vcap) (Value.slice vb m.n vbcap)) 26 ∧ Blk W bR (fA3 (Value.slice da md dcap) (Value.slice aq (n2 + 1) cq)) 29)
 {
 intro X_3_11
 apply share4_VN (fun (z1 : Int) (bP : Nat) (W : World) => S9 W ∧ Blk W bP (fA1 l m (Value.slice va l.n vcap) (Value.slice vb m.n vbcap)) 26)
 {
 intro X_3_16
 apply share4_NN (fun (bQ : Nat) (bR : Nat) (W : World) => S9 W ∧ Blk W bQ (fA2 x y) 28 ∧ Blk W bR (fA3 (Value.slice da md dcap) (Value.slice aq (n2 + 1) cq)) 29)
 {
 intro X_7_11
 apply share4_VN (fun (z1 : Int) (bQ : Nat) (W : World) => S9 W ∧ Blk W bQ (fA2 x y) 28)
 {
 intro X_7_16
 apply share4_VN (fun (z1 : Int) (bR : Nat) (W : World) => S9 W ∧ Blk W bR (fA3 (Value.slice da md dcap) (Value.slice aq (n2 + 1) cq)) 29)
 {
 intro X_11_16
 apply share4_VN (fun (z1 : Int) (bT : Nat) (W : World) => S9 W ∧ Blk W bT #[.int .i64 at_, .int .i64 z1, .int .i64 at_] 3)
 {
 intro X_16_18
 apply share4_VV (fun (z1 : Int) (z2 : Int) (W : World) => S9 W)
 {
 intro X_16_21
 apply share4_N (fun (bP : Nat) (W : World) => S9 W ∧ Blk W bP (fA1 l m (Value.slice va l.n vcap) (Value.slice vb m.n vbcap)) 26)
 {
 intro X_3
 apply share4_N (fun (bQ : Nat) (W : World) => S9 W ∧ Blk W bQ (fA2 x y) 28)
 {
 intro X_7
 apply share4_N (fun (bR : Nat) (W : World) => S9 W ∧ Blk W bR (fA3 (Value.slice da md dcap) (Value.slice aq (n2 + 1) cq)) 29)
 {
 intro X_11
 apply share4_V (fun (z1 : Int) (W : World) => S9 W)
 {
 intro X_16
 refine tkY 0 (some 58) ?_ ?_ ?_
 rotate_left
 · intro w hS0; (try dsimp only at hS0); obtain ⟨k1, k2, k3, k4, _⟩ := hS0; obtain ⟨l0, l1, l2, l3, l4, l5, l6, l7⟩ := k1.c8; obtain ⟨a0, a1, a2, a3, a4, a5, a6, a7⟩ := k2.c8; obtain ⟨m0, m1, m2, m3, m4, m5, m6, m7⟩ := k3.c8; obtain ⟨c0, c1, c2, c3, c4, c5, c6, c7⟩ := k4.c8; have y1 := k1.lt; have y2 := k2.lt; have y3 := k3.lt; have y4 := k4.lt;go_simp; (try with_reducible rfl)
 (try simp only [cq])
 refine tkY 1 (some 59) ?_ ?_ ?_
 rotate_left
 · intro w hS0; (try dsimp only at hS0); obtain ⟨k1, k2, k3, k4, _⟩ := hS0; obtain ⟨l0, l1, l2, l3, l4, l5, l6, l7⟩ := k1.c8; obtain ⟨a0, a1, a2, a3, a4, a5, a6, a7⟩ := k2.c8; obtain ⟨m0, m1, m2, m3, m4, m5, m6, m7⟩ := k3.c8; obtain ⟨c0, c1, c2, c3, c4, c5, c6, c7⟩ := k4.c8; have y1 := k1.lt; have y2 := k2.lt; have y3 := k3.lt; have y4 := k4.lt;go_simp; (try with_reducible rfl)
 (try simp only [cq])
 refine tkY 2 (some 60) ?_ ?_ ?_
 rotate_left
 · intro w hS0; (try dsimp only at hS0); obtain ⟨k1, k2, k3, k4, _⟩ := hS0; obtain ⟨l0, l1, l2, l3, l4, l5, l6, l7⟩ := k1.c8; obtain ⟨a0, a1, a2, a3, a4, a5, a6, a7⟩ := k2.c8; obtain ⟨m0, m1, m2, m3, m4, m5, m6, m7⟩ := k3.c8; obtain ⟨c0, c1, c2, c3, c4, c5, c6, c7⟩ := k4.c8; have y1 := k1.lt; have y2 := k2.lt; have y3 := k3.lt; have y4 := k4.lt;go_simp; (try with_reducible rfl)
 (try simp only [cq])
 refine tkY 4 (some 62) ?_ ?_ ?_
 rotate_left
 · intro w hS0; (try dsimp only at hS0); obtain ⟨k1, k2, k3, k4, _⟩ := hS0; obtain ⟨l0, l1, l2, l3, l4, l5, l6, l7⟩ := k1.c8; obtain ⟨a0, a1, a2, a3, a4, a5, a6, a7⟩ := k2.c8; obtain ⟨m0, m1, m2, m3, m4, m5, m6, m7⟩ := k3.c8; obtain ⟨c0, c1, c2, c3, c4, c5, c6, c7⟩ := k4.c8; have y1 := k1.lt; have y2 := k2.lt; have y3 := k3.lt; have y4 := k4.lt;go_simp; (try with_reducible rfl)
 (try simp only [cq])
 refine tkY 5 (some 63) ?_ ?_ ?_
 rotate_left
 · intro w hS0; (try dsimp only at hS0); obtain ⟨k1, k2, k3, k4, _⟩ := hS0; obtain ⟨l0, l1, l2, l3, l4, l5, l6, l7⟩ := k1.c8; obtain ⟨a0, a1, a2, a3, a4, a5, a6, a7⟩ := k2.c8; obtain ⟨m0, m1, m2, m3, m4, m5, m6, m7⟩ := k3.c8; obtain ⟨c0, c1, c2, c3, c4, c5, c6, c7⟩ := k4.c8; have y1 := k1.lt; have y2 := k2.lt; have y3 := k3.lt; have y4 := k4.lt;go_simp; (try with_reducible rfl)
 (try simp only [cq])
 refine tkY 6 (some 64) ?_ ?_ ?_
 rotate_left
 · intro w hS0; (try dsimp only at hS0); obtain ⟨k1, k2, k3, k4, _⟩ := hS0; obtain ⟨l0, l1, l2, l3, l4, l5, l6, l7⟩ := k1.c8; obtain ⟨a0, a1, a2, a3, a4, a5, a6, a7⟩ := k2.c8; obtain ⟨m0, m1, m2, m3, m4, m5, m6, m7⟩ := k3.c8; obtain ⟨c0, c1, c2, c3, c4, c5, c6, c7⟩ := k4.c8; have y1 := k1.lt; have y2 := k2.lt; have y3 := k3.lt; have y4 := k4.lt;go_simp; (try with_reducible rfl)
 (try simp only [cq])
 refine tkY 8 (some 66) ?_ ?_ ?_
 rotate_left
 · intro w _; go_simp; (try with_reducible rfl)
 (try simp only [cq])
 refine tkY 9 (some 67) ?_ ?_ ?_
 rotate_left
 · intro w _; go_simp; (try with_reducible rfl)
 (try simp only [cq])
 refine tkY 10 (some 68) ?_ ?_ ?_
 rotate_left
 · intro w _; go_simp; (try with_reducible rfl)
 (try simp only [cq])
 refine tkY 12 (some 70) ?_ ?_ ?_
 rotate_left
 · intro w _; go_simp; (try with_reducible rfl)
 (try simp only [cq])
 refine tkY 13 (some 71) ?_ ?_ ?_
 rotate_left
 · intro w _; go_simp; (try with_reducible rfl)
 (try simp only [cq])
 refine tkY 14 (some 72) ?_ ?_ ?_
 rotate_left
 · intro w _; go_simp; (try with_reducible rfl)
 (try simp only [cq])
 refine tkY 15 (some 73) ?_ ?_ ?_
 rotate_left
 · intro w hS0; (try dsimp only at hS0); obtain ⟨k1, k2, k3, k4, _⟩ := hS0; obtain ⟨l0, l1, l2, l3, l4, l5, l6, l7⟩ := k1.c8; obtain ⟨a0, a1, a2, a3, a4, a5, a6, a7⟩ := k2.c8; obtain ⟨m0, m1, m2, m3, m4, m5, m6, m7⟩ := k3.c8; obtain ⟨c0, c1, c2, c3, c4, c5, c6, c7⟩ := k4.c8; have y1 := k1.lt; have y2 := k2.lt; have y3 := k3.lt; have y4 := k4.lt;go_simp; (try with_reducible rfl)
 (try simp only [cq])
 refine tkY 17 (some 75) ?_ ?_ ?_
 rotate_left
 · intro w _; go_simp; (try with_reducible rfl)
 (try simp only [cq])
 refine tkY 19 (some 77) ?_ ?_ ?_
 rotate_left
 · intro w _; go_simp; (try with_reducible rfl)
 (try simp only [cq])
 refine tkY 20 (some 78) ?_ ?_ ?_
 rotate_left
 · intro w _; go_simp; (try with_reducible rfl)
 (try simp only [cq])
 refine tkY 22 (some 80) ?_ ?_ ?_
 rotate_left
 · intro w _; go_simp; (try with_reducible rfl)
 (try simp only [cq])
 refine wpAnyH_ready (rs := [3, 7, 11, 16]) (by kernel_rfl) (by simp) ?_
 refine arc (some 61) (fun K hK => ?_) ?_
 {
 go_simp
 first | refine oD hK (S9b _ _ _ hH) fun hH hA => ?_ | refine oA hK (S9a _ _ _ hH) fun hH hA => ?_
 clear hK K
 (try simp only [cq])
 obtain ⟨bP, hbA⟩ : ∃ b, Blk.num hA = b := ⟨_, rfl⟩
 obtain ⟨W, hW⟩ : ∃ V, Blk.wld hA = V := ⟨_, rfl⟩
 simp only [Blk.num] at hbA
 simp only [Blk.wld] at hW
 rw [hW] at hH hA ⊢
 rw [hbA] at hA ⊢
 clear hW hbA
 have hAbP := hA
 clear hA
 exact X_3 bP W ⟨hH, hAbP⟩
 }
 refine arc (some 65) (fun K hK => ?_) ?_
 {
 go_simp
 first | refine oD hK (S9b _ _ _ hH) fun hH hA => ?_ | refine oA hK (S9a _ _ _ hH) fun hH hA => ?_
 clear hK K
 (try simp only [cq])
 obtain ⟨bQ, hbA⟩ : ∃ b, Blk.num hA = b := ⟨_, rfl⟩
 obtain ⟨W, hW⟩ : ∃ V, Blk.wld hA = V := ⟨_, rfl⟩
 simp only [Blk.num] at hbA
 simp only [Blk.wld] at hW
 rw [hW] at hH hA ⊢
 rw [hbA] at hA ⊢
 clear hW hbA
 have hAbQ := hA
 clear hA
 exact X_7 bQ W ⟨hH, hAbQ⟩
 }
 refine arc (some 69) (fun K hK => ?_) ?_
 {
 go_simp
 first | refine oD hK (S9b _ _ _ hH) fun hH hA => ?_ | refine oA hK (S9a _ _ _ hH) fun hH hA => ?_
 clear hK K
 (try simp only [cq])
 obtain ⟨bR, hbA⟩ : ∃ b, Blk.num hA = b := ⟨_, rfl⟩
 obtain ⟨W, hW⟩ : ∃ V, Blk.wld hA = V := ⟨_, rfl⟩
 simp only [Blk.num] at hbA
 simp only [Blk.wld] at hW
 rw [hW] at hH hA ⊢
 rw [hbA] at hA ⊢
 clear hW hbA
 have hAbR := hA
 clear hA
 exact X_11 bR W ⟨hH, hAbR⟩
 }
 refine arc (some 74) (fun K hK => ?_) ?_
 {
 go_simp
 (refine (from_in _ _ bs _ (hH.2.2.2.2.2.2.1) (by decide) (by omega) (by decide) (by omega)).mono ?_; rintro e w' ⟨z1, rfl, _, _, hd⟩)
 refine hK.out _ _ ?_ ?_
 · (exact ⟨hd.blk hH.1 (by omega), hd.blk (hH.2.1) (by omega), hd.blk (hH.2.2.1) (by omega), hd.blk (hH.2.2.2.1) (by omega), hd.row (hH.2.2.2.2.1) (by omega), hd.row (hH.2.2.2.2.2.1) (by omega), hd.seed, Drawn.below (hH.2.2.2.2.2.2.2) hd zwbs⟩)
 (try clear hH); (try clear hd)
 intro hH
 clear hK K
 (try simp only [cq])
 exact X_16 z1 w' hH
 }
 exact AllReadyH.nil
 }
 {
 (try clear hH)
 intro z1 W hall
 have hH := hall
 (try dsimp only at hH)
 refine wpAnyH_ready (rs := [3, 7, 11, 18, 21]) (by kernel_rfl) (by simp) ?_
 refine arc (some 61) (fun K hK => ?_) ?_
 {
 go_simp
 first | refine oD hK (S9b _ _ _ hH) fun hH hA => ?_ | refine oA hK (S9a _ _ _ hH) fun hH hA => ?_
 clear hK K
 (try simp only [cq])
 obtain ⟨bP, hbA⟩ : ∃ b, Blk.num hA = b := ⟨_, rfl⟩
 obtain ⟨W, hW⟩ : ∃ V, Blk.wld hA = V := ⟨_, rfl⟩
 simp only [Blk.num] at hbA
 simp only [Blk.wld] at hW
 rw [hW] at hH hA ⊢
 rw [hbA] at hA ⊢
 clear hW hbA
 have hAbP := hA
 clear hA
 exact X_3_16 z1 bP W ⟨hH, hAbP⟩
 }
 refine arc (some 65) (fun K hK => ?_) ?_
 {
 go_simp
 first | refine oD hK (S9b _ _ _ hH) fun hH hA => ?_ | refine oA hK (S9a _ _ _ hH) fun hH hA => ?_
 clear hK K
 (try simp only [cq])
 obtain ⟨bQ, hbA⟩ : ∃ b, Blk.num hA = b := ⟨_, rfl⟩
 obtain ⟨W, hW⟩ : ∃ V, Blk.wld hA = V := ⟨_, rfl⟩
 simp only [Blk.num] at hbA
 simp only [Blk.wld] at hW
 rw [hW] at hH hA ⊢
 rw [hbA] at hA ⊢
 clear hW hbA
 have hAbQ := hA
 clear hA
 exact X_7_16 z1 bQ W ⟨hH, hAbQ⟩
 }
 refine arc (some 69) (fun K hK => ?_) ?_
 {
 go_simp
 first | refine oD hK (S9b _ _ _ hH) fun hH hA => ?_ | refine oA hK (S9a _ _ _ hH) fun hH hA => ?_
 clear hK K
 (try simp only [cq])
 obtain ⟨bR, hbA⟩ : ∃ b, Blk.num hA = b := ⟨_, rfl⟩
 obtain ⟨W, hW⟩ : ∃ V, Blk.wld hA = V := ⟨_, rfl⟩
 simp only [Blk.num] at hbA
 simp only [Blk.wld] at hW
 rw [hW] at hH hA ⊢
 rw [hbA] at hA ⊢
 clear hW hbA
 have hAbR := hA
 clear hA
 exact X_11_16 z1 bR W ⟨hH, hAbR⟩
 }
 refine arc (some 76) (fun K hK => ?_) ?_
 {
 go_simp
 first | refine oD hK (S9b _ _ _ hH) fun hH hA => ?_ | refine oA hK (S9a _ _ _ hH) fun hH hA => ?_
 clear hK K
 (try simp only [cq])
 obtain ⟨bT, hbA⟩ : ∃ b, Blk.num hA = b := ⟨_, rfl⟩
 obtain ⟨W, hW⟩ : ∃ V, Blk.wld hA = V := ⟨_, rfl⟩
 simp only [Blk.num] at hbA
 simp only [Blk.wld] at hW
 rw [hW] at hH hA ⊢
 rw [hbA] at hA ⊢
 clear hW hbA
 have hAbT := hA
 clear hA
 exact X_16_18 z1 bT W ⟨hH, hAbT⟩
 }
 refine arc (some 79) (fun K hK => ?_) ?_
 {
 go_simp
 (refine (below_in _ bs _ (hH.2.2.2.2.2.2.1) (by decide)).mono ?_; rintro e w' ⟨z2, rfl, _, _, hd⟩)
 refine hK.out _ _ ?_ ?_
 · (exact ⟨hd.blk hH.1 (by omega), hd.blk (hH.2.1) (by omega), hd.blk (hH.2.2.1) (by omega), hd.blk (hH.2.2.2.1) (by omega), hd.row (hH.2.2.2.2.1) (by omega), hd.row (hH.2.2.2.2.2.1) (by omega), hd.seed, Drawn.below (hH.2.2.2.2.2.2.2) hd zwbs⟩)
 (try clear hH); (try clear hd)
 intro hH
 clear hK K
 (try simp only [cq])
 exact X_16_21 z1 z2 w' hH
 }
 exact AllReadyH.nil
 }
 }
 {
 (try clear hH)
 intro bR W hall
 obtain ⟨hH, hAbR⟩ := hall
 (try dsimp only at hH)
 refine wpAnyH_ready (rs := [3, 7, 16]) (by kernel_rfl) (by simp) ?_
 refine arc (some 61) (fun K hK => ?_) ?_
 {
 go_simp
 first | refine oD hK (S9b _ _ _ hH) fun hH hA => ?_ | refine oA hK (S9a _ _ _ hH) fun hH hA => ?_
 clear hK K
 (try simp only [cq])
 obtain ⟨bP, hbA⟩ : ∃ b, Blk.num hA = b := ⟨_, rfl⟩
 obtain ⟨W, hW⟩ : ∃ V, Blk.wld hA = V := ⟨_, rfl⟩
 simp only [Blk.num] at hbA
 simp only [Blk.wld] at hW
 first | replace hAbR := awB hW hAbR | replace hAbR := awD hW hAbR
 rw [hW] at hH hA ⊢
 rw [hbA] at hA ⊢
 clear hW hbA
 have hAbP := hA
 clear hA
 exact X_3_11 bP bR W ⟨hH, hAbP, hAbR⟩
 }
 refine arc (some 65) (fun K hK => ?_) ?_
 {
 go_simp
 first | refine oD hK (S9b _ _ _ hH) fun hH hA => ?_ | refine oA hK (S9a _ _ _ hH) fun hH hA => ?_
 clear hK K
 (try simp only [cq])
 obtain ⟨bQ, hbA⟩ : ∃ b, Blk.num hA = b := ⟨_, rfl⟩
 obtain ⟨W, hW⟩ : ∃ V, Blk.wld hA = V := ⟨_, rfl⟩
 simp only [Blk.num] at hbA
 simp only [Blk.wld] at hW
 first | replace hAbR := awB hW hAbR | replace hAbR := awD hW hAbR
 rw [hW] at hH hA ⊢
 rw [hbA] at hA ⊢
 clear hW hbA
 have hAbQ := hA
 clear hA
 exact X_7_11 bQ bR W ⟨hH, hAbQ, hAbR⟩
 }
 refine arc (some 74) (fun K hK => ?_) ?_
 {
 go_simp
 (refine (from_in _ _ bs _ (hH.2.2.2.2.2.2.1) (by decide) (by omega) (by decide) (by omega)).mono ?_; rintro e w' ⟨z1, rfl, _, _, hd⟩)
 (replace hAbR := hd.blk hAbR (blk_seed hAbR (hH.2.2.2.2.2.2.1) (by decide)))
 refine hK.out _ _ ?_ ?_
 · (exact ⟨hd.blk hH.1 (by omega), hd.blk (hH.2.1) (by omega), hd.blk (hH.2.2.1) (by omega), hd.blk (hH.2.2.2.1) (by omega), hd.row (hH.2.2.2.2.1) (by omega), hd.row (hH.2.2.2.2.2.1) (by omega), hd.seed, Drawn.below (hH.2.2.2.2.2.2.2) hd zwbs⟩)
 (try clear hH); (try clear hd)
 intro hH
 clear hK K
 (try simp only [cq])
 exact X_11_16 z1 bR w' ⟨hH, hAbR⟩
 }
 exact AllReadyH.nil
 }
 }
 {
 (try clear hH)
 intro bQ W hall
 obtain ⟨hH, hAbQ⟩ := hall
 (try dsimp only at hH)
 refine wpAnyH_ready (rs := [3, 11, 16]) (by kernel_rfl) (by simp) ?_
 refine arc (some 61) (fun K hK => ?_) ?_
 {
 go_simp
 first | refine oD hK (S9b _ _ _ hH) fun hH hA => ?_ | refine oA hK (S9a _ _ _ hH) fun hH hA => ?_
 clear hK K
 (try simp only [cq])
 obtain ⟨bP, hbA⟩ : ∃ b, Blk.num hA = b := ⟨_, rfl⟩
 obtain ⟨W, hW⟩ : ∃ V, Blk.wld hA = V := ⟨_, rfl⟩
 simp only [Blk.num] at hbA
 simp only [Blk.wld] at hW
 first | replace hAbQ := awB hW hAbQ | replace hAbQ := awD hW hAbQ
 rw [hW] at hH hA ⊢
 rw [hbA] at hA ⊢
 clear hW hbA
 have hAbP := hA
 clear hA
 exact X_3_7 bP bQ W ⟨hH, hAbP, hAbQ⟩
 }
 refine arc (some 69) (fun K hK => ?_) ?_
 {
 go_simp
 first | refine oD hK (S9b _ _ _ hH) fun hH hA => ?_ | refine oA hK (S9a _ _ _ hH) fun hH hA => ?_
 clear hK K
 (try simp only [cq])
 exact X_7_11 bQ _ _ ⟨hH, (hAbQ.alloc _), hA⟩
 }
 refine arc (some 74) (fun K hK => ?_) ?_
 {
 go_simp
 (refine (from_in _ _ bs _ (hH.2.2.2.2.2.2.1) (by decide) (by omega) (by decide) (by omega)).mono ?_; rintro e w' ⟨z1, rfl, _, _, hd⟩)
 (replace hAbQ := hd.blk hAbQ (blk_seed hAbQ (hH.2.2.2.2.2.2.1) (by decide)))
 refine hK.out _ _ ?_ ?_
 · (exact ⟨hd.blk hH.1 (by omega), hd.blk (hH.2.1) (by omega), hd.blk (hH.2.2.1) (by omega), hd.blk (hH.2.2.2.1) (by omega), hd.row (hH.2.2.2.2.1) (by omega), hd.row (hH.2.2.2.2.2.1) (by omega), hd.seed, Drawn.below (hH.2.2.2.2.2.2.2) hd zwbs⟩)
 (try clear hH); (try clear hd)
 intro hH
 clear hK K
 (try simp only [cq])
 exact X_7_16 z1 bQ w' ⟨hH, hAbQ⟩
 }
 exact AllReadyH.nil
 }
 }
 {
 (try clear hH)
 intro bP W hall
 obtain ⟨hH, hAbP⟩ := hall
 (try dsimp only at hH)
 refine wpAnyH_ready (rs := [7, 11, 16]) (by kernel_rfl) (by simp) ?_
 refine arc (some 65) (fun K hK => ?_) ?_
 {
 go_simp
 first | refine oD hK (S9b _ _ _ hH) fun hH hA => ?_ | refine oA hK (S9a _ _ _ hH) fun hH hA => ?_
 clear hK K
 (try simp only [cq])
 exact X_3_7 bP _ _ ⟨hH, (hAbP.alloc _), hA⟩
 }
 refine arc (some 69) (fun K hK => ?_) ?_
 {
 go_simp
 first | refine oD hK (S9b _ _ _ hH) fun hH hA => ?_ | refine oA hK (S9a _ _ _ hH) fun hH hA => ?_
 clear hK K
 (try simp only [cq])
 exact X_3_11 bP _ _ ⟨hH, (hAbP.alloc _), hA⟩
 }
 refine arc (some 74) (fun K hK => ?_) ?_
 {
 go_simp
 (refine (from_in _ _ bs _ (hH.2.2.2.2.2.2.1) (by decide) (by omega) (by decide) (by omega)).mono ?_; rintro e w' ⟨z1, rfl, _, _, hd⟩)
 (replace hAbP := hd.blk hAbP (blk_seed hAbP (hH.2.2.2.2.2.2.1) (by decide)))
 refine hK.out _ _ ?_ ?_
 · (exact ⟨hd.blk hH.1 (by omega), hd.blk (hH.2.1) (by omega), hd.blk (hH.2.2.1) (by omega), hd.blk (hH.2.2.2.1) (by omega), hd.row (hH.2.2.2.2.1) (by omega), hd.row (hH.2.2.2.2.2.1) (by omega), hd.seed, Drawn.below (hH.2.2.2.2.2.2.2) hd zwbs⟩)
 (try clear hH); (try clear hd)
 intro hH
 clear hK K
 (try simp only [cq])
 exact X_3_16 z1 bP w' ⟨hH, hAbP⟩
 }
 exact AllReadyH.nil
 }
 }
 {
 (try clear hH)
 intro z1 z2 W hall
 have hH := hall
 (try dsimp only at hH)
 refine wpAnyH_ready (rs := [3, 7, 11, 18, 23]) (by kernel_rfl) (by simp) ?_
 refine arc (some 61) (fun K hK => ?_) ?_
 {
 go_simp
 first | refine oD hK (S9b _ _ _ hH) fun hH hA => ?_ | refine oA hK (S9a _ _ _ hH) fun hH hA => ?_
 clear hK K
 (try simp only [cq])
 obtain ⟨bP, hbA⟩ : ∃ b, Blk.num hA = b := ⟨_, rfl⟩
 obtain ⟨W, hW⟩ : ∃ V, Blk.wld hA = V := ⟨_, rfl⟩
 simp only [Blk.num] at hbA
 simp only [Blk.wld] at hW
 rw [hW] at hH hA ⊢
 rw [hbA] at hA ⊢
 clear hW hbA
 have hAbP := hA
 clear hA
 refine tkY 24 (some 17) ?_ ?_ ?_
 rotate_left
 · intro w _; go_simp; (try with_reducible rfl)
 (try simp only [cq])
 exact X_3_16_21 z1 z2 bP W ⟨hH, hAbP⟩
 }
 refine arc (some 65) (fun K hK => ?_) ?_
 {
 go_simp
 first | refine oD hK (S9b _ _ _ hH) fun hH hA => ?_ | refine oA hK (S9a _ _ _ hH) fun hH hA => ?_
 clear hK K
 (try simp only [cq])
 obtain ⟨bQ, hbA⟩ : ∃ b, Blk.num hA = b := ⟨_, rfl⟩
 obtain ⟨W, hW⟩ : ∃ V, Blk.wld hA = V := ⟨_, rfl⟩
 simp only [Blk.num] at hbA
 simp only [Blk.wld] at hW
 rw [hW] at hH hA ⊢
 rw [hbA] at hA ⊢
 clear hW hbA
 have hAbQ := hA
 clear hA
 exact X_7_16_21 z1 z2 bQ W ⟨hH, hAbQ⟩
 }
 refine arc (some 69) (fun K hK => ?_) ?_
 {
 go_simp
 first | refine oD hK (S9b _ _ _ hH) fun hH hA => ?_ | refine oA hK (S9a _ _ _ hH) fun hH hA => ?_
 clear hK K
 (try simp only [cq])
 obtain ⟨bR, hbA⟩ : ∃ b, Blk.num hA = b := ⟨_, rfl⟩
 obtain ⟨W, hW⟩ : ∃ V, Blk.wld hA = V := ⟨_, rfl⟩
 simp only [Blk.num] at hbA
 simp only [Blk.wld] at hW
 rw [hW] at hH hA ⊢
 rw [hbA] at hA ⊢
 clear hW hbA
 have hAbR := hA
 clear hA
 exact X_11_16_21 z1 z2 bR W ⟨hH, hAbR⟩
 }
 refine arc (some 76) (fun K hK => ?_) ?_
 {
 go_simp
 first | refine oD hK (S9b _ _ _ hH) fun hH hA => ?_ | refine oA hK (S9a _ _ _ hH) fun hH hA => ?_
 clear hK K
 (try simp only [cq])
 obtain ⟨bT, hbA⟩ : ∃ b, Blk.num hA = b := ⟨_, rfl⟩
 obtain ⟨W, hW⟩ : ∃ V, Blk.wld hA = V := ⟨_, rfl⟩
 simp only [Blk.num] at hbA
 simp only [Blk.wld] at hW
 rw [hW] at hH hA ⊢
 rw [hbA] at hA ⊢
 clear hW hbA
 have hAbT := hA
 clear hA
 exact X_16_18_21 z1 z2 bT W ⟨hH, hAbT⟩
 }
 refine arc (some 81) (fun K hK => ?_) ?_
 {
 go_simp
 first | refine oD hK (S9b _ _ _ hH) fun hH hA => ?_ | refine oA hK (S9a _ _ _ hH) fun hH hA => ?_
 clear hK K
 (try simp only [cq])
 obtain ⟨bU, hbA⟩ : ∃ b, Blk.num hA = b := ⟨_, rfl⟩
 obtain ⟨W, hW⟩ : ∃ V, Blk.wld hA = V := ⟨_, rfl⟩
 simp only [Blk.num] at hbA
 simp only [Blk.wld] at hW
 rw [hW] at hH hA ⊢
 rw [hbA] at hA ⊢
 clear hW hbA
 have hAbU := hA
 clear hA
 exact X_16_21_23 z1 z2 bU W ⟨hH, hAbU⟩
 }
 exact AllReadyH.nil
 }
 }
 {
 (try clear hH)
 intro z1 bT W hall
 obtain ⟨hH, hAbT⟩ := hall
 (try dsimp only at hH)
 refine wpAnyH_ready (rs := [3, 7, 11, 21]) (by kernel_rfl) (by simp) ?_
 refine arc (some 61) (fun K hK => ?_) ?_
 {
 go_simp
 first | refine oD hK (S9b _ _ _ hH) fun hH hA => ?_ | refine oA hK (S9a _ _ _ hH) fun hH hA => ?_
 clear hK K
 (try simp only [cq])
 obtain ⟨bP, hbA⟩ : ∃ b, Blk.num hA = b := ⟨_, rfl⟩
 obtain ⟨W, hW⟩ : ∃ V, Blk.wld hA = V := ⟨_, rfl⟩
 simp only [Blk.num] at hbA
 simp only [Blk.wld] at hW
 first | replace hAbT := awB hW hAbT | replace hAbT := awD hW hAbT
 rw [hW] at hH hA ⊢
 rw [hbA] at hA ⊢
 clear hW hbA
 have hAbP := hA
 clear hA
 exact X_3_16_18 z1 bP bT W ⟨hH, hAbP, hAbT⟩
 }
 refine arc (some 65) (fun K hK => ?_) ?_
 {
 go_simp
 first | refine oD hK (S9b _ _ _ hH) fun hH hA => ?_ | refine oA hK (S9a _ _ _ hH) fun hH hA => ?_
 clear hK K
 (try simp only [cq])
 obtain ⟨bQ, hbA⟩ : ∃ b, Blk.num hA = b := ⟨_, rfl⟩
 obtain ⟨W, hW⟩ : ∃ V, Blk.wld hA = V := ⟨_, rfl⟩
 simp only [Blk.num] at hbA
 simp only [Blk.wld] at hW
 first | replace hAbT := awB hW hAbT | replace hAbT := awD hW hAbT
 rw [hW] at hH hA ⊢
 rw [hbA] at hA ⊢
 clear hW hbA
 have hAbQ := hA
 clear hA
 exact X_7_16_18 z1 bQ bT W ⟨hH, hAbQ, hAbT⟩
 }
 refine arc (some 69) (fun K hK => ?_) ?_
 {
 go_simp
 first | refine oD hK (S9b _ _ _ hH) fun hH hA => ?_ | refine oA hK (S9a _ _ _ hH) fun hH hA => ?_
 clear hK K
 (try simp only [cq])
 obtain ⟨bR, hbA⟩ : ∃ b, Blk.num hA = b := ⟨_, rfl⟩
 obtain ⟨W, hW⟩ : ∃ V, Blk.wld hA = V := ⟨_, rfl⟩
 simp only [Blk.num] at hbA
 simp only [Blk.wld] at hW
 first | replace hAbT := awB hW hAbT | replace hAbT := awD hW hAbT
 rw [hW] at hH hA ⊢
 rw [hbA] at hA ⊢
 clear hW hbA
 have hAbR := hA
 clear hA
 exact X_11_16_18 z1 bR bT W ⟨hH, hAbR, hAbT⟩
 }
 refine arc (some 79) (fun K hK => ?_) ?_
 {
 go_simp
 (refine (below_in _ bs _ (hH.2.2.2.2.2.2.1) (by decide)).mono ?_; rintro e w' ⟨z2, rfl, _, _, hd⟩)
 (replace hAbT := hd.blk hAbT (blk_seed hAbT (hH.2.2.2.2.2.2.1) (by decide)))
 refine hK.out _ _ ?_ ?_
 · (exact ⟨hd.blk hH.1 (by omega), hd.blk (hH.2.1) (by omega), hd.blk (hH.2.2.1) (by omega), hd.blk (hH.2.2.2.1) (by omega), hd.row (hH.2.2.2.2.1) (by omega), hd.row (hH.2.2.2.2.2.1) (by omega), hd.seed, Drawn.below (hH.2.2.2.2.2.2.2) hd zwbs⟩)
 (try clear hH); (try clear hd)
 intro hH
 clear hK K
 (try simp only [cq])
 exact X_16_18_21 z1 z2 bT w' ⟨hH, hAbT⟩
 }
 exact AllReadyH.nil
 }
 }
 {
 (try clear hH)
 intro z1 bR W hall
 obtain ⟨hH, hAbR⟩ := hall
 (try dsimp only at hH)
 refine wpAnyH_ready (rs := [3, 7, 18, 21]) (by kernel_rfl) (by simp) ?_
 refine arc (some 61) (fun K hK => ?_) ?_
 {
 go_simp
 first | refine oD hK (S9b _ _ _ hH) fun hH hA => ?_ | refine oA hK (S9a _ _ _ hH) fun hH hA => ?_
 clear hK K
 (try simp only [cq])
 obtain ⟨bP, hbA⟩ : ∃ b, Blk.num hA = b := ⟨_, rfl⟩
 obtain ⟨W, hW⟩ : ∃ V, Blk.wld hA = V := ⟨_, rfl⟩
 simp only [Blk.num] at hbA
 simp only [Blk.wld] at hW
 first | replace hAbR := awB hW hAbR | replace hAbR := awD hW hAbR
 rw [hW] at hH hA ⊢
 rw [hbA] at hA ⊢
 clear hW hbA
 have hAbP := hA
 clear hA
 exact X_3_11_16 z1 bP bR W ⟨hH, hAbP, hAbR⟩
 }
 refine arc (some 65) (fun K hK => ?_) ?_
 {
 go_simp
 first | refine oD hK (S9b _ _ _ hH) fun hH hA => ?_ | refine oA hK (S9a _ _ _ hH) fun hH hA => ?_
 clear hK K
 (try simp only [cq])
 obtain ⟨bQ, hbA⟩ : ∃ b, Blk.num hA = b := ⟨_, rfl⟩
 obtain ⟨W, hW⟩ : ∃ V, Blk.wld hA = V := ⟨_, rfl⟩
 simp only [Blk.num] at hbA
 simp only [Blk.wld] at hW
 first | replace hAbR := awB hW hAbR | replace hAbR := awD hW hAbR
 rw [hW] at hH hA ⊢
 rw [hbA] at hA ⊢
 clear hW hbA
 have hAbQ := hA
 clear hA
 exact X_7_11_16 z1 bQ bR W ⟨hH, hAbQ, hAbR⟩
 }
 refine arc (some 76) (fun K hK => ?_) ?_
 {
 go_simp
 first | refine oD hK (S9b _ _ _ hH) fun hH hA => ?_ | refine oA hK (S9a _ _ _ hH) fun hH hA => ?_
 clear hK K
 (try simp only [cq])
 exact X_11_16_18 z1 bR _ _ ⟨hH, (hAbR.alloc _), hA⟩
 }
 refine arc (some 79) (fun K hK => ?_) ?_
 {
 go_simp
 (refine (below_in _ bs _ (hH.2.2.2.2.2.2.1) (by decide)).mono ?_; rintro e w' ⟨z2, rfl, _, _, hd⟩)
 (replace hAbR := hd.blk hAbR (blk_seed hAbR (hH.2.2.2.2.2.2.1) (by decide)))
 refine hK.out _ _ ?_ ?_
 · (exact ⟨hd.blk hH.1 (by omega), hd.blk (hH.2.1) (by omega), hd.blk (hH.2.2.1) (by omega), hd.blk (hH.2.2.2.1) (by omega), hd.row (hH.2.2.2.2.1) (by omega), hd.row (hH.2.2.2.2.2.1) (by omega), hd.seed, Drawn.below (hH.2.2.2.2.2.2.2) hd zwbs⟩)
 (try clear hH); (try clear hd)
 intro hH
 clear hK K
 (try simp only [cq])
 exact X_11_16_21 z1 z2 bR w' ⟨hH, hAbR⟩
 }
 exact AllReadyH.nil
 }
 }
 {
 (try clear hH)
 intro z1 bQ W hall
 obtain ⟨hH, hAbQ⟩ := hall
 (try dsimp only at hH)
 refine wpAnyH_ready (rs := [3, 11, 18, 21]) (by kernel_rfl) (by simp) ?_
 refine arc (some 61) (fun K hK => ?_) ?_
 {
 go_simp
 first | refine oD hK (S9b _ _ _ hH) fun hH hA => ?_ | refine oA hK (S9a _ _ _ hH) fun hH hA => ?_
 clear hK K
 (try simp only [cq])
 obtain ⟨bP, hbA⟩ : ∃ b, Blk.num hA = b := ⟨_, rfl⟩
 obtain ⟨W, hW⟩ : ∃ V, Blk.wld hA = V := ⟨_, rfl⟩
 simp only [Blk.num] at hbA
 simp only [Blk.wld] at hW
 first | replace hAbQ := awB hW hAbQ | replace hAbQ := awD hW hAbQ
 rw [hW] at hH hA ⊢
 rw [hbA] at hA ⊢
 clear hW hbA
 have hAbP := hA
 clear hA
 exact X_3_7_16 z1 bP bQ W ⟨hH, hAbP, hAbQ⟩
 }
 refine arc (some 69) (fun K hK => ?_) ?_
 {
 go_simp
 first | refine oD hK (S9b _ _ _ hH) fun hH hA => ?_ | refine oA hK (S9a _ _ _ hH) fun hH hA => ?_
 clear hK K
 (try simp only [cq])
 exact X_7_11_16 z1 bQ _ _ ⟨hH, (hAbQ.alloc _), hA⟩
 }
 refine arc (some 76) (fun K hK => ?_) ?_
 {
 go_simp
 first | refine oD hK (S9b _ _ _ hH) fun hH hA => ?_ | refine oA hK (S9a _ _ _ hH) fun hH hA => ?_
 clear hK K
 (try simp only [cq])
 exact X_7_16_18 z1 bQ _ _ ⟨hH, (hAbQ.alloc _), hA⟩
 }
 refine arc (some 79) (fun K hK => ?_) ?_
 {
 go_simp
 (refine (below_in _ bs _ (hH.2.2.2.2.2.2.1) (by decide)).mono ?_; rintro e w' ⟨z2, rfl, _, _, hd⟩)
 (replace hAbQ := hd.blk hAbQ (blk_seed hAbQ (hH.2.2.2.2.2.2.1) (by decide)))
 refine hK.out _ _ ?_ ?_
 · (exact ⟨hd.blk hH.1 (by omega), hd.blk (hH.2.1) (by omega), hd.blk (hH.2.2.1) (by omega), hd.blk (hH.2.2.2.1) (by omega), hd.row (hH.2.2.2.2.1) (by omega), hd.row (hH.2.2.2.2.2.1) (by omega), hd.seed, Drawn.below (hH.2.2.2.2.2.2.2) hd zwbs⟩)
 (try clear hH); (try clear hd)
 intro hH
 clear hK K
 (try simp only [cq])
 exact X_7_16_21 z1 z2 bQ w' ⟨hH, hAbQ⟩
 }
 exact AllReadyH.nil
 }
 }
 {
 (try clear hH)
 intro bQ bR W hall
 obtain ⟨hH, hAbQ, hAbR⟩ := hall
 (try dsimp only at hH)
 refine wpAnyH_ready (rs := [3, 16]) (by kernel_rfl) (by simp) ?_
 refine arc (some 61) (fun K hK => ?_) ?_
 {
 go_simp
 first | refine oD hK (S9b _ _ _ hH) fun hH hA => ?_ | refine oA hK (S9a _ _ _ hH) fun hH hA => ?_
 clear hK K
 (try simp only [cq])
 obtain ⟨bP, hbA⟩ : ∃ b, Blk.num hA = b := ⟨_, rfl⟩
 obtain ⟨W, hW⟩ : ∃ V, Blk.wld hA = V := ⟨_, rfl⟩
 simp only [Blk.num] at hbA
 simp only [Blk.wld] at hW
 first | replace hAbQ := awB hW hAbQ | replace hAbQ := awD hW hAbQ
 first | replace hAbR := awB hW hAbR | replace hAbR := awD hW hAbR
 rw [hW] at hH hA ⊢
 rw [hbA] at hA ⊢
 clear hW hbA
 have hAbP := hA
 clear hA
 exact X_3_7_11 bP bQ bR W ⟨hH, hAbP, hAbQ, hAbR⟩
 }
 refine arc (some 74) (fun K hK => ?_) ?_
 {
 go_simp
 (refine (from_in _ _ bs _ (hH.2.2.2.2.2.2.1) (by decide) (by omega) (by decide) (by omega)).mono ?_; rintro e w' ⟨z1, rfl, _, _, hd⟩)
 (replace hAbQ := hd.blk hAbQ (blk_seed hAbQ (hH.2.2.2.2.2.2.1) (by decide)))
 (replace hAbR := hd.blk hAbR (blk_seed hAbR (hH.2.2.2.2.2.2.1) (by decide)))
 refine hK.out _ _ ?_ ?_
 · (exact ⟨hd.blk hH.1 (by omega), hd.blk (hH.2.1) (by omega), hd.blk (hH.2.2.1) (by omega), hd.blk (hH.2.2.2.1) (by omega), hd.row (hH.2.2.2.2.1) (by omega), hd.row (hH.2.2.2.2.2.1) (by omega), hd.seed, Drawn.below (hH.2.2.2.2.2.2.2) hd zwbs⟩)
 (try clear hH); (try clear hd)
 intro hH
 clear hK K
 (try simp only [cq])
 exact X_7_11_16 z1 bQ bR w' ⟨hH, hAbQ, hAbR⟩
 }
 exact AllReadyH.nil
 }
 }
 {
 (try clear hH)
 intro z1 bP W hall
 obtain ⟨hH, hAbP⟩ := hall
 (try dsimp only at hH)
 refine wpAnyH_ready (rs := [7, 11, 18, 21]) (by kernel_rfl) (by simp) ?_
 refine arc (some 65) (fun K hK => ?_) ?_
 {
 go_simp
 first | refine oD hK (S9b _ _ _ hH) fun hH hA => ?_ | refine oA hK (S9a _ _ _ hH) fun hH hA => ?_
 clear hK K
 (try simp only [cq])
 exact X_3_7_16 z1 bP _ _ ⟨hH, (hAbP.alloc _), hA⟩
 }
 refine arc (some 69) (fun K hK => ?_) ?_
 {
 go_simp
 first | refine oD hK (S9b _ _ _ hH) fun hH hA => ?_ | refine oA hK (S9a _ _ _ hH) fun hH hA => ?_
 clear hK K
 (try simp only [cq])
 exact X_3_11_16 z1 bP _ _ ⟨hH, (hAbP.alloc _), hA⟩
 }
 refine arc (some 76) (fun K hK => ?_) ?_
 {
 go_simp
 first | refine oD hK (S9b _ _ _ hH) fun hH hA => ?_ | refine oA hK (S9a _ _ _ hH) fun hH hA => ?_
 clear hK K
 (try simp only [cq])
 exact X_3_16_18 z1 bP _ _ ⟨hH, (hAbP.alloc _), hA⟩
 }
 refine arc (some 79) (fun K hK => ?_) ?_
 {
 go_simp
 (refine (below_in _ bs _ (hH.2.2.2.2.2.2.1) (by decide)).mono ?_; rintro e w' ⟨z2, rfl, _, _, hd⟩)
 (replace hAbP := hd.blk hAbP (blk_seed hAbP (hH.2.2.2.2.2.2.1) (by decide)))
 refine hK.out _ _ ?_ ?_
 · (exact ⟨hd.blk hH.1 (by omega), hd.blk (hH.2.1) (by omega), hd.blk (hH.2.2.1) (by omega), hd.blk (hH.2.2.2.1) (by omega), hd.row (hH.2.2.2.2.1) (by omega), hd.row (hH.2.2.2.2.2.1) (by omega), hd.seed, Drawn.below (hH.2.2.2.2.2.2.2) hd zwbs⟩)
 (try clear hH); (try clear hd)
 intro hH
 clear hK K
 (try simp only [cq])
 refine tkY 24 (some 17) ?_ ?_ ?_
 rotate_left
 · intro w _; go_simp; (try with_reducible rfl)
 (try simp only [cq])
 exact X_3_16_21 z1 z2 bP w' ⟨hH, hAbP⟩
 }
 exact AllReadyH.nil
 }
 }
 {
 (try clear hH)
 intro bP bR W hall
 obtain ⟨hH, hAbP, hAbR⟩ := hall
 (try dsimp only at hH)
 refine wpAnyH_ready (rs := [7, 16]) (by kernel_rfl) (by simp) ?_
 refine arc (some 65) (fun K hK => ?_) ?_
 {
 go_simp
 first | refine oD hK (S9b _ _ _ hH) fun hH hA => ?_ | refine oA hK (S9a _ _ _ hH) fun hH hA => ?_
 clear hK K
 (try simp only [cq])
 exact X_3_7_11 bP _ bR _ ⟨hH, (hAbP.alloc _), hA, (hAbR.alloc _)⟩
 }
 refine arc (some 74) (fun K hK => ?_) ?_
 {
 go_simp
 (refine (from_in _ _ bs _ (hH.2.2.2.2.2.2.1) (by decide) (by omega) (by decide) (by omega)).mono ?_; rintro e w' ⟨z1, rfl, _, _, hd⟩)
 (replace hAbP := hd.blk hAbP (blk_seed hAbP (hH.2.2.2.2.2.2.1) (by decide)))
 (replace hAbR := hd.blk hAbR (blk_seed hAbR (hH.2.2.2.2.2.2.1) (by decide)))
 refine hK.out _ _ ?_ ?_
 · (exact ⟨hd.blk hH.1 (by omega), hd.blk (hH.2.1) (by omega), hd.blk (hH.2.2.1) (by omega), hd.blk (hH.2.2.2.1) (by omega), hd.row (hH.2.2.2.2.1) (by omega), hd.row (hH.2.2.2.2.2.1) (by omega), hd.seed, Drawn.below (hH.2.2.2.2.2.2.2) hd zwbs⟩)
 (try clear hH); (try clear hd)
 intro hH
 clear hK K
 (try simp only [cq])
 exact X_3_11_16 z1 bP bR w' ⟨hH, hAbP, hAbR⟩
 }
 exact AllReadyH.nil
 }
 }
 {
 (try clear hH)
 intro bP bQ W hall
 obtain ⟨hH, hAbP, hAbQ⟩ := hall
 (try dsimp only at hH)
 refine wpAnyH_ready (rs := [11, 16]) (by kernel_rfl) (by simp) ?_
 refine arc (some 69) (fun K hK => ?_) ?_
 {
 go_simp
 first | refine oD hK (S9b _ _ _ hH) fun hH hA => ?_ | refine oA hK (S9a _ _ _ hH) fun hH hA => ?_
 clear hK K
 (try simp only [cq])
 exact X_3_7_11 bP bQ _ _ ⟨hH, (hAbP.alloc _), (hAbQ.alloc _), hA⟩
 }
 refine arc (some 74) (fun K hK => ?_) ?_
 {
 go_simp
 (refine (from_in _ _ bs _ (hH.2.2.2.2.2.2.1) (by decide) (by omega) (by decide) (by omega)).mono ?_; rintro e w' ⟨z1, rfl, _, _, hd⟩)
 (replace hAbP := hd.blk hAbP (blk_seed hAbP (hH.2.2.2.2.2.2.1) (by decide)))
 (replace hAbQ := hd.blk hAbQ (blk_seed hAbQ (hH.2.2.2.2.2.2.1) (by decide)))
 refine hK.out _ _ ?_ ?_
 · (exact ⟨hd.blk hH.1 (by omega), hd.blk (hH.2.1) (by omega), hd.blk (hH.2.2.1) (by omega), hd.blk (hH.2.2.2.1) (by omega), hd.row (hH.2.2.2.2.1) (by omega), hd.row (hH.2.2.2.2.2.1) (by omega), hd.seed, Drawn.below (hH.2.2.2.2.2.2.2) hd zwbs⟩)
 (try clear hH); (try clear hd)
 intro hH
 clear hK K
 (try simp only [cq])
 exact X_3_7_16 z1 bP bQ w' ⟨hH, hAbP, hAbQ⟩
 }
 exact AllReadyH.nil
 }
 }
 {
 (try clear hH)
 intro z1 z2 bU W hall
 obtain ⟨hH, hAbU⟩ := hall
 (try dsimp only at hH)
 refine wpAnyH_ready (rs := [3, 7, 11, 18]) (by kernel_rfl) (by simp) ?_
 refine arc (some 61) (fun K hK => ?_) ?_
 {
 go_simp
 first | refine oD hK (S9b _ _ _ hH) fun hH hA => ?_ | refine oA hK (S9a _ _ _ hH) fun hH hA => ?_
 clear hK K
 (try simp only [cq])
 obtain ⟨bP, hbA⟩ : ∃ b, Blk.num hA = b := ⟨_, rfl⟩
 obtain ⟨W, hW⟩ : ∃ V, Blk.wld hA = V := ⟨_, rfl⟩
 simp only [Blk.num] at hbA
 simp only [Blk.wld] at hW
 first | replace hAbU := awB hW hAbU | replace hAbU := awD hW hAbU
 rw [hW] at hH hA ⊢
 rw [hbA] at hA ⊢
 clear hW hbA
 have hAbP := hA
 clear hA
 refine tkY 24 (some 17) ?_ ?_ ?_
 rotate_left
 · intro w _; go_simp; (try with_reducible rfl)
 (try simp only [cq])
 exact X_3_16_21_23 z1 z2 bP bU W ⟨hH, hAbP, hAbU⟩
 }
 refine arc (some 65) (fun K hK => ?_) ?_
 {
 go_simp
 first | refine oD hK (S9b _ _ _ hH) fun hH hA => ?_ | refine oA hK (S9a _ _ _ hH) fun hH hA => ?_
 clear hK K
 (try simp only [cq])
 obtain ⟨bQ, hbA⟩ : ∃ b, Blk.num hA = b := ⟨_, rfl⟩
 obtain ⟨W, hW⟩ : ∃ V, Blk.wld hA = V := ⟨_, rfl⟩
 simp only [Blk.num] at hbA
 simp only [Blk.wld] at hW
 first | replace hAbU := awB hW hAbU | replace hAbU := awD hW hAbU
 rw [hW] at hH hA ⊢
 rw [hbA] at hA ⊢
 clear hW hbA
 have hAbQ := hA
 clear hA
 exact X_7_16_21_23 z1 z2 bQ bU W ⟨hH, hAbQ, hAbU⟩
 }
 refine arc (some 69) (fun K hK => ?_) ?_
 {
 go_simp
 first | refine oD hK (S9b _ _ _ hH) fun hH hA => ?_ | refine oA hK (S9a _ _ _ hH) fun hH hA => ?_
 clear hK K
 (try simp only [cq])
 obtain ⟨bR, hbA⟩ : ∃ b, Blk.num hA = b := ⟨_, rfl⟩
 obtain ⟨W, hW⟩ : ∃ V, Blk.wld hA = V := ⟨_, rfl⟩
 simp only [Blk.num] at hbA
 simp only [Blk.wld] at hW
 first | replace hAbU := awB hW hAbU | replace hAbU := awD hW hAbU
 rw [hW] at hH hA ⊢
 rw [hbA] at hA ⊢
 clear hW hbA
 have hAbR := hA
 clear hA
 exact X_11_16_21_23 z1 z2 bR bU W ⟨hH, hAbR, hAbU⟩
 }
 refine arc (some 76) (fun K hK => ?_) ?_
 {
 go_simp
 first | refine oD hK (S9b _ _ _ hH) fun hH hA => ?_ | refine oA hK (S9a _ _ _ hH) fun hH hA => ?_
 clear hK K
 (try simp only [cq])
 obtain ⟨bT, hbA⟩ : ∃ b, Blk.num hA = b := ⟨_, rfl⟩
 obtain ⟨W, hW⟩ : ∃ V, Blk.wld hA = V := ⟨_, rfl⟩
 simp only [Blk.num] at hbA
 simp only [Blk.wld] at hW
 first | replace hAbU := awB hW hAbU | replace hAbU := awD hW hAbU
 rw [hW] at hH hA ⊢
 rw [hbA] at hA ⊢
 clear hW hbA
 have hAbT := hA
 clear hA
 exact X_16_18_21_23 z1 z2 bT bU W ⟨hH, hAbT, hAbU⟩
 }
 exact AllReadyH.nil
 }
 }
 {
 (try clear hH)
 intro z1 z2 bT W hall
 obtain ⟨hH, hAbT⟩ := hall
 (try dsimp only at hH)
 refine wpAnyH_ready (rs := [3, 7, 11, 23]) (by kernel_rfl) (by simp) ?_
 refine arc (some 61) (fun K hK => ?_) ?_
 {
 go_simp
 first | refine oD hK (S9b _ _ _ hH) fun hH hA => ?_ | refine oA hK (S9a _ _ _ hH) fun hH hA => ?_
 clear hK K
 (try simp only [cq])
 obtain ⟨bP, hbA⟩ : ∃ b, Blk.num hA = b := ⟨_, rfl⟩
 obtain ⟨W, hW⟩ : ∃ V, Blk.wld hA = V := ⟨_, rfl⟩
 simp only [Blk.num] at hbA
 simp only [Blk.wld] at hW
 first | replace hAbT := awB hW hAbT | replace hAbT := awD hW hAbT
 rw [hW] at hH hA ⊢
 rw [hbA] at hA ⊢
 clear hW hbA
 have hAbP := hA
 clear hA
 refine tkY 24 (some 17) ?_ ?_ ?_
 rotate_left
 · intro w _; go_simp; (try with_reducible rfl)
 (try simp only [cq])
 exact X_3_16_18_21 z1 z2 bP bT W ⟨hH, hAbP, hAbT⟩
 }
 refine arc (some 65) (fun K hK => ?_) ?_
 {
 go_simp
 first | refine oD hK (S9b _ _ _ hH) fun hH hA => ?_ | refine oA hK (S9a _ _ _ hH) fun hH hA => ?_
 clear hK K
 (try simp only [cq])
 obtain ⟨bQ, hbA⟩ : ∃ b, Blk.num hA = b := ⟨_, rfl⟩
 obtain ⟨W, hW⟩ : ∃ V, Blk.wld hA = V := ⟨_, rfl⟩
 simp only [Blk.num] at hbA
 simp only [Blk.wld] at hW
 first | replace hAbT := awB hW hAbT | replace hAbT := awD hW hAbT
 rw [hW] at hH hA ⊢
 rw [hbA] at hA ⊢
 clear hW hbA
 have hAbQ := hA
 clear hA
 exact X_7_16_18_21 z1 z2 bQ bT W ⟨hH, hAbQ, hAbT⟩
 }
 refine arc (some 69) (fun K hK => ?_) ?_
 {
 go_simp
 first | refine oD hK (S9b _ _ _ hH) fun hH hA => ?_ | refine oA hK (S9a _ _ _ hH) fun hH hA => ?_
 clear hK K
 (try simp only [cq])
 obtain ⟨bR, hbA⟩ : ∃ b, Blk.num hA = b := ⟨_, rfl⟩
 obtain ⟨W, hW⟩ : ∃ V, Blk.wld hA = V := ⟨_, rfl⟩
 simp only [Blk.num] at hbA
 simp only [Blk.wld] at hW
 first | replace hAbT := awB hW hAbT | replace hAbT := awD hW hAbT
 rw [hW] at hH hA ⊢
 rw [hbA] at hA ⊢
 clear hW hbA
 have hAbR := hA
 clear hA
 exact X_11_16_18_21 z1 z2 bR bT W ⟨hH, hAbR, hAbT⟩
 }
 refine arc (some 81) (fun K hK => ?_) ?_
 {
 go_simp
 first | refine oD hK (S9b _ _ _ hH) fun hH hA => ?_ | refine oA hK (S9a _ _ _ hH) fun hH hA => ?_
 clear hK K
 (try simp only [cq])
 exact X_16_18_21_23 z1 z2 bT _ _ ⟨hH, (hAbT.alloc _), hA⟩
 }
 exact AllReadyH.nil
 }
 }
 {
 (try clear hH)
 intro z1 z2 bR W hall
 obtain ⟨hH, hAbR⟩ := hall
 (try dsimp only at hH)
 refine wpAnyH_ready (rs := [3, 7, 18, 23]) (by kernel_rfl) (by simp) ?_
 refine arc (some 61) (fun K hK => ?_) ?_
 {
 go_simp
 first | refine oD hK (S9b _ _ _ hH) fun hH hA => ?_ | refine oA hK (S9a _ _ _ hH) fun hH hA => ?_
 clear hK K
 (try simp only [cq])
 obtain ⟨bP, hbA⟩ : ∃ b, Blk.num hA = b := ⟨_, rfl⟩
 obtain ⟨W, hW⟩ : ∃ V, Blk.wld hA = V := ⟨_, rfl⟩
 simp only [Blk.num] at hbA
 simp only [Blk.wld] at hW
 first | replace hAbR := awB hW hAbR | replace hAbR := awD hW hAbR
 rw [hW] at hH hA ⊢
 rw [hbA] at hA ⊢
 clear hW hbA
 have hAbP := hA
 clear hA
 refine tkY 24 (some 17) ?_ ?_ ?_
 rotate_left
 · intro w _; go_simp; (try with_reducible rfl)
 (try simp only [cq])
 exact X_3_11_16_21 z1 z2 bP bR W ⟨hH, hAbP, hAbR⟩
 }
 refine arc (some 65) (fun K hK => ?_) ?_
 {
 go_simp
 first | refine oD hK (S9b _ _ _ hH) fun hH hA => ?_ | refine oA hK (S9a _ _ _ hH) fun hH hA => ?_
 clear hK K
 (try simp only [cq])
 obtain ⟨bQ, hbA⟩ : ∃ b, Blk.num hA = b := ⟨_, rfl⟩
 obtain ⟨W, hW⟩ : ∃ V, Blk.wld hA = V := ⟨_, rfl⟩
 simp only [Blk.num] at hbA
 simp only [Blk.wld] at hW
 first | replace hAbR := awB hW hAbR | replace hAbR := awD hW hAbR
 rw [hW] at hH hA ⊢
 rw [hbA] at hA ⊢
 clear hW hbA
 have hAbQ := hA
 clear hA
 exact X_7_11_16_21 z1 z2 bQ bR W ⟨hH, hAbQ, hAbR⟩
 }
 refine arc (some 76) (fun K hK => ?_) ?_
 {
 go_simp
 first | refine oD hK (S9b _ _ _ hH) fun hH hA => ?_ | refine oA hK (S9a _ _ _ hH) fun hH hA => ?_
 clear hK K
 (try simp only [cq])
 exact X_11_16_18_21 z1 z2 bR _ _ ⟨hH, (hAbR.alloc _), hA⟩
 }
 refine arc (some 81) (fun K hK => ?_) ?_
 {
 go_simp
 first | refine oD hK (S9b _ _ _ hH) fun hH hA => ?_ | refine oA hK (S9a _ _ _ hH) fun hH hA => ?_
 clear hK K
 (try simp only [cq])
 exact X_11_16_21_23 z1 z2 bR _ _ ⟨hH, (hAbR.alloc _), hA⟩
 }
 exact AllReadyH.nil
 }
 }
 {
 (try clear hH)
 intro z1 bR bT W hall
 obtain ⟨hH, hAbR, hAbT⟩ := hall
 (try dsimp only at hH)
 refine wpAnyH_ready (rs := [3, 7, 21]) (by kernel_rfl) (by simp) ?_
 refine arc (some 61) (fun K hK => ?_) ?_
 {
 go_simp
 first | refine oD hK (S9b _ _ _ hH) fun hH hA => ?_ | refine oA hK (S9a _ _ _ hH) fun hH hA => ?_
 clear hK K
 (try simp only [cq])
 obtain ⟨bP, hbA⟩ : ∃ b, Blk.num hA = b := ⟨_, rfl⟩
 obtain ⟨W, hW⟩ : ∃ V, Blk.wld hA = V := ⟨_, rfl⟩
 simp only [Blk.num] at hbA
 simp only [Blk.wld] at hW
 first | replace hAbR := awB hW hAbR | replace hAbR := awD hW hAbR
 first | replace hAbT := awB hW hAbT | replace hAbT := awD hW hAbT
 rw [hW] at hH hA ⊢
 rw [hbA] at hA ⊢
 clear hW hbA
 have hAbP := hA
 clear hA
 exact X_3_11_16_18 z1 bP bR bT W ⟨hH, hAbP, hAbR, hAbT⟩
 }
 refine arc (some 65) (fun K hK => ?_) ?_
 {
 go_simp
 first | refine oD hK (S9b _ _ _ hH) fun hH hA => ?_ | refine oA hK (S9a _ _ _ hH) fun hH hA => ?_
 clear hK K
 (try simp only [cq])
 obtain ⟨bQ, hbA⟩ : ∃ b, Blk.num hA = b := ⟨_, rfl⟩
 obtain ⟨W, hW⟩ : ∃ V, Blk.wld hA = V := ⟨_, rfl⟩
 simp only [Blk.num] at hbA
 simp only [Blk.wld] at hW
 first | replace hAbR := awB hW hAbR | replace hAbR := awD hW hAbR
 first | replace hAbT := awB hW hAbT | replace hAbT := awD hW hAbT
 rw [hW] at hH hA ⊢
 rw [hbA] at hA ⊢
 clear hW hbA
 have hAbQ := hA
 clear hA
 exact X_7_11_16_18 z1 bQ bR bT W ⟨hH, hAbQ, hAbR, hAbT⟩
 }
 refine arc (some 79) (fun K hK => ?_) ?_
 {
 go_simp
 (refine (below_in _ bs _ (hH.2.2.2.2.2.2.1) (by decide)).mono ?_; rintro e w' ⟨z2, rfl, _, _, hd⟩)
 (replace hAbR := hd.blk hAbR (blk_seed hAbR (hH.2.2.2.2.2.2.1) (by decide)))
 (replace hAbT := hd.blk hAbT (blk_seed hAbT (hH.2.2.2.2.2.2.1) (by decide)))
 refine hK.out _ _ ?_ ?_
 · (exact ⟨hd.blk hH.1 (by omega), hd.blk (hH.2.1) (by omega), hd.blk (hH.2.2.1) (by omega), hd.blk (hH.2.2.2.1) (by omega), hd.row (hH.2.2.2.2.1) (by omega), hd.row (hH.2.2.2.2.2.1) (by omega), hd.seed, Drawn.below (hH.2.2.2.2.2.2.2) hd zwbs⟩)
 (try clear hH); (try clear hd)
 intro hH
 clear hK K
 (try simp only [cq])
 exact X_11_16_18_21 z1 z2 bR bT w' ⟨hH, hAbR, hAbT⟩
 }
 exact AllReadyH.nil
 }
 }
 {
 (try clear hH)
 intro z1 z2 bQ W hall
 obtain ⟨hH, hAbQ⟩ := hall
 (try dsimp only at hH)
 refine wpAnyH_ready (rs := [3, 11, 18, 23]) (by kernel_rfl) (by simp) ?_
 refine arc (some 61) (fun K hK => ?_) ?_
 {
 go_simp
 first | refine oD hK (S9b _ _ _ hH) fun hH hA => ?_ | refine oA hK (S9a _ _ _ hH) fun hH hA => ?_
 clear hK K
 (try simp only [cq])
 obtain ⟨bP, hbA⟩ : ∃ b, Blk.num hA = b := ⟨_, rfl⟩
 obtain ⟨W, hW⟩ : ∃ V, Blk.wld hA = V := ⟨_, rfl⟩
 simp only [Blk.num] at hbA
 simp only [Blk.wld] at hW
 first | replace hAbQ := awB hW hAbQ | replace hAbQ := awD hW hAbQ
 rw [hW] at hH hA ⊢
 rw [hbA] at hA ⊢
 clear hW hbA
 have hAbP := hA
 clear hA
 refine tkY 24 (some 17) ?_ ?_ ?_
 rotate_left
 · intro w _; go_simp; (try with_reducible rfl)
 (try simp only [cq])
 refine tkY 25 (some 18) ?_ ?_ ?_
 rotate_left
 · intro w _; go_simp; (try with_reducible rfl)
 (try simp only [cq])
 exact X_3_7_16_21 z1 z2 bP bQ W ⟨hH, hAbP, hAbQ⟩
 }
 refine arc (some 69) (fun K hK => ?_) ?_
 {
 go_simp
 first | refine oD hK (S9b _ _ _ hH) fun hH hA => ?_ | refine oA hK (S9a _ _ _ hH) fun hH hA => ?_
 clear hK K
 (try simp only [cq])
 exact X_7_11_16_21 z1 z2 bQ _ _ ⟨hH, (hAbQ.alloc _), hA⟩
 }
 refine arc (some 76) (fun K hK => ?_) ?_
 {
 go_simp
 first | refine oD hK (S9b _ _ _ hH) fun hH hA => ?_ | refine oA hK (S9a _ _ _ hH) fun hH hA => ?_
 clear hK K
 (try simp only [cq])
 exact X_7_16_18_21 z1 z2 bQ _ _ ⟨hH, (hAbQ.alloc _), hA⟩
 }
 refine arc (some 81) (fun K hK => ?_) ?_
 {
 go_simp
 first | refine oD hK (S9b _ _ _ hH) fun hH hA => ?_ | refine oA hK (S9a _ _ _ hH) fun hH hA => ?_
 clear hK K
 (try simp only [cq])
 exact X_7_16_21_23 z1 z2 bQ _ _ ⟨hH, (hAbQ.alloc _), hA⟩
 }
 exact AllReadyH.nil
 }
 }
 {
 (try clear hH)
 intro z1 bQ bT W hall
 obtain ⟨hH, hAbQ, hAbT⟩ := hall
 (try dsimp only at hH)
 refine wpAnyH_ready (rs := [3, 11, 21]) (by kernel_rfl) (by simp) ?_
 refine arc (some 61) (fun K hK => ?_) ?_
 {
 go_simp
 first | refine oD hK (S9b _ _ _ hH) fun hH hA => ?_ | refine oA hK (S9a _ _ _ hH) fun hH hA => ?_
 clear hK K
 (try simp only [cq])
 obtain ⟨bP, hbA⟩ : ∃ b, Blk.num hA = b := ⟨_, rfl⟩
 obtain ⟨W, hW⟩ : ∃ V, Blk.wld hA = V := ⟨_, rfl⟩
 simp only [Blk.num] at hbA
 simp only [Blk.wld] at hW
 first | replace hAbQ := awB hW hAbQ | replace hAbQ := awD hW hAbQ
 first | replace hAbT := awB hW hAbT | replace hAbT := awD hW hAbT
 rw [hW] at hH hA ⊢
 rw [hbA] at hA ⊢
 clear hW hbA
 have hAbP := hA
 clear hA
 exact X_3_7_16_18 z1 bP bQ bT W ⟨hH, hAbP, hAbQ, hAbT⟩
 }
 refine arc (some 69) (fun K hK => ?_) ?_
 {
 go_simp
 first | refine oD hK (S9b _ _ _ hH) fun hH hA => ?_ | refine oA hK (S9a _ _ _ hH) fun hH hA => ?_
 clear hK K
 (try simp only [cq])
 exact X_7_11_16_18 z1 bQ _ bT _ ⟨hH, (hAbQ.alloc _), hA, (hAbT.alloc _)⟩
 }
 refine arc (some 79) (fun K hK => ?_) ?_
 {
 go_simp
 (refine (below_in _ bs _ (hH.2.2.2.2.2.2.1) (by decide)).mono ?_; rintro e w' ⟨z2, rfl, _, _, hd⟩)
 (replace hAbQ := hd.blk hAbQ (blk_seed hAbQ (hH.2.2.2.2.2.2.1) (by decide)))
 (replace hAbT := hd.blk hAbT (blk_seed hAbT (hH.2.2.2.2.2.2.1) (by decide)))
 refine hK.out _ _ ?_ ?_
 · (exact ⟨hd.blk hH.1 (by omega), hd.blk (hH.2.1) (by omega), hd.blk (hH.2.2.1) (by omega), hd.blk (hH.2.2.2.1) (by omega), hd.row (hH.2.2.2.2.1) (by omega), hd.row (hH.2.2.2.2.2.1) (by omega), hd.seed, Drawn.below (hH.2.2.2.2.2.2.2) hd zwbs⟩)
 (try clear hH); (try clear hd)
 intro hH
 clear hK K
 (try simp only [cq])
 exact X_7_16_18_21 z1 z2 bQ bT w' ⟨hH, hAbQ, hAbT⟩
 }
 exact AllReadyH.nil
 }
 }
 {
 (try clear hH)
 intro z1 bQ bR W hall
 obtain ⟨hH, hAbQ, hAbR⟩ := hall
 (try dsimp only at hH)
 refine wpAnyH_ready (rs := [3, 18, 21]) (by kernel_rfl) (by simp) ?_
 refine arc (some 61) (fun K hK => ?_) ?_
 {
 go_simp
 first | refine oD hK (S9b _ _ _ hH) fun hH hA => ?_ | refine oA hK (S9a _ _ _ hH) fun hH hA => ?_
 clear hK K
 (try simp only [cq])
 obtain ⟨bP, hbA⟩ : ∃ b, Blk.num hA = b := ⟨_, rfl⟩
 obtain ⟨W, hW⟩ : ∃ V, Blk.wld hA = V := ⟨_, rfl⟩
 simp only [Blk.num] at hbA
 simp only [Blk.wld] at hW
 first | replace hAbQ := awB hW hAbQ | replace hAbQ := awD hW hAbQ
 first | replace hAbR := awB hW hAbR | replace hAbR := awD hW hAbR
 rw [hW] at hH hA ⊢
 rw [hbA] at hA ⊢
 clear hW hbA
 have hAbP := hA
 clear hA
 exact X_3_7_11_16 z1 bP bQ bR W ⟨hH, hAbP, hAbQ, hAbR⟩
 }
 refine arc (some 76) (fun K hK => ?_) ?_
 {
 go_simp
 first | refine oD hK (S9b _ _ _ hH) fun hH hA => ?_ | refine oA hK (S9a _ _ _ hH) fun hH hA => ?_
 clear hK K
 (try simp only [cq])
 exact X_7_11_16_18 z1 bQ bR _ _ ⟨hH, (hAbQ.alloc _), (hAbR.alloc _), hA⟩
 }
 refine arc (some 79) (fun K hK => ?_) ?_
 {
 go_simp
 (refine (below_in _ bs _ (hH.2.2.2.2.2.2.1) (by decide)).mono ?_; rintro e w' ⟨z2, rfl, _, _, hd⟩)
 (replace hAbQ := hd.blk hAbQ (blk_seed hAbQ (hH.2.2.2.2.2.2.1) (by decide)))
 (replace hAbR := hd.blk hAbR (blk_seed hAbR (hH.2.2.2.2.2.2.1) (by decide)))
 refine hK.out _ _ ?_ ?_
 · (exact ⟨hd.blk hH.1 (by omega), hd.blk (hH.2.1) (by omega), hd.blk (hH.2.2.1) (by omega), hd.blk (hH.2.2.2.1) (by omega), hd.row (hH.2.2.2.2.1) (by omega), hd.row (hH.2.2.2.2.2.1) (by omega), hd.seed, Drawn.below (hH.2.2.2.2.2.2.2) hd zwbs⟩)
 (try clear hH); (try clear hd)
 intro hH
 clear hK K
 (try simp only [cq])
 exact X_7_11_16_21 z1 z2 bQ bR w' ⟨hH, hAbQ, hAbR⟩
 }
 exact AllReadyH.nil
 }
 }
 {
 (try clear hH)
 intro z1 z2 bP W hall
 obtain ⟨hH, hAbP⟩ := hall
 (try dsimp only at hH)
 refine wpAnyH_ready (rs := [7, 11, 18, 23]) (by kernel_rfl) (by simp) ?_
 refine arc (some 65) (fun K hK => ?_) ?_
 {
 go_simp
 first | refine oD hK (S9b _ _ _ hH) fun hH hA => ?_ | refine oA hK (S9a _ _ _ hH) fun hH hA => ?_
 clear hK K
 (try simp only [cq])
 refine tkY 25 (some 18) ?_ ?_ ?_
 rotate_left
 · intro w _; go_simp; (try with_reducible rfl)
 (try simp only [cq])
 exact X_3_7_16_21 z1 z2 bP _ _ ⟨hH, (hAbP.alloc _), hA⟩
 }
 refine arc (some 69) (fun K hK => ?_) ?_
 {
 go_simp
 first | refine oD hK (S9b _ _ _ hH) fun hH hA => ?_ | refine oA hK (S9a _ _ _ hH) fun hH hA => ?_
 clear hK K
 (try simp only [cq])
 exact X_3_11_16_21 z1 z2 bP _ _ ⟨hH, (hAbP.alloc _), hA⟩
 }
 refine arc (some 76) (fun K hK => ?_) ?_
 {
 go_simp
 first | refine oD hK (S9b _ _ _ hH) fun hH hA => ?_ | refine oA hK (S9a _ _ _ hH) fun hH hA => ?_
 clear hK K
 (try simp only [cq])
 exact X_3_16_18_21 z1 z2 bP _ _ ⟨hH, (hAbP.alloc _), hA⟩
 }
 refine arc (some 81) (fun K hK => ?_) ?_
 {
 go_simp
 first | refine oD hK (S9b _ _ _ hH) fun hH hA => ?_ | refine oA hK (S9a _ _ _ hH) fun hH hA => ?_
 clear hK K
 (try simp only [cq])
 exact X_3_16_21_23 z1 z2 bP _ _ ⟨hH, (hAbP.alloc _), hA⟩
 }
 exact AllReadyH.nil
 }
 }
 {
 (try clear hH)
 intro z1 bP bT W hall
 obtain ⟨hH, hAbP, hAbT⟩ := hall
 (try dsimp only at hH)
 refine wpAnyH_ready (rs := [7, 11, 21]) (by kernel_rfl) (by simp) ?_
 refine arc (some 65) (fun K hK => ?_) ?_
 {
 go_simp
 first | refine oD hK (S9b _ _ _ hH) fun hH hA => ?_ | refine oA hK (S9a _ _ _ hH) fun hH hA => ?_
 clear hK K
 (try simp only [cq])
 exact X_3_7_16_18 z1 bP _ bT _ ⟨hH, (hAbP.alloc _), hA, (hAbT.alloc _)⟩
 }
 refine arc (some 69) (fun K hK => ?_) ?_
 {
 go_simp
 first | refine oD hK (S9b _ _ _ hH) fun hH hA => ?_ | refine oA hK (S9a _ _ _ hH) fun hH hA => ?_
 clear hK K
 (try simp only [cq])
 exact X_3_11_16_18 z1 bP _ bT _ ⟨hH, (hAbP.alloc _), hA, (hAbT.alloc _)⟩
 }
 refine arc (some 79) (fun K hK => ?_) ?_
 {
 go_simp
 (refine (below_in _ bs _ (hH.2.2.2.2.2.2.1) (by decide)).mono ?_; rintro e w' ⟨z2, rfl, _, _, hd⟩)
 (replace hAbP := hd.blk hAbP (blk_seed hAbP (hH.2.2.2.2.2.2.1) (by decide)))
 (replace hAbT := hd.blk hAbT (blk_seed hAbT (hH.2.2.2.2.2.2.1) (by decide)))
 refine hK.out _ _ ?_ ?_
 · (exact ⟨hd.blk hH.1 (by omega), hd.blk (hH.2.1) (by omega), hd.blk (hH.2.2.1) (by omega), hd.blk (hH.2.2.2.1) (by omega), hd.row (hH.2.2.2.2.1) (by omega), hd.row (hH.2.2.2.2.2.1) (by omega), hd.seed, Drawn.below (hH.2.2.2.2.2.2.2) hd zwbs⟩)
 (try clear hH); (try clear hd)
 intro hH
 clear hK K
 (try simp only [cq])
 refine tkY 24 (some 17) ?_ ?_ ?_
 rotate_left
 · intro w _; go_simp; (try with_reducible rfl)
 (try simp only [cq])
 exact X_3_16_18_21 z1 z2 bP bT w' ⟨hH, hAbP, hAbT⟩
 }
 exact AllReadyH.nil
 }
 }
 {
 (try clear hH)
 intro z1 bP bR W hall
 obtain ⟨hH, hAbP, hAbR⟩ := hall
 (try dsimp only at hH)
 refine wpAnyH_ready (rs := [7, 18, 21]) (by kernel_rfl) (by simp) ?_
 refine arc (some 65) (fun K hK => ?_) ?_
 {
 go_simp
 first | refine oD hK (S9b _ _ _ hH) fun hH hA => ?_ | refine oA hK (S9a _ _ _ hH) fun hH hA => ?_
 clear hK K
 (try simp only [cq])
 exact X_3_7_11_16 z1 bP _ bR _ ⟨hH, (hAbP.alloc _), hA, (hAbR.alloc _)⟩
 }
 refine arc (some 76) (fun K hK => ?_) ?_
 {
 go_simp
 first | refine oD hK (S9b _ _ _ hH) fun hH hA => ?_ | refine oA hK (S9a _ _ _ hH) fun hH hA => ?_
 clear hK K
 (try simp only [cq])
 exact X_3_11_16_18 z1 bP bR _ _ ⟨hH, (hAbP.alloc _), (hAbR.alloc _), hA⟩
 }
 refine arc (some 79) (fun K hK => ?_) ?_
 {
 go_simp
 (refine (below_in _ bs _ (hH.2.2.2.2.2.2.1) (by decide)).mono ?_; rintro e w' ⟨z2, rfl, _, _, hd⟩)
 (replace hAbP := hd.blk hAbP (blk_seed hAbP (hH.2.2.2.2.2.2.1) (by decide)))
 (replace hAbR := hd.blk hAbR (blk_seed hAbR (hH.2.2.2.2.2.2.1) (by decide)))
 refine hK.out _ _ ?_ ?_
 · (exact ⟨hd.blk hH.1 (by omega), hd.blk (hH.2.1) (by omega), hd.blk (hH.2.2.1) (by omega), hd.blk (hH.2.2.2.1) (by omega), hd.row (hH.2.2.2.2.1) (by omega), hd.row (hH.2.2.2.2.2.1) (by omega), hd.seed, Drawn.below (hH.2.2.2.2.2.2.2) hd zwbs⟩)
 (try clear hH); (try clear hd)
 intro hH
 clear hK K
 (try simp only [cq])
 refine tkY 24 (some 17) ?_ ?_ ?_
 rotate_left
 · intro w _; go_simp; (try with_reducible rfl)
 (try simp only [cq])
 exact X_3_11_16_21 z1 z2 bP bR w' ⟨hH, hAbP, hAbR⟩
 }
 exact AllReadyH.nil
 }
 }
 {
 (try clear hH)
 intro z1 bP bQ W hall
 obtain ⟨hH, hAbP, hAbQ⟩ := hall
 (try dsimp only at hH)
 refine wpAnyH_ready (rs := [11, 18, 21]) (by kernel_rfl) (by simp) ?_
 refine arc (some 69) (fun K hK => ?_) ?_
 {
 go_simp
 first | refine oD hK (S9b _ _ _ hH) fun hH hA => ?_ | refine oA hK (S9a _ _ _ hH) fun hH hA => ?_
 clear hK K
 (try simp only [cq])
 exact X_3_7_11_16 z1 bP bQ _ _ ⟨hH, (hAbP.alloc _), (hAbQ.alloc _), hA⟩
 }
 refine arc (some 76) (fun K hK => ?_) ?_
 {
 go_simp
 first | refine oD hK (S9b _ _ _ hH) fun hH hA => ?_ | refine oA hK (S9a _ _ _ hH) fun hH hA => ?_
 clear hK K
 (try simp only [cq])
 exact X_3_7_16_18 z1 bP bQ _ _ ⟨hH, (hAbP.alloc _), (hAbQ.alloc _), hA⟩
 }
 refine arc (some 79) (fun K hK => ?_) ?_
 {
 go_simp
 (refine (below_in _ bs _ (hH.2.2.2.2.2.2.1) (by decide)).mono ?_; rintro e w' ⟨z2, rfl, _, _, hd⟩)
 (replace hAbP := hd.blk hAbP (blk_seed hAbP (hH.2.2.2.2.2.2.1) (by decide)))
 (replace hAbQ := hd.blk hAbQ (blk_seed hAbQ (hH.2.2.2.2.2.2.1) (by decide)))
 refine hK.out _ _ ?_ ?_
 · (exact ⟨hd.blk hH.1 (by omega), hd.blk (hH.2.1) (by omega), hd.blk (hH.2.2.1) (by omega), hd.blk (hH.2.2.2.1) (by omega), hd.row (hH.2.2.2.2.1) (by omega), hd.row (hH.2.2.2.2.2.1) (by omega), hd.seed, Drawn.below (hH.2.2.2.2.2.2.2) hd zwbs⟩)
 (try clear hH); (try clear hd)
 intro hH
 clear hK K
 (try simp only [cq])
 refine tkY 24 (some 17) ?_ ?_ ?_
 rotate_left
 · intro w _; go_simp; (try with_reducible rfl)
 (try simp only [cq])
 refine tkY 25 (some 18) ?_ ?_ ?_
 rotate_left
 · intro w _; go_simp; (try with_reducible rfl)
 (try simp only [cq])
 exact X_3_7_16_21 z1 z2 bP bQ w' ⟨hH, hAbP, hAbQ⟩
 }
 exact AllReadyH.nil
 }
 }
 {
 (try clear hH)
 intro bP bQ bR W hall
 obtain ⟨hH, hAbP, hAbQ, hAbR⟩ := hall
 (try dsimp only at hH)
 refine wpAnyH_ready (rs := [16]) (by kernel_rfl) (by simp) ?_
 refine arc1 (some 74) fun K hK => ?_
 go_simp
 (refine (from_in _ _ bs _ (hH.2.2.2.2.2.2.1) (by decide) (by omega) (by decide) (by omega)).mono ?_; rintro e w' ⟨z1, rfl, _, _, hd⟩)
 (replace hAbP := hd.blk hAbP (blk_seed hAbP (hH.2.2.2.2.2.2.1) (by decide)))
 (replace hAbQ := hd.blk hAbQ (blk_seed hAbQ (hH.2.2.2.2.2.2.1) (by decide)))
 (replace hAbR := hd.blk hAbR (blk_seed hAbR (hH.2.2.2.2.2.2.1) (by decide)))
 refine hK.out _ _ ?_ ?_
 · (exact ⟨hd.blk hH.1 (by omega), hd.blk (hH.2.1) (by omega), hd.blk (hH.2.2.1) (by omega), hd.blk (hH.2.2.2.1) (by omega), hd.row (hH.2.2.2.2.1) (by omega), hd.row (hH.2.2.2.2.2.1) (by omega), hd.seed, Drawn.below (hH.2.2.2.2.2.2.2) hd zwbs⟩)
 (try clear hH); (try clear hd)
 intro hH
 clear hK K
 (try simp only [cq])
 exact X_3_7_11_16 z1 bP bQ bR w' ⟨hH, hAbP, hAbQ, hAbR⟩
 }
 }
 {
 (try clear hH)
 intro z1 z2 bT bU W hall
 obtain ⟨hH, hAbT, hAbU⟩ := hall
 (try dsimp only at hH)
 refine wpAnyH_ready (rs := [3, 7, 11]) (by kernel_rfl) (by simp) ?_
 refine arc (some 61) (fun K hK => ?_) ?_
 {
 go_simp
 first | refine oD hK (S9b _ _ _ hH) fun hH hA => ?_ | refine oA hK (S9a _ _ _ hH) fun hH hA => ?_
 clear hK K
 (try simp only [cq])
 obtain ⟨bP, hbA⟩ : ∃ b, Blk.num hA = b := ⟨_, rfl⟩
 obtain ⟨W, hW⟩ : ∃ V, Blk.wld hA = V := ⟨_, rfl⟩
 simp only [Blk.num] at hbA
 simp only [Blk.wld] at hW
 first | replace hAbT := awB hW hAbT | replace hAbT := awD hW hAbT
 first | replace hAbU := awB hW hAbU | replace hAbU := awD hW hAbU
 rw [hW] at hH hA ⊢
 rw [hbA] at hA ⊢
 clear hW hbA
 have hAbP := hA
 clear hA
 refine tkY 24 (some 17) ?_ ?_ ?_
 rotate_left
 · intro w _; go_simp; (try with_reducible rfl)
 (try simp only [cq])
 exact X_3_16_18_21_23 z1 z2 bP bT bU W ⟨hH, hAbP, hAbT, hAbU⟩
 }
 refine arc (some 65) (fun K hK => ?_) ?_
 {
 go_simp
 first | refine oD hK (S9b _ _ _ hH) fun hH hA => ?_ | refine oA hK (S9a _ _ _ hH) fun hH hA => ?_
 clear hK K
 (try simp only [cq])
 obtain ⟨bQ, hbA⟩ : ∃ b, Blk.num hA = b := ⟨_, rfl⟩
 obtain ⟨W, hW⟩ : ∃ V, Blk.wld hA = V := ⟨_, rfl⟩
 simp only [Blk.num] at hbA
 simp only [Blk.wld] at hW
 first | replace hAbT := awB hW hAbT | replace hAbT := awD hW hAbT
 first | replace hAbU := awB hW hAbU | replace hAbU := awD hW hAbU
 rw [hW] at hH hA ⊢
 rw [hbA] at hA ⊢
 clear hW hbA
 have hAbQ := hA
 clear hA
 exact X_7_16_18_21_23 z1 z2 bQ bT bU W ⟨hH, hAbQ, hAbT, hAbU⟩
 }
 refine arc (some 69) (fun K hK => ?_) ?_
 {
 go_simp
 first | refine oD hK (S9b _ _ _ hH) fun hH hA => ?_ | refine oA hK (S9a _ _ _ hH) fun hH hA => ?_
 clear hK K
 (try simp only [cq])
 obtain ⟨bR, hbA⟩ : ∃ b, Blk.num hA = b := ⟨_, rfl⟩
 obtain ⟨W, hW⟩ : ∃ V, Blk.wld hA = V := ⟨_, rfl⟩
 simp only [Blk.num] at hbA
 simp only [Blk.wld] at hW
 first | replace hAbT := awB hW hAbT | replace hAbT := awD hW hAbT
 first | replace hAbU := awB hW hAbU | replace hAbU := awD hW hAbU
 rw [hW] at hH hA ⊢
 rw [hbA] at hA ⊢
 clear hW hbA
 have hAbR := hA
 clear hA
 exact X_11_16_18_21_23 z1 z2 bR bT bU W ⟨hH, hAbR, hAbT, hAbU⟩
 }
 exact AllReadyH.nil
 }
 }
 {
 (try clear hH)
 intro z1 z2 bR bU W hall
 obtain ⟨hH, hAbR, hAbU⟩ := hall
 (try dsimp only at hH)
 refine wpAnyH_ready (rs := [3, 7, 18]) (by kernel_rfl) (by simp) ?_
 refine arc (some 61) (fun K hK => ?_) ?_
 {
 go_simp
 first | refine oD hK (S9b _ _ _ hH) fun hH hA => ?_ | refine oA hK (S9a _ _ _ hH) fun hH hA => ?_
 clear hK K
 (try simp only [cq])
 obtain ⟨bP, hbA⟩ : ∃ b, Blk.num hA = b := ⟨_, rfl⟩
 obtain ⟨W, hW⟩ : ∃ V, Blk.wld hA = V := ⟨_, rfl⟩
 simp only [Blk.num] at hbA
 simp only [Blk.wld] at hW
 first | replace hAbR := awB hW hAbR | replace hAbR := awD hW hAbR
 first | replace hAbU := awB hW hAbU | replace hAbU := awD hW hAbU
 rw [hW] at hH hA ⊢
 rw [hbA] at hA ⊢
 clear hW hbA
 have hAbP := hA
 clear hA
 refine tkY 24 (some 17) ?_ ?_ ?_
 rotate_left
 · intro w _; go_simp; (try with_reducible rfl)
 (try simp only [cq])
 exact X_3_11_16_21_23 z1 z2 bP bR bU W ⟨hH, hAbP, hAbR, hAbU⟩
 }
 refine arc (some 65) (fun K hK => ?_) ?_
 {
 go_simp
 first | refine oD hK (S9b _ _ _ hH) fun hH hA => ?_ | refine oA hK (S9a _ _ _ hH) fun hH hA => ?_
 clear hK K
 (try simp only [cq])
 obtain ⟨bQ, hbA⟩ : ∃ b, Blk.num hA = b := ⟨_, rfl⟩
 obtain ⟨W, hW⟩ : ∃ V, Blk.wld hA = V := ⟨_, rfl⟩
 simp only [Blk.num] at hbA
 simp only [Blk.wld] at hW
 first | replace hAbR := awB hW hAbR | replace hAbR := awD hW hAbR
 first | replace hAbU := awB hW hAbU | replace hAbU := awD hW hAbU
 rw [hW] at hH hA ⊢
 rw [hbA] at hA ⊢
 clear hW hbA
 have hAbQ := hA
 clear hA
 exact X_7_11_16_21_23 z1 z2 bQ bR bU W ⟨hH, hAbQ, hAbR, hAbU⟩
 }
 refine arc (some 76) (fun K hK => ?_) ?_
 {
 go_simp
 first | refine oD hK (S9b _ _ _ hH) fun hH hA => ?_ | refine oA hK (S9a _ _ _ hH) fun hH hA => ?_
 clear hK K
 (try simp only [cq])
 exact X_11_16_18_21_23 z1 z2 bR _ bU _ ⟨hH, (hAbR.alloc _), hA, (hAbU.alloc _)⟩
 }
 exact AllReadyH.nil
 }
 }
 {
 (try clear hH)
 intro z1 z2 bR bT W hall
 obtain ⟨hH, hAbR, hAbT⟩ := hall
 (try dsimp only at hH)
 refine wpAnyH_ready (rs := [3, 7, 23]) (by kernel_rfl) (by simp) ?_
 refine arc (some 61) (fun K hK => ?_) ?_
 {
 go_simp
 first | refine oD hK (S9b _ _ _ hH) fun hH hA => ?_ | refine oA hK (S9a _ _ _ hH) fun hH hA => ?_
 clear hK K
 (try simp only [cq])
 obtain ⟨bP, hbA⟩ : ∃ b, Blk.num hA = b := ⟨_, rfl⟩
 obtain ⟨W, hW⟩ : ∃ V, Blk.wld hA = V := ⟨_, rfl⟩
 simp only [Blk.num] at hbA
 simp only [Blk.wld] at hW
 first | replace hAbR := awB hW hAbR | replace hAbR := awD hW hAbR
 first | replace hAbT := awB hW hAbT | replace hAbT := awD hW hAbT
 rw [hW] at hH hA ⊢
 rw [hbA] at hA ⊢
 clear hW hbA
 have hAbP := hA
 clear hA
 refine tkY 24 (some 17) ?_ ?_ ?_
 rotate_left
 · intro w _; go_simp; (try with_reducible rfl)
 (try simp only [cq])
 exact X_3_11_16_18_21 z1 z2 bP bR bT W ⟨hH, hAbP, hAbR, hAbT⟩
 }
 refine arc (some 65) (fun K hK => ?_) ?_
 {
 go_simp
 first | refine oD hK (S9b _ _ _ hH) fun hH hA => ?_ | refine oA hK (S9a _ _ _ hH) fun hH hA => ?_
 clear hK K
 (try simp only [cq])
 obtain ⟨bQ, hbA⟩ : ∃ b, Blk.num hA = b := ⟨_, rfl⟩
 obtain ⟨W, hW⟩ : ∃ V, Blk.wld hA = V := ⟨_, rfl⟩
 simp only [Blk.num] at hbA
 simp only [Blk.wld] at hW
 first | replace hAbR := awB hW hAbR | replace hAbR := awD hW hAbR
 first | replace hAbT := awB hW hAbT | replace hAbT := awD hW hAbT
 rw [hW] at hH hA ⊢
 rw [hbA] at hA ⊢
 clear hW hbA
 have hAbQ := hA
 clear hA
 exact X_7_11_16_18_21 z1 z2 bQ bR bT W ⟨hH, hAbQ, hAbR, hAbT⟩
 }
 refine arc (some 81) (fun K hK => ?_) ?_
 {
 go_simp
 first | refine oD hK (S9b _ _ _ hH) fun hH hA => ?_ | refine oA hK (S9a _ _ _ hH) fun hH hA => ?_
 clear hK K
 (try simp only [cq])
 exact X_11_16_18_21_23 z1 z2 bR bT _ _ ⟨hH, (hAbR.alloc _), (hAbT.alloc _), hA⟩
 }
 exact AllReadyH.nil
 }
 }
 {
 (try clear hH)
 intro z1 z2 bQ bU W hall
 obtain ⟨hH, hAbQ, hAbU⟩ := hall
 (try dsimp only at hH)
 refine wpAnyH_ready (rs := [3, 11, 18]) (by kernel_rfl) (by simp) ?_
 refine arc (some 61) (fun K hK => ?_) ?_
 {
 go_simp
 first | refine oD hK (S9b _ _ _ hH) fun hH hA => ?_ | refine oA hK (S9a _ _ _ hH) fun hH hA => ?_
 clear hK K
 (try simp only [cq])
 obtain ⟨bP, hbA⟩ : ∃ b, Blk.num hA = b := ⟨_, rfl⟩
 obtain ⟨W, hW⟩ : ∃ V, Blk.wld hA = V := ⟨_, rfl⟩
 simp only [Blk.num] at hbA
 simp only [Blk.wld] at hW
 first | replace hAbQ := awB hW hAbQ | replace hAbQ := awD hW hAbQ
 first | replace hAbU := awB hW hAbU | replace hAbU := awD hW hAbU
 rw [hW] at hH hA ⊢
 rw [hbA] at hA ⊢
 clear hW hbA
 have hAbP := hA
 clear hA
 refine tkY 24 (some 17) ?_ ?_ ?_
 rotate_left
 · intro w _; go_simp; (try with_reducible rfl)
 (try simp only [cq])
 refine tkY 25 (some 18) ?_ ?_ ?_
 rotate_left
 · intro w _; go_simp; (try with_reducible rfl)
 (try simp only [cq])
 exact X_3_7_16_21_23 z1 z2 bP bQ bU W ⟨hH, hAbP, hAbQ, hAbU⟩
 }
 refine arc (some 69) (fun K hK => ?_) ?_
 {
 go_simp
 first | refine oD hK (S9b _ _ _ hH) fun hH hA => ?_ | refine oA hK (S9a _ _ _ hH) fun hH hA => ?_
 clear hK K
 (try simp only [cq])
 exact X_7_11_16_21_23 z1 z2 bQ _ bU _ ⟨hH, (hAbQ.alloc _), hA, (hAbU.alloc _)⟩
 }
 refine arc (some 76) (fun K hK => ?_) ?_
 {
 go_simp
 first | refine oD hK (S9b _ _ _ hH) fun hH hA => ?_ | refine oA hK (S9a _ _ _ hH) fun hH hA => ?_
 clear hK K
 (try simp only [cq])
 exact X_7_16_18_21_23 z1 z2 bQ _ bU _ ⟨hH, (hAbQ.alloc _), hA, (hAbU.alloc _)⟩
 }
 exact AllReadyH.nil
 }
 }
 {
 (try clear hH)
 intro z1 z2 bQ bT W hall
 obtain ⟨hH, hAbQ, hAbT⟩ := hall
 (try dsimp only at hH)
 refine wpAnyH_ready (rs := [3, 11, 23]) (by kernel_rfl) (by simp) ?_
 refine arc (some 61) (fun K hK => ?_) ?_
 {
 go_simp
 first | refine oD hK (S9b _ _ _ hH) fun hH hA => ?_ | refine oA hK (S9a _ _ _ hH) fun hH hA => ?_
 clear hK K
 (try simp only [cq])
 obtain ⟨bP, hbA⟩ : ∃ b, Blk.num hA = b := ⟨_, rfl⟩
 obtain ⟨W, hW⟩ : ∃ V, Blk.wld hA = V := ⟨_, rfl⟩
 simp only [Blk.num] at hbA
 simp only [Blk.wld] at hW
 first | replace hAbQ := awB hW hAbQ | replace hAbQ := awD hW hAbQ
 first | replace hAbT := awB hW hAbT | replace hAbT := awD hW hAbT
 rw [hW] at hH hA ⊢
 rw [hbA] at hA ⊢
 clear hW hbA
 have hAbP := hA
 clear hA
 refine tkY 24 (some 17) ?_ ?_ ?_
 rotate_left
 · intro w _; go_simp; (try with_reducible rfl)
 (try simp only [cq])
 refine tkY 25 (some 18) ?_ ?_ ?_
 rotate_left
 · intro w _; go_simp; (try with_reducible rfl)
 (try simp only [cq])
 exact X_3_7_16_18_21 z1 z2 bP bQ bT W ⟨hH, hAbP, hAbQ, hAbT⟩
 }
 refine arc (some 69) (fun K hK => ?_) ?_
 {
 go_simp
 first | refine oD hK (S9b _ _ _ hH) fun hH hA => ?_ | refine oA hK (S9a _ _ _ hH) fun hH hA => ?_
 clear hK K
 (try simp only [cq])
 exact X_7_11_16_18_21 z1 z2 bQ _ bT _ ⟨hH, (hAbQ.alloc _), hA, (hAbT.alloc _)⟩
 }
 refine arc (some 81) (fun K hK => ?_) ?_
 {
 go_simp
 first | refine oD hK (S9b _ _ _ hH) fun hH hA => ?_ | refine oA hK (S9a _ _ _ hH) fun hH hA => ?_
 clear hK K
 (try simp only [cq])
 exact X_7_16_18_21_23 z1 z2 bQ bT _ _ ⟨hH, (hAbQ.alloc _), (hAbT.alloc _), hA⟩
 }
 exact AllReadyH.nil
 }
 }
 {
 (try clear hH)
 intro z1 z2 bQ bR W hall
 obtain ⟨hH, hAbQ, hAbR⟩ := hall
 (try dsimp only at hH)
 refine wpAnyH_ready (rs := [3, 18, 23]) (by kernel_rfl) (by simp) ?_
 refine arc (some 61) (fun K hK => ?_) ?_
 {
 go_simp
 first | refine oD hK (S9b _ _ _ hH) fun hH hA => ?_ | refine oA hK (S9a _ _ _ hH) fun hH hA => ?_
 clear hK K
 (try simp only [cq])
 obtain ⟨bP, hbA⟩ : ∃ b, Blk.num hA = b := ⟨_, rfl⟩
 obtain ⟨W, hW⟩ : ∃ V, Blk.wld hA = V := ⟨_, rfl⟩
 simp only [Blk.num] at hbA
 simp only [Blk.wld] at hW
 first | replace hAbQ := awB hW hAbQ | replace hAbQ := awD hW hAbQ
 first | replace hAbR := awB hW hAbR | replace hAbR := awD hW hAbR
 rw [hW] at hH hA ⊢
 rw [hbA] at hA ⊢
 clear hW hbA
 have hAbP := hA
 clear hA
 refine tkY 24 (some 17) ?_ ?_ ?_
 rotate_left
 · intro w _; go_simp; (try with_reducible rfl)
 (try simp only [cq])
 refine tkY 25 (some 18) ?_ ?_ ?_
 rotate_left
 · intro w _; go_simp; (try with_reducible rfl)
 (try simp only [cq])
 refine tkY 26 (some 19) ?_ ?_ ?_
 rotate_left
 · intro w _; go_simp; (try with_reducible rfl)
 (try simp only [cq])
 exact X_3_7_11_16_21 z1 z2 bP bQ bR W ⟨hH, hAbP, hAbQ, hAbR⟩
 }
 refine arc (some 76) (fun K hK => ?_) ?_
 {
 go_simp
 first | refine oD hK (S9b _ _ _ hH) fun hH hA => ?_ | refine oA hK (S9a _ _ _ hH) fun hH hA => ?_
 clear hK K
 (try simp only [cq])
 exact X_7_11_16_18_21 z1 z2 bQ bR _ _ ⟨hH, (hAbQ.alloc _), (hAbR.alloc _), hA⟩
 }
 refine arc (some 81) (fun K hK => ?_) ?_
 {
 go_simp
 first | refine oD hK (S9b _ _ _ hH) fun hH hA => ?_ | refine oA hK (S9a _ _ _ hH) fun hH hA => ?_
 clear hK K
 (try simp only [cq])
 exact X_7_11_16_21_23 z1 z2 bQ bR _ _ ⟨hH, (hAbQ.alloc _), (hAbR.alloc _), hA⟩
 }
 exact AllReadyH.nil
 }
 }
 {
 (try clear hH)
 intro z1 bQ bR bT W hall
 obtain ⟨hH, hAbQ, hAbR, hAbT⟩ := hall
 (try dsimp only at hH)
 refine wpAnyH_ready (rs := [3, 21]) (by kernel_rfl) (by simp) ?_
 refine arc (some 61) (fun K hK => ?_) ?_
 {
 go_simp
 first | refine oD hK (S9b _ _ _ hH) fun hH hA => ?_ | refine oA hK (S9a _ _ _ hH) fun hH hA => ?_
 clear hK K
 (try simp only [cq])
 obtain ⟨bP, hbA⟩ : ∃ b, Blk.num hA = b := ⟨_, rfl⟩
 obtain ⟨W, hW⟩ : ∃ V, Blk.wld hA = V := ⟨_, rfl⟩
 simp only [Blk.num] at hbA
 simp only [Blk.wld] at hW
 first | replace hAbQ := awB hW hAbQ | replace hAbQ := awD hW hAbQ
 first | replace hAbR := awB hW hAbR | replace hAbR := awD hW hAbR
 first | replace hAbT := awB hW hAbT | replace hAbT := awD hW hAbT
 rw [hW] at hH hA ⊢
 rw [hbA] at hA ⊢
 clear hW hbA
 have hAbP := hA
 clear hA
 exact X_3_7_11_16_18 z1 bP bQ bR bT W ⟨hH, hAbP, hAbQ, hAbR, hAbT⟩
 }
 refine arc (some 79) (fun K hK => ?_) ?_
 {
 go_simp
 (refine (below_in _ bs _ (hH.2.2.2.2.2.2.1) (by decide)).mono ?_; rintro e w' ⟨z2, rfl, _, _, hd⟩)
 (replace hAbQ := hd.blk hAbQ (blk_seed hAbQ (hH.2.2.2.2.2.2.1) (by decide)))
 (replace hAbR := hd.blk hAbR (blk_seed hAbR (hH.2.2.2.2.2.2.1) (by decide)))
 (replace hAbT := hd.blk hAbT (blk_seed hAbT (hH.2.2.2.2.2.2.1) (by decide)))
 refine hK.out _ _ ?_ ?_
 · (exact ⟨hd.blk hH.1 (by omega), hd.blk (hH.2.1) (by omega), hd.blk (hH.2.2.1) (by omega), hd.blk (hH.2.2.2.1) (by omega), hd.row (hH.2.2.2.2.1) (by omega), hd.row (hH.2.2.2.2.2.1) (by omega), hd.seed, Drawn.below (hH.2.2.2.2.2.2.2) hd zwbs⟩)
 (try clear hH); (try clear hd)
 intro hH
 clear hK K
 (try simp only [cq])
 exact X_7_11_16_18_21 z1 z2 bQ bR bT w' ⟨hH, hAbQ, hAbR, hAbT⟩
 }
 exact AllReadyH.nil
 }
 }
 {
 (try clear hH)
 intro z1 z2 bP bU W hall
 obtain ⟨hH, hAbP, hAbU⟩ := hall
 (try dsimp only at hH)
 refine wpAnyH_ready (rs := [7, 11, 18]) (by kernel_rfl) (by simp) ?_
 refine arc (some 65) (fun K hK => ?_) ?_
 {
 go_simp
 first | refine oD hK (S9b _ _ _ hH) fun hH hA => ?_ | refine oA hK (S9a _ _ _ hH) fun hH hA => ?_
 clear hK K
 (try simp only [cq])
 refine tkY 25 (some 18) ?_ ?_ ?_
 rotate_left
 · intro w _; go_simp; (try with_reducible rfl)
 (try simp only [cq])
 exact X_3_7_16_21_23 z1 z2 bP _ bU _ ⟨hH, (hAbP.alloc _), hA, (hAbU.alloc _)⟩
 }
 refine arc (some 69) (fun K hK => ?_) ?_
 {
 go_simp
 first | refine oD hK (S9b _ _ _ hH) fun hH hA => ?_ | refine oA hK (S9a _ _ _ hH) fun hH hA => ?_
 clear hK K
 (try simp only [cq])
 exact X_3_11_16_21_23 z1 z2 bP _ bU _ ⟨hH, (hAbP.alloc _), hA, (hAbU.alloc _)⟩
 }
 refine arc (some 76) (fun K hK => ?_) ?_
 {
 go_simp
 first | refine oD hK (S9b _ _ _ hH) fun hH hA => ?_ | refine oA hK (S9a _ _ _ hH) fun hH hA => ?_
 clear hK K
 (try simp only [cq])
 exact X_3_16_18_21_23 z1 z2 bP _ bU _ ⟨hH, (hAbP.alloc _), hA, (hAbU.alloc _)⟩
 }
 exact AllReadyH.nil
 }
 }
 {
 (try clear hH)
 intro z1 z2 bP bT W hall
 obtain ⟨hH, hAbP, hAbT⟩ := hall
 (try dsimp only at hH)
 refine wpAnyH_ready (rs := [7, 11, 23]) (by kernel_rfl) (by simp) ?_
 refine arc (some 65) (fun K hK => ?_) ?_
 {
 go_simp
 first | refine oD hK (S9b _ _ _ hH) fun hH hA => ?_ | refine oA hK (S9a _ _ _ hH) fun hH hA => ?_
 clear hK K
 (try simp only [cq])
 refine tkY 25 (some 18) ?_ ?_ ?_
 rotate_left
 · intro w _; go_simp; (try with_reducible rfl)
 (try simp only [cq])
 exact X_3_7_16_18_21 z1 z2 bP _ bT _ ⟨hH, (hAbP.alloc _), hA, (hAbT.alloc _)⟩
 }
 refine arc (some 69) (fun K hK => ?_) ?_
 {
 go_simp
 first | refine oD hK (S9b _ _ _ hH) fun hH hA => ?_ | refine oA hK (S9a _ _ _ hH) fun hH hA => ?_
 clear hK K
 (try simp only [cq])
 exact X_3_11_16_18_21 z1 z2 bP _ bT _ ⟨hH, (hAbP.alloc _), hA, (hAbT.alloc _)⟩
 }
 refine arc (some 81) (fun K hK => ?_) ?_
 {
 go_simp
 first | refine oD hK (S9b _ _ _ hH) fun hH hA => ?_ | refine oA hK (S9a _ _ _ hH) fun hH hA => ?_
 clear hK K
 (try simp only [cq])
 exact X_3_16_18_21_23 z1 z2 bP bT _ _ ⟨hH, (hAbP.alloc _), (hAbT.alloc _), hA⟩
 }
 exact AllReadyH.nil
 }
 }
 {
 (try clear hH)
 intro z1 z2 bP bR W hall
 obtain ⟨hH, hAbP, hAbR⟩ := hall
 (try dsimp only at hH)
 refine wpAnyH_ready (rs := [7, 18, 23]) (by kernel_rfl) (by simp) ?_
 refine arc (some 65) (fun K hK => ?_) ?_
 {
 go_simp
 first | refine oD hK (S9b _ _ _ hH) fun hH hA => ?_ | refine oA hK (S9a _ _ _ hH) fun hH hA => ?_
 clear hK K
 (try simp only [cq])
 refine tkY 25 (some 18) ?_ ?_ ?_
 rotate_left
 · intro w _; go_simp; (try with_reducible rfl)
 (try simp only [cq])
 refine tkY 26 (some 19) ?_ ?_ ?_
 rotate_left
 · intro w _; go_simp; (try with_reducible rfl)
 (try simp only [cq])
 exact X_3_7_11_16_21 z1 z2 bP _ bR _ ⟨hH, (hAbP.alloc _), hA, (hAbR.alloc _)⟩
 }
 refine arc (some 76) (fun K hK => ?_) ?_
 {
 go_simp
 first | refine oD hK (S9b _ _ _ hH) fun hH hA => ?_ | refine oA hK (S9a _ _ _ hH) fun hH hA => ?_
 clear hK K
 (try simp only [cq])
 exact X_3_11_16_18_21 z1 z2 bP bR _ _ ⟨hH, (hAbP.alloc _), (hAbR.alloc _), hA⟩
 }
 refine arc (some 81) (fun K hK => ?_) ?_
 {
 go_simp
 first | refine oD hK (S9b _ _ _ hH) fun hH hA => ?_ | refine oA hK (S9a _ _ _ hH) fun hH hA => ?_
 clear hK K
 (try simp only [cq])
 exact X_3_11_16_21_23 z1 z2 bP bR _ _ ⟨hH, (hAbP.alloc _), (hAbR.alloc _), hA⟩
 }
 exact AllReadyH.nil
 }
 }
 {
 (try clear hH)
 intro z1 bP bR bT W hall
 obtain ⟨hH, hAbP, hAbR, hAbT⟩ := hall
 (try dsimp only at hH)
 refine wpAnyH_ready (rs := [7, 21]) (by kernel_rfl) (by simp) ?_
 refine arc (some 65) (fun K hK => ?_) ?_
 {
 go_simp
 first | refine oD hK (S9b _ _ _ hH) fun hH hA => ?_ | refine oA hK (S9a _ _ _ hH) fun hH hA => ?_
 clear hK K
 (try simp only [cq])
 exact X_3_7_11_16_18 z1 bP _ bR bT _ ⟨hH, (hAbP.alloc _), hA, (hAbR.alloc _), (hAbT.alloc _)⟩
 }
 refine arc (some 79) (fun K hK => ?_) ?_
 {
 go_simp
 (refine (below_in _ bs _ (hH.2.2.2.2.2.2.1) (by decide)).mono ?_; rintro e w' ⟨z2, rfl, _, _, hd⟩)
 (replace hAbP := hd.blk hAbP (blk_seed hAbP (hH.2.2.2.2.2.2.1) (by decide)))
 (replace hAbR := hd.blk hAbR (blk_seed hAbR (hH.2.2.2.2.2.2.1) (by decide)))
 (replace hAbT := hd.blk hAbT (blk_seed hAbT (hH.2.2.2.2.2.2.1) (by decide)))
 refine hK.out _ _ ?_ ?_
 · (exact ⟨hd.blk hH.1 (by omega), hd.blk (hH.2.1) (by omega), hd.blk (hH.2.2.1) (by omega), hd.blk (hH.2.2.2.1) (by omega), hd.row (hH.2.2.2.2.1) (by omega), hd.row (hH.2.2.2.2.2.1) (by omega), hd.seed, Drawn.below (hH.2.2.2.2.2.2.2) hd zwbs⟩)
 (try clear hH); (try clear hd)
 intro hH
 clear hK K
 (try simp only [cq])
 refine tkY 24 (some 17) ?_ ?_ ?_
 rotate_left
 · intro w _; go_simp; (try with_reducible rfl)
 (try simp only [cq])
 exact X_3_11_16_18_21 z1 z2 bP bR bT w' ⟨hH, hAbP, hAbR, hAbT⟩
 }
 exact AllReadyH.nil
 }
 }
 {
 (try clear hH)
 intro z1 z2 bP bQ W hall
 obtain ⟨hH, hAbP, hAbQ⟩ := hall
 (try dsimp only at hH)
 refine wpAnyH_ready (rs := [11, 18, 23]) (by kernel_rfl) (by simp) ?_
 refine arc (some 69) (fun K hK => ?_) ?_
 {
 go_simp
 first | refine oD hK (S9b _ _ _ hH) fun hH hA => ?_ | refine oA hK (S9a _ _ _ hH) fun hH hA => ?_
 clear hK K
 (try simp only [cq])
 refine tkY 26 (some 19) ?_ ?_ ?_
 rotate_left
 · intro w _; go_simp; (try with_reducible rfl)
 (try simp only [cq])
 exact X_3_7_11_16_21 z1 z2 bP bQ _ _ ⟨hH, (hAbP.alloc _), (hAbQ.alloc _), hA⟩
 }
 refine arc (some 76) (fun K hK => ?_) ?_
 {
 go_simp
 first | refine oD hK (S9b _ _ _ hH) fun hH hA => ?_ | refine oA hK (S9a _ _ _ hH) fun hH hA => ?_
 clear hK K
 (try simp only [cq])
 exact X_3_7_16_18_21 z1 z2 bP bQ _ _ ⟨hH, (hAbP.alloc _), (hAbQ.alloc _), hA⟩
 }
 refine arc (some 81) (fun K hK => ?_) ?_
 {
 go_simp
 first | refine oD hK (S9b _ _ _ hH) fun hH hA => ?_ | refine oA hK (S9a _ _ _ hH) fun hH hA => ?_
 clear hK K
 (try simp only [cq])
 exact X_3_7_16_21_23 z1 z2 bP bQ _ _ ⟨hH, (hAbP.alloc _), (hAbQ.alloc _), hA⟩
 }
 exact AllReadyH.nil
 }
 }
 {
 (try clear hH)
 intro z1 bP bQ bT W hall
 obtain ⟨hH, hAbP, hAbQ, hAbT⟩ := hall
 (try dsimp only at hH)
 refine wpAnyH_ready (rs := [11, 21]) (by kernel_rfl) (by simp) ?_
 refine arc (some 69) (fun K hK => ?_) ?_
 {
 go_simp
 first | refine oD hK (S9b _ _ _ hH) fun hH hA => ?_ | refine oA hK (S9a _ _ _ hH) fun hH hA => ?_
 clear hK K
 (try simp only [cq])
 exact X_3_7_11_16_18 z1 bP bQ _ bT _ ⟨hH, (hAbP.alloc _), (hAbQ.alloc _), hA, (hAbT.alloc _)⟩
 }
 refine arc (some 79) (fun K hK => ?_) ?_
 {
 go_simp
 (refine (below_in _ bs _ (hH.2.2.2.2.2.2.1) (by decide)).mono ?_; rintro e w' ⟨z2, rfl, _, _, hd⟩)
 (replace hAbP := hd.blk hAbP (blk_seed hAbP (hH.2.2.2.2.2.2.1) (by decide)))
 (replace hAbQ := hd.blk hAbQ (blk_seed hAbQ (hH.2.2.2.2.2.2.1) (by decide)))
 (replace hAbT := hd.blk hAbT (blk_seed hAbT (hH.2.2.2.2.2.2.1) (by decide)))
 refine hK.out _ _ ?_ ?_
 · (exact ⟨hd.blk hH.1 (by omega), hd.blk (hH.2.1) (by omega), hd.blk (hH.2.2.1) (by omega), hd.blk (hH.2.2.2.1) (by omega), hd.row (hH.2.2.2.2.1) (by omega), hd.row (hH.2.2.2.2.2.1) (by omega), hd.seed, Drawn.below (hH.2.2.2.2.2.2.2) hd zwbs⟩)
 (try clear hH); (try clear hd)
 intro hH
 clear hK K
 (try simp only [cq])
 refine tkY 24 (some 17) ?_ ?_ ?_
 rotate_left
 · intro w _; go_simp; (try with_reducible rfl)
 (try simp only [cq])
 refine tkY 25 (some 18) ?_ ?_ ?_
 rotate_left
 · intro w _; go_simp; (try with_reducible rfl)
 (try simp only [cq])
 exact X_3_7_16_18_21 z1 z2 bP bQ bT w' ⟨hH, hAbP, hAbQ, hAbT⟩
 }
 exact AllReadyH.nil
 }
 }
 {
 (try clear hH)
 intro z1 bP bQ bR W hall
 obtain ⟨hH, hAbP, hAbQ, hAbR⟩ := hall
 (try dsimp only at hH)
 refine wpAnyH_ready (rs := [18, 21]) (by kernel_rfl) (by simp) ?_
 refine arc (some 76) (fun K hK => ?_) ?_
 {
 go_simp
 first | refine oD hK (S9b _ _ _ hH) fun hH hA => ?_ | refine oA hK (S9a _ _ _ hH) fun hH hA => ?_
 clear hK K
 (try simp only [cq])
 exact X_3_7_11_16_18 z1 bP bQ bR _ _ ⟨hH, (hAbP.alloc _), (hAbQ.alloc _), (hAbR.alloc _), hA⟩
 }
 refine arc (some 79) (fun K hK => ?_) ?_
 {
 go_simp
 (refine (below_in _ bs _ (hH.2.2.2.2.2.2.1) (by decide)).mono ?_; rintro e w' ⟨z2, rfl, _, _, hd⟩)
 (replace hAbP := hd.blk hAbP (blk_seed hAbP (hH.2.2.2.2.2.2.1) (by decide)))
 (replace hAbQ := hd.blk hAbQ (blk_seed hAbQ (hH.2.2.2.2.2.2.1) (by decide)))
 (replace hAbR := hd.blk hAbR (blk_seed hAbR (hH.2.2.2.2.2.2.1) (by decide)))
 refine hK.out _ _ ?_ ?_
 · (exact ⟨hd.blk hH.1 (by omega), hd.blk (hH.2.1) (by omega), hd.blk (hH.2.2.1) (by omega), hd.blk (hH.2.2.2.1) (by omega), hd.row (hH.2.2.2.2.1) (by omega), hd.row (hH.2.2.2.2.2.1) (by omega), hd.seed, Drawn.below (hH.2.2.2.2.2.2.2) hd zwbs⟩)
 (try clear hH); (try clear hd)
 intro hH
 clear hK K
 (try simp only [cq])
 refine tkY 24 (some 17) ?_ ?_ ?_
 rotate_left
 · intro w _; go_simp; (try with_reducible rfl)
 (try simp only [cq])
 refine tkY 25 (some 18) ?_ ?_ ?_
 rotate_left
 · intro w _; go_simp; (try with_reducible rfl)
 (try simp only [cq])
 refine tkY 26 (some 19) ?_ ?_ ?_
 rotate_left
 · intro w _; go_simp; (try with_reducible rfl)
 (try simp only [cq])
 exact X_3_7_11_16_21 z1 z2 bP bQ bR w' ⟨hH, hAbP, hAbQ, hAbR⟩
 }
 exact AllReadyH.nil
 }
 }
 {
 (try clear hH)
 intro z1 z2 bR bT bU W hall
 obtain ⟨hH, hAbR, hAbT, hAbU⟩ := hall
 (try dsimp only at hH)
 refine wpAnyH_ready (rs := [3, 7]) (by kernel_rfl) (by simp) ?_
 refine arc (some 61) (fun K hK => ?_) ?_
 {
 go_simp
 first | refine oD hK (S9b _ _ _ hH) fun hH hA => ?_ | refine oA hK (S9a _ _ _ hH) fun hH hA => ?_
 clear hK K
 (try simp only [cq])
 obtain ⟨bP, hbA⟩ : ∃ b, Blk.num hA = b := ⟨_, rfl⟩
 obtain ⟨W, hW⟩ : ∃ V, Blk.wld hA = V := ⟨_, rfl⟩
 simp only [Blk.num] at hbA
 simp only [Blk.wld] at hW
 first | replace hAbR := awB hW hAbR | replace hAbR := awD hW hAbR
 first | replace hAbT := awB hW hAbT | replace hAbT := awD hW hAbT
 first | replace hAbU := awB hW hAbU | replace hAbU := awD hW hAbU
 rw [hW] at hH hA ⊢
 rw [hbA] at hA ⊢
 clear hW hbA
 have hAbP := hA
 clear hA
 refine tkY 24 (some 17) ?_ ?_ ?_
 rotate_left
 · intro w _; go_simp; (try with_reducible rfl)
 (try simp only [cq])
 exact X_3_11_16_18_21_23 z1 z2 bP bR bT bU W ⟨hH, hAbP, hAbR, hAbT, hAbU⟩
 }
 refine arc (some 65) (fun K hK => ?_) ?_
 {
 go_simp
 first | refine oD hK (S9b _ _ _ hH) fun hH hA => ?_ | refine oA hK (S9a _ _ _ hH) fun hH hA => ?_
 clear hK K
 (try simp only [cq])
 obtain ⟨bQ, hbA⟩ : ∃ b, Blk.num hA = b := ⟨_, rfl⟩
 obtain ⟨W, hW⟩ : ∃ V, Blk.wld hA = V := ⟨_, rfl⟩
 simp only [Blk.num] at hbA
 simp only [Blk.wld] at hW
 first | replace hAbR := awB hW hAbR | replace hAbR := awD hW hAbR
 first | replace hAbT := awB hW hAbT | replace hAbT := awD hW hAbT
 first | replace hAbU := awB hW hAbU | replace hAbU := awD hW hAbU
 rw [hW] at hH hA ⊢
 rw [hbA] at hA ⊢
 clear hW hbA
 have hAbQ := hA
 clear hA
 exact X_7_11_16_18_21_23 z1 z2 bQ bR bT bU W ⟨hH, hAbQ, hAbR, hAbT, hAbU⟩
 }
 exact AllReadyH.nil
 }
 }
 {
 (try clear hH)
 intro z1 z2 bQ bT bU W hall
 obtain ⟨hH, hAbQ, hAbT, hAbU⟩ := hall
 (try dsimp only at hH)
 refine wpAnyH_ready (rs := [3, 11]) (by kernel_rfl) (by simp) ?_
 refine arc (some 61) (fun K hK => ?_) ?_
 {
 go_simp
 first | refine oD hK (S9b _ _ _ hH) fun hH hA => ?_ | refine oA hK (S9a _ _ _ hH) fun hH hA => ?_
 clear hK K
 (try simp only [cq])
 obtain ⟨bP, hbA⟩ : ∃ b, Blk.num hA = b := ⟨_, rfl⟩
 obtain ⟨W, hW⟩ : ∃ V, Blk.wld hA = V := ⟨_, rfl⟩
 simp only [Blk.num] at hbA
 simp only [Blk.wld] at hW
 first | replace hAbQ := awB hW hAbQ | replace hAbQ := awD hW hAbQ
 first | replace hAbT := awB hW hAbT | replace hAbT := awD hW hAbT
 first | replace hAbU := awB hW hAbU | replace hAbU := awD hW hAbU
 rw [hW] at hH hA ⊢
 rw [hbA] at hA ⊢
 clear hW hbA
 have hAbP := hA
 clear hA
 refine tkY 24 (some 17) ?_ ?_ ?_
 rotate_left
 · intro w _; go_simp; (try with_reducible rfl)
 (try simp only [cq])
 refine tkY 25 (some 18) ?_ ?_ ?_
 rotate_left
 · intro w _; go_simp; (try with_reducible rfl)
 (try simp only [cq])
 exact X_3_7_16_18_21_23 z1 z2 bP bQ bT bU W ⟨hH, hAbP, hAbQ, hAbT, hAbU⟩
 }
 refine arc (some 69) (fun K hK => ?_) ?_
 {
 go_simp
 first | refine oD hK (S9b _ _ _ hH) fun hH hA => ?_ | refine oA hK (S9a _ _ _ hH) fun hH hA => ?_
 clear hK K
 (try simp only [cq])
 exact X_7_11_16_18_21_23 z1 z2 bQ _ bT bU _ ⟨hH, (hAbQ.alloc _), hA, (hAbT.alloc _), (hAbU.alloc _)⟩
 }
 exact AllReadyH.nil
 }
 }
 {
 (try clear hH)
 intro z1 z2 bQ bR bU W hall
 obtain ⟨hH, hAbQ, hAbR, hAbU⟩ := hall
 (try dsimp only at hH)
 refine wpAnyH_ready (rs := [3, 18]) (by kernel_rfl) (by simp) ?_
 refine arc (some 61) (fun K hK => ?_) ?_
 {
 go_simp
 first | refine oD hK (S9b _ _ _ hH) fun hH hA => ?_ | refine oA hK (S9a _ _ _ hH) fun hH hA => ?_
 clear hK K
 (try simp only [cq])
 obtain ⟨bP, hbA⟩ : ∃ b, Blk.num hA = b := ⟨_, rfl⟩
 obtain ⟨W, hW⟩ : ∃ V, Blk.wld hA = V := ⟨_, rfl⟩
 simp only [Blk.num] at hbA
 simp only [Blk.wld] at hW
 first | replace hAbQ := awB hW hAbQ | replace hAbQ := awD hW hAbQ
 first | replace hAbR := awB hW hAbR | replace hAbR := awD hW hAbR
 first | replace hAbU := awB hW hAbU | replace hAbU := awD hW hAbU
 rw [hW] at hH hA ⊢
 rw [hbA] at hA ⊢
 clear hW hbA
 have hAbP := hA
 clear hA
 refine tkY 24 (some 17) ?_ ?_ ?_
 rotate_left
 · intro w _; go_simp; (try with_reducible rfl)
 (try simp only [cq])
 refine tkY 25 (some 18) ?_ ?_ ?_
 rotate_left
 · intro w _; go_simp; (try with_reducible rfl)
 (try simp only [cq])
 refine tkY 26 (some 19) ?_ ?_ ?_
 rotate_left
 · intro w _; go_simp; (try with_reducible rfl)
 (try simp only [cq])
 exact X_3_7_11_16_21_23 z1 z2 bP bQ bR bU W ⟨hH, hAbP, hAbQ, hAbR, hAbU⟩
 }
 refine arc (some 76) (fun K hK => ?_) ?_
 {
 go_simp
 first | refine oD hK (S9b _ _ _ hH) fun hH hA => ?_ | refine oA hK (S9a _ _ _ hH) fun hH hA => ?_
 clear hK K
 (try simp only [cq])
 exact X_7_11_16_18_21_23 z1 z2 bQ bR _ bU _ ⟨hH, (hAbQ.alloc _), (hAbR.alloc _), hA, (hAbU.alloc _)⟩
 }
 exact AllReadyH.nil
 }
 }
 {
 (try clear hH)
 intro z1 z2 bQ bR bT W hall
 obtain ⟨hH, hAbQ, hAbR, hAbT⟩ := hall
 (try dsimp only at hH)
 refine wpAnyH_ready (rs := [3, 23]) (by kernel_rfl) (by simp) ?_
 refine arc (some 61) (fun K hK => ?_) ?_
 {
 go_simp
 first | refine oD hK (S9b _ _ _ hH) fun hH hA => ?_ | refine oA hK (S9a _ _ _ hH) fun hH hA => ?_
 clear hK K
 (try simp only [cq])
 obtain ⟨bP, hbA⟩ : ∃ b, Blk.num hA = b := ⟨_, rfl⟩
 obtain ⟨W, hW⟩ : ∃ V, Blk.wld hA = V := ⟨_, rfl⟩
 simp only [Blk.num] at hbA
 simp only [Blk.wld] at hW
 first | replace hAbQ := awB hW hAbQ | replace hAbQ := awD hW hAbQ
 first | replace hAbR := awB hW hAbR | replace hAbR := awD hW hAbR
 first | replace hAbT := awB hW hAbT | replace hAbT := awD hW hAbT
 rw [hW] at hH hA ⊢
 rw [hbA] at hA ⊢
 clear hW hbA
 have hAbP := hA
 clear hA
 refine tkY 24 (some 17) ?_ ?_ ?_
 rotate_left
 · intro w _; go_simp; (try with_reducible rfl)
 (try simp only [cq])
 refine tkY 25 (some 18) ?_ ?_ ?_
 rotate_left
 · intro w _; go_simp; (try with_reducible rfl)
 (try simp only [cq])
 refine tkY 26 (some 19) ?_ ?_ ?_
 rotate_left
 · intro w _; go_simp; (try with_reducible rfl)
 (try simp only [cq])
 refine tkY 27 (some 20) ?_ ?_ ?_
 rotate_left
 · intro w _; go_simp; (try with_reducible rfl)
 (try simp only [cq])
 exact X_3_7_11_16_18_21 z1 z2 bP bQ bR bT W ⟨hH, hAbP, hAbQ, hAbR, hAbT⟩
 }
 refine arc (some 81) (fun K hK => ?_) ?_
 {
 go_simp
 first | refine oD hK (S9b _ _ _ hH) fun hH hA => ?_ | refine oA hK (S9a _ _ _ hH) fun hH hA => ?_
 clear hK K
 (try simp only [cq])
 exact X_7_11_16_18_21_23 z1 z2 bQ bR bT _ _ ⟨hH, (hAbQ.alloc _), (hAbR.alloc _), (hAbT.alloc _), hA⟩
 }
 exact AllReadyH.nil
 }
 }
 {
 (try clear hH)
 intro z1 z2 bP bT bU W hall
 obtain ⟨hH, hAbP, hAbT, hAbU⟩ := hall
 (try dsimp only at hH)
 refine wpAnyH_ready (rs := [7, 11]) (by kernel_rfl) (by simp) ?_
 refine arc (some 65) (fun K hK => ?_) ?_
 {
 go_simp
 first | refine oD hK (S9b _ _ _ hH) fun hH hA => ?_ | refine oA hK (S9a _ _ _ hH) fun hH hA => ?_
 clear hK K
 (try simp only [cq])
 refine tkY 25 (some 18) ?_ ?_ ?_
 rotate_left
 · intro w _; go_simp; (try with_reducible rfl)
 (try simp only [cq])
 exact X_3_7_16_18_21_23 z1 z2 bP _ bT bU _ ⟨hH, (hAbP.alloc _), hA, (hAbT.alloc _), (hAbU.alloc _)⟩
 }
 refine arc (some 69) (fun K hK => ?_) ?_
 {
 go_simp
 first | refine oD hK (S9b _ _ _ hH) fun hH hA => ?_ | refine oA hK (S9a _ _ _ hH) fun hH hA => ?_
 clear hK K
 (try simp only [cq])
 exact X_3_11_16_18_21_23 z1 z2 bP _ bT bU _ ⟨hH, (hAbP.alloc _), hA, (hAbT.alloc _), (hAbU.alloc _)⟩
 }
 exact AllReadyH.nil
 }
 }
 {
 (try clear hH)
 intro z1 z2 bP bR bU W hall
 obtain ⟨hH, hAbP, hAbR, hAbU⟩ := hall
 (try dsimp only at hH)
 refine wpAnyH_ready (rs := [7, 18]) (by kernel_rfl) (by simp) ?_
 refine arc (some 65) (fun K hK => ?_) ?_
 {
 go_simp
 first | refine oD hK (S9b _ _ _ hH) fun hH hA => ?_ | refine oA hK (S9a _ _ _ hH) fun hH hA => ?_
 clear hK K
 (try simp only [cq])
 refine tkY 25 (some 18) ?_ ?_ ?_
 rotate_left
 · intro w _; go_simp; (try with_reducible rfl)
 (try simp only [cq])
 refine tkY 26 (some 19) ?_ ?_ ?_
 rotate_left
 · intro w _; go_simp; (try with_reducible rfl)
 (try simp only [cq])
 exact X_3_7_11_16_21_23 z1 z2 bP _ bR bU _ ⟨hH, (hAbP.alloc _), hA, (hAbR.alloc _), (hAbU.alloc _)⟩
 }
 refine arc (some 76) (fun K hK => ?_) ?_
 {
 go_simp
 first | refine oD hK (S9b _ _ _ hH) fun hH hA => ?_ | refine oA hK (S9a _ _ _ hH) fun hH hA => ?_
 clear hK K
 (try simp only [cq])
 exact X_3_11_16_18_21_23 z1 z2 bP bR _ bU _ ⟨hH, (hAbP.alloc _), (hAbR.alloc _), hA, (hAbU.alloc _)⟩
 }
 exact AllReadyH.nil
 }
 }
 {
 (try clear hH)
 intro z1 z2 bP bR bT W hall
 obtain ⟨hH, hAbP, hAbR, hAbT⟩ := hall
 (try dsimp only at hH)
 refine wpAnyH_ready (rs := [7, 23]) (by kernel_rfl) (by simp) ?_
 refine arc (some 65) (fun K hK => ?_) ?_
 {
 go_simp
 first | refine oD hK (S9b _ _ _ hH) fun hH hA => ?_ | refine oA hK (S9a _ _ _ hH) fun hH hA => ?_
 clear hK K
 (try simp only [cq])
 refine tkY 25 (some 18) ?_ ?_ ?_
 rotate_left
 · intro w _; go_simp; (try with_reducible rfl)
 (try simp only [cq])
 refine tkY 26 (some 19) ?_ ?_ ?_
 rotate_left
 · intro w _; go_simp; (try with_reducible rfl)
 (try simp only [cq])
 refine tkY 27 (some 20) ?_ ?_ ?_
 rotate_left
 · intro w _; go_simp; (try with_reducible rfl)
 (try simp only [cq])
 exact X_3_7_11_16_18_21 z1 z2 bP _ bR bT _ ⟨hH, (hAbP.alloc _), hA, (hAbR.alloc _), (hAbT.alloc _)⟩
 }
 refine arc (some 81) (fun K hK => ?_) ?_
 {
 go_simp
 first | refine oD hK (S9b _ _ _ hH) fun hH hA => ?_ | refine oA hK (S9a _ _ _ hH) fun hH hA => ?_
 clear hK K
 (try simp only [cq])
 exact X_3_11_16_18_21_23 z1 z2 bP bR bT _ _ ⟨hH, (hAbP.alloc _), (hAbR.alloc _), (hAbT.alloc _), hA⟩
 }
 exact AllReadyH.nil
 }
 }
 {
 (try clear hH)
 intro z1 z2 bP bQ bU W hall
 obtain ⟨hH, hAbP, hAbQ, hAbU⟩ := hall
 (try dsimp only at hH)
 refine wpAnyH_ready (rs := [11, 18]) (by kernel_rfl) (by simp) ?_
 refine arc (some 69) (fun K hK => ?_) ?_
 {
 go_simp
 first | refine oD hK (S9b _ _ _ hH) fun hH hA => ?_ | refine oA hK (S9a _ _ _ hH) fun hH hA => ?_
 clear hK K
 (try simp only [cq])
 refine tkY 26 (some 19) ?_ ?_ ?_
 rotate_left
 · intro w _; go_simp; (try with_reducible rfl)
 (try simp only [cq])
 exact X_3_7_11_16_21_23 z1 z2 bP bQ _ bU _ ⟨hH, (hAbP.alloc _), (hAbQ.alloc _), hA, (hAbU.alloc _)⟩
 }
 refine arc (some 76) (fun K hK => ?_) ?_
 {
 go_simp
 first | refine oD hK (S9b _ _ _ hH) fun hH hA => ?_ | refine oA hK (S9a _ _ _ hH) fun hH hA => ?_
 clear hK K
 (try simp only [cq])
 exact X_3_7_16_18_21_23 z1 z2 bP bQ _ bU _ ⟨hH, (hAbP.alloc _), (hAbQ.alloc _), hA, (hAbU.alloc _)⟩
 }
 exact AllReadyH.nil
 }
 }
 {
 (try clear hH)
 intro z1 z2 bP bQ bT W hall
 obtain ⟨hH, hAbP, hAbQ, hAbT⟩ := hall
 (try dsimp only at hH)
 refine wpAnyH_ready (rs := [11, 23]) (by kernel_rfl) (by simp) ?_
 refine arc (some 69) (fun K hK => ?_) ?_
 {
 go_simp
 first | refine oD hK (S9b _ _ _ hH) fun hH hA => ?_ | refine oA hK (S9a _ _ _ hH) fun hH hA => ?_
 clear hK K
 (try simp only [cq])
 refine tkY 26 (some 19) ?_ ?_ ?_
 rotate_left
 · intro w _; go_simp; (try with_reducible rfl)
 (try simp only [cq])
 refine tkY 27 (some 20) ?_ ?_ ?_
 rotate_left
 · intro w _; go_simp; (try with_reducible rfl)
 (try simp only [cq])
 exact X_3_7_11_16_18_21 z1 z2 bP bQ _ bT _ ⟨hH, (hAbP.alloc _), (hAbQ.alloc _), hA, (hAbT.alloc _)⟩
 }
 refine arc (some 81) (fun K hK => ?_) ?_
 {
 go_simp
 first | refine oD hK (S9b _ _ _ hH) fun hH hA => ?_ | refine oA hK (S9a _ _ _ hH) fun hH hA => ?_
 clear hK K
 (try simp only [cq])
 exact X_3_7_16_18_21_23 z1 z2 bP bQ bT _ _ ⟨hH, (hAbP.alloc _), (hAbQ.alloc _), (hAbT.alloc _), hA⟩
 }
 exact AllReadyH.nil
 }
 }
 {
 (try clear hH)
 intro z1 z2 bP bQ bR W hall
 obtain ⟨hH, hAbP, hAbQ, hAbR⟩ := hall
 (try dsimp only at hH)
 refine wpAnyH_ready (rs := [18, 23]) (by kernel_rfl) (by simp) ?_
 refine arc (some 76) (fun K hK => ?_) ?_
 {
 go_simp
 first | refine oD hK (S9b _ _ _ hH) fun hH hA => ?_ | refine oA hK (S9a _ _ _ hH) fun hH hA => ?_
 clear hK K
 (try simp only [cq])
 refine tkY 27 (some 20) ?_ ?_ ?_
 rotate_left
 · intro w _; go_simp; (try with_reducible rfl)
 (try simp only [cq])
 exact X_3_7_11_16_18_21 z1 z2 bP bQ bR _ _ ⟨hH, (hAbP.alloc _), (hAbQ.alloc _), (hAbR.alloc _), hA⟩
 }
 refine arc (some 81) (fun K hK => ?_) ?_
 {
 go_simp
 first | refine oD hK (S9b _ _ _ hH) fun hH hA => ?_ | refine oA hK (S9a _ _ _ hH) fun hH hA => ?_
 clear hK K
 (try simp only [cq])
 exact X_3_7_11_16_21_23 z1 z2 bP bQ bR _ _ ⟨hH, (hAbP.alloc _), (hAbQ.alloc _), (hAbR.alloc _), hA⟩
 }
 exact AllReadyH.nil
 }
 }
 {
 (try clear hH)
 intro z1 bP bQ bR bT W hall
 obtain ⟨hH, hAbP, hAbQ, hAbR, hAbT⟩ := hall
 (try dsimp only at hH)
 refine wpAnyH_ready (rs := [21]) (by kernel_rfl) (by simp) ?_
 refine arc1 (some 79) fun K hK => ?_
 go_simp
 (refine (below_in _ bs _ (hH.2.2.2.2.2.2.1) (by decide)).mono ?_; rintro e w' ⟨z2, rfl, _, _, hd⟩)
 (replace hAbP := hd.blk hAbP (blk_seed hAbP (hH.2.2.2.2.2.2.1) (by decide)))
 (replace hAbQ := hd.blk hAbQ (blk_seed hAbQ (hH.2.2.2.2.2.2.1) (by decide)))
 (replace hAbR := hd.blk hAbR (blk_seed hAbR (hH.2.2.2.2.2.2.1) (by decide)))
 (replace hAbT := hd.blk hAbT (blk_seed hAbT (hH.2.2.2.2.2.2.1) (by decide)))
 refine hK.out _ _ ?_ ?_
 · (exact ⟨hd.blk hH.1 (by omega), hd.blk (hH.2.1) (by omega), hd.blk (hH.2.2.1) (by omega), hd.blk (hH.2.2.2.1) (by omega), hd.row (hH.2.2.2.2.1) (by omega), hd.row (hH.2.2.2.2.2.1) (by omega), hd.seed, Drawn.below (hH.2.2.2.2.2.2.2) hd zwbs⟩)
 (try clear hH); (try clear hd)
 intro hH
 clear hK K
 (try simp only [cq])
 refine tkY 24 (some 17) ?_ ?_ ?_
 rotate_left
 · intro w _; go_simp; (try with_reducible rfl)
 (try simp only [cq])
 refine tkY 25 (some 18) ?_ ?_ ?_
 rotate_left
 · intro w _; go_simp; (try with_reducible rfl)
 (try simp only [cq])
 refine tkY 26 (some 19) ?_ ?_ ?_
 rotate_left
 · intro w _; go_simp; (try with_reducible rfl)
 (try simp only [cq])
 refine tkY 27 (some 20) ?_ ?_ ?_
 rotate_left
 · intro w _; go_simp; (try with_reducible rfl)
 (try simp only [cq])
 exact X_3_7_11_16_18_21 z1 z2 bP bQ bR bT w' ⟨hH, hAbP, hAbQ, hAbR, hAbT⟩
 }
 }
 {
 (try clear hH)
 intro z1 z2 bQ bR bT bU W hall
 obtain ⟨hH, hAbQ, hAbR, hAbT, hAbU⟩ := hall
 (try dsimp only at hH)
 refine wpAnyH_ready (rs := [3]) (by kernel_rfl) (by simp) ?_
 refine arc1 (some 61) fun K hK => ?_
 go_simp
 first | refine oD hK (S9b _ _ _ hH) fun hH hA => ?_ | refine oA hK (S9a _ _ _ hH) fun hH hA => ?_
 clear hK K
 (try simp only [cq])
 obtain ⟨bP, hbA⟩ : ∃ b, Blk.num hA = b := ⟨_, rfl⟩
 obtain ⟨W, hW⟩ : ∃ V, Blk.wld hA = V := ⟨_, rfl⟩
 simp only [Blk.num] at hbA
 simp only [Blk.wld] at hW
 first | replace hAbQ := awB hW hAbQ | replace hAbQ := awD hW hAbQ
 first | replace hAbR := awB hW hAbR | replace hAbR := awD hW hAbR
 first | replace hAbT := awB hW hAbT | replace hAbT := awD hW hAbT
 first | replace hAbU := awB hW hAbU | replace hAbU := awD hW hAbU
 rw [hW] at hH hA ⊢
 rw [hbA] at hA ⊢
 clear hW hbA
 have hAbP := hA
 clear hA
 refine tkY 24 (some 17) ?_ ?_ ?_
 rotate_left
 · intro w _; go_simp; (try with_reducible rfl)
 (try simp only [cq])
 refine tkY 25 (some 18) ?_ ?_ ?_
 rotate_left
 · intro w _; go_simp; (try with_reducible rfl)
 (try simp only [cq])
 refine tkY 26 (some 19) ?_ ?_ ?_
 rotate_left
 · intro w _; go_simp; (try with_reducible rfl)
 (try simp only [cq])
 refine tkY 27 (some 20) ?_ ?_ ?_
 rotate_left
 · intro w _; go_simp; (try with_reducible rfl)
 (try simp only [cq])
 refine tkY 28 (some 21) ?_ ?_ ?_
 rotate_left
 · intro w _; go_simp; (try with_reducible rfl)
 (try simp only [cq])
 exact X_3_7_11_16_18_21_23 z1 z2 bP bQ bR bT bU W ⟨hH, hAbP, hAbQ, hAbR, hAbT, hAbU⟩
 }
 }
 {
 (try clear hH)
 intro z1 z2 bP bR bT bU W hall
 obtain ⟨hH, hAbP, hAbR, hAbT, hAbU⟩ := hall
 (try dsimp only at hH)
 refine wpAnyH_ready (rs := [7]) (by kernel_rfl) (by simp) ?_
 refine arc1 (some 65) fun K hK => ?_
 go_simp
 first | refine oD hK (S9b _ _ _ hH) fun hH hA => ?_ | refine oA hK (S9a _ _ _ hH) fun hH hA => ?_
 clear hK K
 (try simp only [cq])
 refine tkY 25 (some 18) ?_ ?_ ?_
 rotate_left
 · intro w _; go_simp; (try with_reducible rfl)
 (try simp only [cq])
 refine tkY 26 (some 19) ?_ ?_ ?_
 rotate_left
 · intro w _; go_simp; (try with_reducible rfl)
 (try simp only [cq])
 refine tkY 27 (some 20) ?_ ?_ ?_
 rotate_left
 · intro w _; go_simp; (try with_reducible rfl)
 (try simp only [cq])
 refine tkY 28 (some 21) ?_ ?_ ?_
 rotate_left
 · intro w _; go_simp; (try with_reducible rfl)
 (try simp only [cq])
 exact X_3_7_11_16_18_21_23 z1 z2 bP _ bR bT bU _ ⟨hH, (hAbP.alloc _), hA, (hAbR.alloc _), (hAbT.alloc _), (hAbU.alloc _)⟩
 }
 }
 {
 (try clear hH)
 intro z1 z2 bP bQ bT bU W hall
 obtain ⟨hH, hAbP, hAbQ, hAbT, hAbU⟩ := hall
 (try dsimp only at hH)
 refine wpAnyH_ready (rs := [11]) (by kernel_rfl) (by simp) ?_
 refine arc1 (some 69) fun K hK => ?_
 go_simp
 first | refine oD hK (S9b _ _ _ hH) fun hH hA => ?_ | refine oA hK (S9a _ _ _ hH) fun hH hA => ?_
 clear hK K
 (try simp only [cq])
 refine tkY 26 (some 19) ?_ ?_ ?_
 rotate_left
 · intro w _; go_simp; (try with_reducible rfl)
 (try simp only [cq])
 refine tkY 27 (some 20) ?_ ?_ ?_
 rotate_left
 · intro w _; go_simp; (try with_reducible rfl)
 (try simp only [cq])
 refine tkY 28 (some 21) ?_ ?_ ?_
 rotate_left
 · intro w _; go_simp; (try with_reducible rfl)
 (try simp only [cq])
 exact X_3_7_11_16_18_21_23 z1 z2 bP bQ _ bT bU _ ⟨hH, (hAbP.alloc _), (hAbQ.alloc _), hA, (hAbT.alloc _), (hAbU.alloc _)⟩
 }
 }
 {
 (try clear hH)
 intro z1 z2 bP bQ bR bU W hall
 obtain ⟨hH, hAbP, hAbQ, hAbR, hAbU⟩ := hall
 (try dsimp only at hH)
 refine wpAnyH_ready (rs := [18]) (by kernel_rfl) (by simp) ?_
 refine arc1 (some 76) fun K hK => ?_
 go_simp
 first | refine oD hK (S9b _ _ _ hH) fun hH hA => ?_ | refine oA hK (S9a _ _ _ hH) fun hH hA => ?_
 clear hK K
 (try simp only [cq])
 refine tkY 27 (some 20) ?_ ?_ ?_
 rotate_left
 · intro w _; go_simp; (try with_reducible rfl)
 (try simp only [cq])
 refine tkY 28 (some 21) ?_ ?_ ?_
 rotate_left
 · intro w _; go_simp; (try with_reducible rfl)
 (try simp only [cq])
 exact X_3_7_11_16_18_21_23 z1 z2 bP bQ bR _ bU _ ⟨hH, (hAbP.alloc _), (hAbQ.alloc _), (hAbR.alloc _), hA, (hAbU.alloc _)⟩
 }
 }
 {
 (try clear hH)
 intro z1 z2 bP bQ bR bT W hall
 obtain ⟨hH, hAbP, hAbQ, hAbR, hAbT⟩ := hall
 (try dsimp only at hH)
 refine wpAnyH_ready (rs := [23]) (by kernel_rfl) (by simp) ?_
 refine arc1 (some 81) fun K hK => ?_
 go_simp
 first | refine oD hK (S9b _ _ _ hH) fun hH hA => ?_ | refine oA hK (S9a _ _ _ hH) fun hH hA => ?_
 clear hK K
 (try simp only [cq])
 refine tkY 28 (some 21) ?_ ?_ ?_
 rotate_left
 · intro w _; go_simp; (try with_reducible rfl)
 (try simp only [cq])
 exact X_3_7_11_16_18_21_23 z1 z2 bP bQ bR bT _ _ ⟨hH, (hAbP.alloc _), (hAbQ.alloc _), (hAbR.alloc _), (hAbT.alloc _), hA⟩
 }
 }
 {
 (try clear hH)
 intro z1 z2 bP bQ bR bT bU W hall
 obtain ⟨hH, hAbP, hAbQ, hAbR, hAbT, hAbU⟩ := hall
 (try dsimp only at hH)
 refine wpAnyH_done (by kernel_rfl) ?_ _
 (try dsimp only [Act.put])
 (try simp only [cq])
 have kB := hH.2.2.2.2.2.2.2
 have kC2 := covAt_of_row (hH.2.2.2.2.1)
 have kD2 := daysAt_of_row (hH.2.2.2.2.2.1)
 have kCC := HC.out.later kB
 have kDD := HD.out.later kB
 clear hH
 go_wp2_with fail
 go_meet
 exact ⟨_, _, _, _, _, pickB (l, (Value.slice va l.n vcap)) (m, (Value.slice vb m.n vbcap)) (m, (Value.slice vb m.n vbcap)), pickB x y y, pickB (Value.slice da md dcap) (Value.slice aq (n2 + 1) cq) (Value.slice da md dcap), pickB md (n2 + 1) md, pickB d d3 d, pickB at_ z1 at_, pickB mo z2 mo, rfl, rfl, rfl, rfl, rfl, ⟨⟨_, lwArr3 _ _ _, hAbP⟩, ⟨_, icArr3 _ _ _, hAbQ⟩, ⟨_, vlArr3 _ _ _, hAbR⟩, pickB_all (P := fun (z : Lw × Value) => CovAt _ z.2 z.1.n z.1.D z.1.P0 z.1.P1) kCC kC2 kC2, fun k => by
   match k with
   | 0 => exact kDD
   | 1 => exact kD2
   | _ + 2 => exact kDD, pickB_all (P := fun z => z ≤ 420) hmd (by omega) hmd⟩, ⟨_, ivArr3 _ _ _, hAbT⟩, ⟨_, ivArr3 _ _ _, hAbU⟩, kB⟩
 } )
    case rest =>
      obtain ⟨b1, b2, b3, b4, b5, ls, xs, vs, ns, ds, zs, ms, rfl, rfl, rfl, rfl, rfl, hL, hZ, hM, kB⟩ := hcut
      obtain ⟨V3, hVV⟩ : ∃ V3, V3 = wc := ⟨_, rfl⟩
      subst hVV
      have HL := Lib.hid (And.intro hL (And.intro hZ hM))
      obtain ⟨B4, hB4⟩ : ∃ z, V3.heap.size = z := ⟨_, rfl⟩
      have HB4 := Lib.hid hB4
      have zwB : w.heap.size ≤ B4 := by have := kB.size; omega
      have zB4 : B4 ≤ V3.heap.size := by omega
      have zB4b : V3.heap.size ≤ B4 := by omega
      have zp : 0 < B4 := by obtain ⟨⟨C, _, hb⟩, _⟩ := hL; have := hb.lt; omega
      have kB4 : Below B4 V3 V3 := by rw [← hB4]; exact Below.refl _ _
      have KB := Lib.hid kB
      clear hB4 hL hZ hM kB
      go_wp2_with fail
      go_loopw [22] (fun i wr => ∃ k : Nat, k ≤ 3 ∧ i = .int .i64 k ∧ Below B4 V3 wr) (fun i _ => 3 - (intOf i).toNat)
      case atStart => exact ⟨0, Nat.zero_le _, rfl, kB4⟩
      case round =>
        clear kB4
        obtain ⟨k, hk, rfl, hb⟩ := hrel
        by_cases hlt : k < 3
        · obtain ⟨⟨⟨C1, g1, j1⟩, ⟨C2, g2, j2⟩, ⟨C3, g3, j3⟩, g4, g5, g6⟩, ⟨C4, g7, j4⟩, ⟨C5, g8, j5⟩⟩ := HL.out
          have hcv := g4 k
          have hdv := g5 k
          have hfew := g6 k
          have R1 := Lib.hid (fun (W : World) (h : Below B4 V3 W) => g1.cells (j1.below h (by have := j1.lt; omega)) hlt)
          have R2 := Lib.hid (fun (W : World) (h : Below B4 V3 W) => g2.cells (j2.below h (by have := j2.lt; omega)) hlt)
          have R3 := Lib.hid (fun (W : World) (h : Below B4 V3 W) => (j3.below h (by have := j3.lt; omega)).cell k (g3 k hlt))
          have R4 := Lib.hid (fun (W : World) (h : Below B4 V3 W) => (j4.below h (by have := j4.lt; omega)).cell k (g7 k hlt))
          have R5 := Lib.hid (fun (W : World) (h : Below B4 V3 W) => (j5.below h (by have := j5.lt; omega)).cell k (g8 k hlt))
          obtain ⟨⟨q, vq0⟩, hlv⟩ : ∃ z, ls k = z := ⟨_, rfl⟩
          obtain ⟨xk, hxk⟩ : ∃ z, xs k = z := ⟨_, rfl⟩
          obtain ⟨vk, hvk⟩ : ∃ z, vs k = z := ⟨_, rfl⟩
          obtain ⟨nk, hnk⟩ : ∃ z, ns k = z := ⟨_, rfl⟩
          obtain ⟨dk, hdk⟩ : ∃ z, ds k = z := ⟨_, rfl⟩
          obtain ⟨zk, hzk⟩ : ∃ z, zs k = z := ⟨_, rfl⟩
          obtain ⟨mk, hmk⟩ : ∃ z, ms k = z := ⟨_, rfl⟩
          rw [hlv] at hcv R1
          rw [hxk] at R2
          rw [hvk] at R3 hdv
          rw [hnk] at hdv hfew
          rw [hdk] at hdv
          rw [hzk] at R4
          rw [hmk] at R5
          dsimp only at R1 hcv
          simp only [Nat.zero_add] at R2
          clear hlv hxk hvk hnk hdk hzk hmk g1 g2 g3 g4 g5 g6 g7 g8 j1 j2 j3 j4 j5
          obtain ⟨vq, vqcap, hvq, _, _, _⟩ := id hcv
          subst hvq
          have HCV := Lib.hid (fun (W : World) (h : Below B4 V3 W) => hcv.later (by rw [← HB4.out] at h; exact h))
          have HDV := Lib.hid (fun (W : World) (h : Below B4 V3 W) => hdv.later (by rw [← HB4.out] at h; exact h))
          clear hcv hdv
          have K1 := Lib.hid (fun (W : World) (own : Value) (h : Below B4 V3 W) (ho : DaysAt W own nk dk) => fFlood_any q (.slice vq q.n vqcap) xk own nk dk zk mk W (HCV.out W h) ho)
          have K2 := Lib.hid (fun (W : World) (own : Value) (h : Below B4 V3 W) (ho : DaysAt W own nk dk) => rFlood_any q (.slice vq q.n vqcap) xk own nk dk zk mk W (HCV.out W h) ho)
          obtain ⟨E1, hE1⟩ : ∃ z, floV q xk nk dk zk mk = z := ⟨_, rfl⟩
          obtain ⟨E2, hE2⟩ : ∃ z, eFlo q xk nk dk zk mk = z := ⟨_, rfl⟩
          rw [hE1, hE2] at K1 K2
          clear hE1 hE2
          have zr := hb.size
          have jO : ((wr.alloc (.cells #[] 58))).ownsRow (wr.heap.size) 58 6 (.slice (some ⟨wr.heap.size, 0, none⟩) 0 0) 0 [] :=
            ⟨rfl, .inr ⟨wr.heap.size, 0, #[], rfl, Nat.le_refl _, World.alloc_heap_new wr _, Nat.le_refl _, Nat.zero_le _, rfl, rfl⟩⟩
          have hO : Below B4 V3 (wr.alloc (.cells #[] 58)) := bwA hb (by omega) _
          have r3 := R3.out _ hb
          have zb3 := World.block_lt_of_cell? _ _ r3
          go_upto_region 11 with (at_builtin; refine append_days rfl _ _ rfl rfl wr.heap.size _ 0 [] rfl jO vk nk dk rfl (HDV.out _ hO) (by omega) (by simp) ?_; intro own w10 hown' hgrow; simp only [Nat.zero_add, List.nil_append] at hown'; have kOwn := daysAt_of_row hown'; have hb10 : Below B4 V3 w10 := hO.grown hgrow (by have := hO.size; omega) (fun p e => by have := (jO.lt p e).1; omega); clear hown' hgrow r3 zb3)
          clear jO hO hb zr
          refine wp_region_held_drew (S := (fun w' => Below B4 V3 w' ∧ DaysAt w' own nk dk)) (by kernel_rfl) ?_ (fun hH => ?_)
          · (try dsimp only); (exact ⟨hb10.drew, kOwn.later (Below.refl _ _).drew⟩)
          refine tkY 0 (some 95) ?_ ?_ ?_
          rotate_left
          · intro w _; go_simp; (try with_reducible rfl)
          (try simp only [cq])
          refine tkY 1 (some 96) ?_ ?_ ?_
          rotate_left
          · intro w _; go_simp; (try with_reducible rfl)
          (try simp only [cq])
          refine tkY 2 (some 97) ?_ ?_ ?_
          rotate_left
          · intro w hS0; (try dsimp only at hS0); obtain ⟨kb, _⟩ := hS0; obtain ⟨l0, l1, l2, l3, l4, l5, l6, l7⟩ := R1.out _ kb; obtain ⟨a0, a1, a2, a3, a4, a5, a6, a7⟩ := R2.out _ kb; have r4 := R4.out _ kb; have r5 := R5.out _ kb; have z1 := World.block_lt_of_cell? _ _ l0; have z2 := World.block_lt_of_cell? _ _ a0; have z4 := World.block_lt_of_cell? _ _ r4; have z5 := World.block_lt_of_cell? _ _ r5;go_simp; (try with_reducible rfl)
          (try simp only [cq])
          refine tkY 3 (some 98) ?_ ?_ ?_
          rotate_left
          · intro w hS0; (try dsimp only at hS0); obtain ⟨kb, _⟩ := hS0; obtain ⟨l0, l1, l2, l3, l4, l5, l6, l7⟩ := R1.out _ kb; obtain ⟨a0, a1, a2, a3, a4, a5, a6, a7⟩ := R2.out _ kb; have r4 := R4.out _ kb; have r5 := R5.out _ kb; have z1 := World.block_lt_of_cell? _ _ l0; have z2 := World.block_lt_of_cell? _ _ a0; have z4 := World.block_lt_of_cell? _ _ r4; have z5 := World.block_lt_of_cell? _ _ r5;go_simp; (try with_reducible rfl)
          (try simp only [cq])
          refine tkY 4 (some 99) ?_ ?_ ?_
          rotate_left
          · intro w _; go_simp; (try with_reducible rfl)
          (try simp only [cq])
          refine tkY 5 (some 100) ?_ ?_ ?_
          rotate_left
          · intro w _; go_simp; (try with_reducible rfl)
          (try simp only [cq])
          refine tkY 6 (some 101) ?_ ?_ ?_
          rotate_left
          · intro w hS0; (try dsimp only at hS0); obtain ⟨kb, _⟩ := hS0; obtain ⟨l0, l1, l2, l3, l4, l5, l6, l7⟩ := R1.out _ kb; obtain ⟨a0, a1, a2, a3, a4, a5, a6, a7⟩ := R2.out _ kb; have r4 := R4.out _ kb; have r5 := R5.out _ kb; have z1 := World.block_lt_of_cell? _ _ l0; have z2 := World.block_lt_of_cell? _ _ a0; have z4 := World.block_lt_of_cell? _ _ r4; have z5 := World.block_lt_of_cell? _ _ r5;go_simp; (try with_reducible rfl)
          (try simp only [cq])
          refine tkY 7 (some 102) ?_ ?_ ?_
          rotate_left
          · intro w hS0; (try dsimp only at hS0); obtain ⟨kb, _⟩ := hS0; obtain ⟨l0, l1, l2, l3, l4, l5, l6, l7⟩ := R1.out _ kb; obtain ⟨a0, a1, a2, a3, a4, a5, a6, a7⟩ := R2.out _ kb; have r4 := R4.out _ kb; have r5 := R5.out _ kb; have z1 := World.block_lt_of_cell? _ _ l0; have z2 := World.block_lt_of_cell? _ _ a0; have z4 := World.block_lt_of_cell? _ _ r4; have z5 := World.block_lt_of_cell? _ _ r5;go_simp; (try with_reducible rfl)
          (try simp only [cq])
          refine tkY 8 (some 103) ?_ ?_ ?_
          rotate_left
          · intro w _; go_simp; (try with_reducible rfl)
          (try simp only [cq])
          refine tkY 9 (some 104) ?_ ?_ ?_
          rotate_left
          · intro w _; go_simp; (try with_reducible rfl)
          (try simp only [cq])
          refine tkY 10 (some 105) ?_ ?_ ?_
          rotate_left
          · intro w _; go_simp; (try with_reducible rfl)
          (try simp only [cq])
          refine tkY 11 (some 106) ?_ ?_ ?_
          rotate_left
          · intro w hS0; (try dsimp only at hS0); obtain ⟨kb, _⟩ := hS0; obtain ⟨l0, l1, l2, l3, l4, l5, l6, l7⟩ := R1.out _ kb; obtain ⟨a0, a1, a2, a3, a4, a5, a6, a7⟩ := R2.out _ kb; have r4 := R4.out _ kb; have r5 := R5.out _ kb; have z1 := World.block_lt_of_cell? _ _ l0; have z2 := World.block_lt_of_cell? _ _ a0; have z4 := World.block_lt_of_cell? _ _ r4; have z5 := World.block_lt_of_cell? _ _ r5;go_simp; (try with_reducible rfl)
          (try simp only [cq])
          refine tkY 12 (some 107) ?_ ?_ ?_
          rotate_left
          · intro w hS0; (try dsimp only at hS0); obtain ⟨kb, _⟩ := hS0; obtain ⟨l0, l1, l2, l3, l4, l5, l6, l7⟩ := R1.out _ kb; obtain ⟨a0, a1, a2, a3, a4, a5, a6, a7⟩ := R2.out _ kb; have r4 := R4.out _ kb; have r5 := R5.out _ kb; have z1 := World.block_lt_of_cell? _ _ l0; have z2 := World.block_lt_of_cell? _ _ a0; have z4 := World.block_lt_of_cell? _ _ r4; have z5 := World.block_lt_of_cell? _ _ r5;go_simp; (try with_reducible rfl)
          (try simp only [cq])
          refine tkY 13 (some 108) ?_ ?_ ?_
          rotate_left
          · intro w _; go_simp; (try with_reducible rfl)
          (try simp only [cq])
          refine tkY 14 (some 109) ?_ ?_ ?_
          rotate_left
          · intro w _; go_simp; (try with_reducible rfl)
          (try simp only [cq])
          refine tkY 15 (some 110) ?_ ?_ ?_
          rotate_left
          · intro w hS0; (try dsimp only at hS0); obtain ⟨kb, _⟩ := hS0; obtain ⟨l0, l1, l2, l3, l4, l5, l6, l7⟩ := R1.out _ kb; obtain ⟨a0, a1, a2, a3, a4, a5, a6, a7⟩ := R2.out _ kb; have r4 := R4.out _ kb; have r5 := R5.out _ kb; have z1 := World.block_lt_of_cell? _ _ l0; have z2 := World.block_lt_of_cell? _ _ a0; have z4 := World.block_lt_of_cell? _ _ r4; have z5 := World.block_lt_of_cell? _ _ r5;go_simp; (try with_reducible rfl)
          (try simp only [cq])
          refine tkY 16 (some 111) ?_ ?_ ?_
          rotate_left
          · intro w hS0; (try dsimp only at hS0); obtain ⟨kb, _⟩ := hS0; obtain ⟨l0, l1, l2, l3, l4, l5, l6, l7⟩ := R1.out _ kb; obtain ⟨a0, a1, a2, a3, a4, a5, a6, a7⟩ := R2.out _ kb; have r4 := R4.out _ kb; have r5 := R5.out _ kb; have z1 := World.block_lt_of_cell? _ _ l0; have z2 := World.block_lt_of_cell? _ _ a0; have z4 := World.block_lt_of_cell? _ _ r4; have z5 := World.block_lt_of_cell? _ _ r5;go_simp; (try with_reducible rfl)
          (try simp only [cq])
          refine wpAnyH_ready (rs := [17]) (by kernel_rfl) (by simp) ?_
          refine arc1 (some 112) fun K hK => ?_
          go_simp
          (refine (K1.out _ _ hH.1 hH.2).mono ?_; rintro e w' ⟨rfl, hbc⟩)
          refine hK.out _ _ ?_ ?_
          · (exact ⟨hH.1.trans (hbc.mono (by have := hH.1.size; omega)), hH.2.later hbc⟩)
          (try clear hH); (try clear hbc)
          intro hH
          clear hK K
          (try simp only [cq])
          refine tkY 18 (some 94) ?_ ?_ ?_
          rotate_left
          · intro w _; go_simp; (try with_reducible rfl)
          (try simp only [cq])
          refine tkY 19 (some 113) ?_ ?_ ?_
          rotate_left
          · intro w _; go_simp; (try with_reducible rfl)
          (try simp only [cq])
          refine tkY 20 (some 114) ?_ ?_ ?_
          rotate_left
          · intro w _; go_simp; (try with_reducible rfl)
          (try simp only [cq])
          refine tkY 21 (some 24) ?_ ?_ ?_
          rotate_left
          · intro w _; go_simp; (try with_reducible rfl)
          (try simp only [cq])
          refine tkY 22 (some 25) ?_ ?_ ?_
          rotate_left
          · intro w _; go_simp; (try with_reducible rfl)
          (try simp only [cq])
          refine wpAnyH_done (by kernel_rfl) ?_ _
          (try dsimp only [Act.put])
          (try simp only [cq])
          clear hb10 kOwn K1
          obtain ⟨hb10, kOwn⟩ := hH
          go_upto_region 12 with fail
          refine wp_region_held_drew (S := (fun w' => Below B4 V3 w' ∧ DaysAt w' own nk dk)) (by kernel_rfl) ?_ (fun hH => ?_)
          · (try dsimp only); (exact ⟨hb10.drew, kOwn.later (Below.refl _ _).drew⟩)
          refine tkY 0 (some 116) ?_ ?_ ?_
          rotate_left
          · intro w _; go_simp; (try with_reducible rfl)
          (try simp only [cq])
          refine tkY 1 (some 117) ?_ ?_ ?_
          rotate_left
          · intro w _; go_simp; (try with_reducible rfl)
          (try simp only [cq])
          refine tkY 2 (some 118) ?_ ?_ ?_
          rotate_left
          · intro w hS0; (try dsimp only at hS0); obtain ⟨kb, _⟩ := hS0; obtain ⟨l0, l1, l2, l3, l4, l5, l6, l7⟩ := R1.out _ kb; obtain ⟨a0, a1, a2, a3, a4, a5, a6, a7⟩ := R2.out _ kb; have r3 := R3.out _ kb; have r4 := R4.out _ kb; have r5 := R5.out _ kb; have z1 := World.block_lt_of_cell? _ _ l0; have z2 := World.block_lt_of_cell? _ _ a0; have z3 := World.block_lt_of_cell? _ _ r3; have z4 := World.block_lt_of_cell? _ _ r4; have z5 := World.block_lt_of_cell? _ _ r5;go_simp; (try with_reducible rfl)
          (try simp only [cq])
          refine tkY 3 (some 119) ?_ ?_ ?_
          rotate_left
          · intro w hS0; (try dsimp only at hS0); obtain ⟨kb, _⟩ := hS0; obtain ⟨l0, l1, l2, l3, l4, l5, l6, l7⟩ := R1.out _ kb; obtain ⟨a0, a1, a2, a3, a4, a5, a6, a7⟩ := R2.out _ kb; have r3 := R3.out _ kb; have r4 := R4.out _ kb; have r5 := R5.out _ kb; have z1 := World.block_lt_of_cell? _ _ l0; have z2 := World.block_lt_of_cell? _ _ a0; have z3 := World.block_lt_of_cell? _ _ r3; have z4 := World.block_lt_of_cell? _ _ r4; have z5 := World.block_lt_of_cell? _ _ r5;go_simp; (try with_reducible rfl)
          (try simp only [cq])
          refine tkY 4 (some 120) ?_ ?_ ?_
          rotate_left
          · intro w _; go_simp; (try with_reducible rfl)
          (try simp only [cq])
          refine tkY 5 (some 121) ?_ ?_ ?_
          rotate_left
          · intro w _; go_simp; (try with_reducible rfl)
          (try simp only [cq])
          refine tkY 6 (some 122) ?_ ?_ ?_
          rotate_left
          · intro w hS0; (try dsimp only at hS0); obtain ⟨kb, _⟩ := hS0; obtain ⟨l0, l1, l2, l3, l4, l5, l6, l7⟩ := R1.out _ kb; obtain ⟨a0, a1, a2, a3, a4, a5, a6, a7⟩ := R2.out _ kb; have r3 := R3.out _ kb; have r4 := R4.out _ kb; have r5 := R5.out _ kb; have z1 := World.block_lt_of_cell? _ _ l0; have z2 := World.block_lt_of_cell? _ _ a0; have z3 := World.block_lt_of_cell? _ _ r3; have z4 := World.block_lt_of_cell? _ _ r4; have z5 := World.block_lt_of_cell? _ _ r5;go_simp; (try with_reducible rfl)
          (try simp only [cq])
          refine tkY 7 (some 123) ?_ ?_ ?_
          rotate_left
          · intro w hS0; (try dsimp only at hS0); obtain ⟨kb, _⟩ := hS0; obtain ⟨l0, l1, l2, l3, l4, l5, l6, l7⟩ := R1.out _ kb; obtain ⟨a0, a1, a2, a3, a4, a5, a6, a7⟩ := R2.out _ kb; have r3 := R3.out _ kb; have r4 := R4.out _ kb; have r5 := R5.out _ kb; have z1 := World.block_lt_of_cell? _ _ l0; have z2 := World.block_lt_of_cell? _ _ a0; have z3 := World.block_lt_of_cell? _ _ r3; have z4 := World.block_lt_of_cell? _ _ r4; have z5 := World.block_lt_of_cell? _ _ r5;go_simp; (try with_reducible rfl)
          (try simp only [cq])
          refine tkY 8 (some 124) ?_ ?_ ?_
          rotate_left
          · intro w _; go_simp; (try with_reducible rfl)
          (try simp only [cq])
          refine tkY 9 (some 125) ?_ ?_ ?_
          rotate_left
          · intro w _; go_simp; (try with_reducible rfl)
          (try simp only [cq])
          refine tkY 10 (some 126) ?_ ?_ ?_
          rotate_left
          · intro w hS0; (try dsimp only at hS0); obtain ⟨kb, _⟩ := hS0; obtain ⟨l0, l1, l2, l3, l4, l5, l6, l7⟩ := R1.out _ kb; obtain ⟨a0, a1, a2, a3, a4, a5, a6, a7⟩ := R2.out _ kb; have r3 := R3.out _ kb; have r4 := R4.out _ kb; have r5 := R5.out _ kb; have z1 := World.block_lt_of_cell? _ _ l0; have z2 := World.block_lt_of_cell? _ _ a0; have z3 := World.block_lt_of_cell? _ _ r3; have z4 := World.block_lt_of_cell? _ _ r4; have z5 := World.block_lt_of_cell? _ _ r5;go_simp; (try with_reducible rfl)
          (try simp only [cq])
          refine tkY 11 (some 127) ?_ ?_ ?_
          rotate_left
          · intro w hS0; (try dsimp only at hS0); obtain ⟨kb, _⟩ := hS0; obtain ⟨l0, l1, l2, l3, l4, l5, l6, l7⟩ := R1.out _ kb; obtain ⟨a0, a1, a2, a3, a4, a5, a6, a7⟩ := R2.out _ kb; have r3 := R3.out _ kb; have r4 := R4.out _ kb; have r5 := R5.out _ kb; have z1 := World.block_lt_of_cell? _ _ l0; have z2 := World.block_lt_of_cell? _ _ a0; have z3 := World.block_lt_of_cell? _ _ r3; have z4 := World.block_lt_of_cell? _ _ r4; have z5 := World.block_lt_of_cell? _ _ r5;go_simp; (try with_reducible rfl)
          (try simp only [cq])
          refine tkY 12 (some 128) ?_ ?_ ?_
          rotate_left
          · intro w _; go_simp; (try with_reducible rfl)
          (try simp only [cq])
          refine tkY 13 (some 129) ?_ ?_ ?_
          rotate_left
          · intro w _; go_simp; (try with_reducible rfl)
          (try simp only [cq])
          refine tkY 14 (some 130) ?_ ?_ ?_
          rotate_left
          · intro w hS0; (try dsimp only at hS0); obtain ⟨kb, _⟩ := hS0; obtain ⟨l0, l1, l2, l3, l4, l5, l6, l7⟩ := R1.out _ kb; obtain ⟨a0, a1, a2, a3, a4, a5, a6, a7⟩ := R2.out _ kb; have r3 := R3.out _ kb; have r4 := R4.out _ kb; have r5 := R5.out _ kb; have z1 := World.block_lt_of_cell? _ _ l0; have z2 := World.block_lt_of_cell? _ _ a0; have z3 := World.block_lt_of_cell? _ _ r3; have z4 := World.block_lt_of_cell? _ _ r4; have z5 := World.block_lt_of_cell? _ _ r5;go_simp; (try with_reducible rfl)
          (try simp only [cq])
          refine tkY 15 (some 131) ?_ ?_ ?_
          rotate_left
          · intro w hS0; (try dsimp only at hS0); obtain ⟨kb, _⟩ := hS0; obtain ⟨l0, l1, l2, l3, l4, l5, l6, l7⟩ := R1.out _ kb; obtain ⟨a0, a1, a2, a3, a4, a5, a6, a7⟩ := R2.out _ kb; have r3 := R3.out _ kb; have r4 := R4.out _ kb; have r5 := R5.out _ kb; have z1 := World.block_lt_of_cell? _ _ l0; have z2 := World.block_lt_of_cell? _ _ a0; have z3 := World.block_lt_of_cell? _ _ r3; have z4 := World.block_lt_of_cell? _ _ r4; have z5 := World.block_lt_of_cell? _ _ r5;go_simp; (try with_reducible rfl)
          (try simp only [cq])
          refine tkY 16 (some 132) ?_ ?_ ?_
          rotate_left
          · intro w _; go_simp; (try with_reducible rfl)
          (try simp only [cq])
          refine tkY 17 (some 133) ?_ ?_ ?_
          rotate_left
          · intro w _; go_simp; (try with_reducible rfl)
          (try simp only [cq])
          refine tkY 18 (some 134) ?_ ?_ ?_
          rotate_left
          · intro w hS0; (try dsimp only at hS0); obtain ⟨kb, _⟩ := hS0; obtain ⟨l0, l1, l2, l3, l4, l5, l6, l7⟩ := R1.out _ kb; obtain ⟨a0, a1, a2, a3, a4, a5, a6, a7⟩ := R2.out _ kb; have r3 := R3.out _ kb; have r4 := R4.out _ kb; have r5 := R5.out _ kb; have z1 := World.block_lt_of_cell? _ _ l0; have z2 := World.block_lt_of_cell? _ _ a0; have z3 := World.block_lt_of_cell? _ _ r3; have z4 := World.block_lt_of_cell? _ _ r4; have z5 := World.block_lt_of_cell? _ _ r5;go_simp; (try with_reducible rfl)
          (try simp only [cq])
          refine tkY 19 (some 135) ?_ ?_ ?_
          rotate_left
          · intro w hS0; (try dsimp only at hS0); obtain ⟨kb, _⟩ := hS0; obtain ⟨l0, l1, l2, l3, l4, l5, l6, l7⟩ := R1.out _ kb; obtain ⟨a0, a1, a2, a3, a4, a5, a6, a7⟩ := R2.out _ kb; have r3 := R3.out _ kb; have r4 := R4.out _ kb; have r5 := R5.out _ kb; have z1 := World.block_lt_of_cell? _ _ l0; have z2 := World.block_lt_of_cell? _ _ a0; have z3 := World.block_lt_of_cell? _ _ r3; have z4 := World.block_lt_of_cell? _ _ r4; have z5 := World.block_lt_of_cell? _ _ r5;go_simp; (try with_reducible rfl)
          (try simp only [cq])
          refine wpAnyH_ready (rs := [20]) (by kernel_rfl) (by simp) ?_
          refine arc1 (some 136) fun K hK => ?_
          go_simp
          (refine (K2.out _ _ hH.1 (HDV.out _ hH.1)).mono ?_; rintro e w' ⟨rfl, hbc⟩)
          refine hK.out _ _ ?_ ?_
          · (exact ⟨hH.1.trans (hbc.mono (by have := hH.1.size; omega)), hH.2.later hbc⟩)
          (try clear hH); (try clear hbc)
          intro hH
          clear hK K
          (try simp only [cq])
          refine tkY 21 (some 115) ?_ ?_ ?_
          rotate_left
          · intro w _; go_simp; (try with_reducible rfl)
          (try simp only [cq])
          refine tkY 22 (some 137) ?_ ?_ ?_
          rotate_left
          · intro w _; go_simp; (try with_reducible rfl)
          (try simp only [cq])
          refine tkY 23 (some 138) ?_ ?_ ?_
          rotate_left
          · intro w _; go_simp; (try with_reducible rfl)
          (try simp only [cq])
          refine tkY 24 (some 26) ?_ ?_ ?_
          rotate_left
          · intro w _; go_simp; (try with_reducible rfl)
          (try simp only [cq])
          refine tkY 25 (some 27) ?_ ?_ ?_
          rotate_left
          · intro w _; go_simp; (try with_reducible rfl)
          (try simp only [cq])
          refine wpAnyH_done (by kernel_rfl) ?_ _
          (try dsimp only [Act.put])
          (try simp only [cq])
          clear hb10 kOwn K2 R1 R2 R4 R5
          obtain ⟨hb, kOwn⟩ := hH
          have kV := HDV.out _ hb
          have r3 := R3.out _ hb
          have zb3 := World.block_lt_of_cell? _ _ r3
          go_wp2_with fail
          refine (samed_yes _ _ nk dk _ (by omega) kOwn kV).mono ?_
          rintro e w9 ⟨rfl, hbc⟩
          replace hb := hb.trans (hbc.mono (by have := hb.size; omega))
          clear hbc kOwn kV r3 zb3
          go_wp2
          go_roundw
          case rel => exact ⟨k + 1, by omega, by go_num, hb⟩
          case measure => simp [intOf]; omega
        · have jB := bwS KB.out (by have := KB.out.size; omega) (show Below V3.heap.size V3 wr by rw [HB4.out]; exact hb)
          clear hb
          go_wp2_with fail
          refine (awake_any _).mono ?_
          rintro e w9 ⟨rfl, hb⟩
          replace jB := bwS jB (Nat.le_refl _) hb
          go_wp2
          go_ret
          exact ⟨rfl, jB⟩
end Go.Proofs.YtdbiijldincoiaaGreat
