/-
  BearLanes says yes.
-/
import Derived.Test.YtfakmggabicdjaaTail
import Derived.Test.YtfakmggabicdjaaRd
import Derived.Test.YtfakmggabicdjaaRLa
import Derived.Test.YtfakmggabicdjaaAwk2
set_option linter.unusedVariables false
set_option linter.unusedSimpArgs false
namespace Go.Proofs.Ytfakmggabicdjaa
open Go.RowKit

structure RdL (V : World) (b6 b7 b8 b9 k : Nat) (x : Pl) (uS uC uI uK : Value) (ga gb : Int) (e : Int) (hN : Nat) (X : Nat → Int) : Prop where
  c : V.cell? ⟨b6, k * 11, none⟩ = some (.int .i64 x.s0) ∧ V.cell? ⟨b6, k * 11 + 1, none⟩ = some (.int .i64 x.s1) ∧ V.cell? ⟨b6, k * 11 + 2, none⟩ = some (uS) ∧ V.cell? ⟨b6, k * 11 + 3, none⟩ = some (uC) ∧ V.cell? ⟨b6, k * 11 + 4, none⟩ = some (.int .i64 x.ne) ∧ V.cell? ⟨b6, k * 11 + 5, none⟩ = some (.int .i64 x.ed) ∧ V.cell? ⟨b6, k * 11 + 6, none⟩ = some (.int .i64 x.gr) ∧ V.cell? ⟨b6, k * 11 + 7, none⟩ = some (.int .i64 x.lo) ∧ V.cell? ⟨b6, k * 11 + 8, none⟩ = some (.int .i64 x.hi) ∧ V.cell? ⟨b6, k * 11 + 9, none⟩ = some (.int .i64 x.sh) ∧ V.cell? ⟨b6, k * 11 + 10, none⟩ = some (.int .i64 x.wi)
  i : V.cell? ⟨b7, k, none⟩ = some uI
  j : V.cell? ⟨b8, k, none⟩ = some uK
  l : V.cell? ⟨b9, k * 2, none⟩ = some (.int .i64 ga) ∧ V.cell? ⟨b9, k * 2 + 1, none⟩ = some (.int .i64 gb)
  one : ∀ W, Below V.heap.size V W → Calls Try.prog 39 #[.agg #[.int .i64 x.s0, .int .i64 x.s1, uS, uC, .int .i64 x.ne, .int .i64 x.ed, .int .i64 x.gr, .int .i64 x.lo, .int .i64 x.hi, .int .i64 x.sh, .int .i64 x.wi], uI, uK, .agg #[.int .i64 ga, .int .i64 gb]] W fun e' w' => ∃ u, e' = .returned (.tuple #[u, .int .i64 e]) ∧ IntsAt w' u hN X ∧ Below W.heap.size W w'
  two : ∀ W, Below V.heap.size V W → Calls Try.prog 40 #[.agg #[.int .i64 x.s0, .int .i64 x.s1, uS, uC, .int .i64 x.ne, .int .i64 x.ed, .int .i64 x.gr, .int .i64 x.lo, .int .i64 x.hi, .int .i64 x.sh, .int .i64 x.wi], uI, uK, .agg #[.int .i64 ga, .int .i64 gb]] W fun e' w' => ∃ u, e' = .returned (.tuple #[u, .int .i64 e]) ∧ IntsAt w' u hN X ∧ Below W.heap.size W w'
theorem RdL.mk2 {V : World} {b6 b7 b8 b9 k : Nat} {x : Pl} {uS uC uI uK : Value} {ga gb : Int} (ni : Nat) (I0 I1 : Nat → Int) (nc : Nat) (C0 C1 : Nat → Int) (hc : V.cell? ⟨b6, k * 11, none⟩ = some (.int .i64 x.s0) ∧ V.cell? ⟨b6, k * 11 + 1, none⟩ = some (.int .i64 x.s1) ∧ V.cell? ⟨b6, k * 11 + 2, none⟩ = some (uS) ∧ V.cell? ⟨b6, k * 11 + 3, none⟩ = some (uC) ∧ V.cell? ⟨b6, k * 11 + 4, none⟩ = some (.int .i64 x.ne) ∧ V.cell? ⟨b6, k * 11 + 5, none⟩ = some (.int .i64 x.ed) ∧ V.cell? ⟨b6, k * 11 + 6, none⟩ = some (.int .i64 x.gr) ∧ V.cell? ⟨b6, k * 11 + 7, none⟩ = some (.int .i64 x.lo) ∧ V.cell? ⟨b6, k * 11 + 8, none⟩ = some (.int .i64 x.hi) ∧ V.cell? ⟨b6, k * 11 + 9, none⟩ = some (.int .i64 x.sh) ∧ V.cell? ⟨b6, k * 11 + 10, none⟩ = some (.int .i64 x.wi))
    (h7 : V.cell? ⟨b7, k, none⟩ = some uI) (h8 : V.cell? ⟨b8, k, none⟩ = some uK) (h9 : V.cell? ⟨b9, k * 2, none⟩ = some (.int .i64 ga) ∧ V.cell? ⟨b9, k * 2 + 1, none⟩ = some (.int .i64 gb)) (hS : TabAt V uS x.S) (hC : TabAt V uC x.C) (hI : PairsAt V uI ni I0 I1) (hK : PairsAt V uK nc C0 C1) :
    RdL V b6 b7 b8 b9 k x uS uC uI uK ga gb (hLn x ni I0 I1 nc C0 C1 ga gb) (if hLn x ni I0 I1 nc C0 C1 ga gb = 0 then ni else 0) (fun pl => commV (laneV x I0 I1 nc C0 C1 ga gb pl) 100) :=
  ⟨hc, h7, h8, h9, fun W hW => lane_any x uS uC uI uK ni I0 I1 nc C0 C1 ga gb W (PairsAt.later hS hW) (PairsAt.later hC hW) (hI.later hW) (hK.later hW),
    fun W hW => rlane_any x uS uC uI uK ni I0 I1 nc C0 C1 ga gb W (PairsAt.later hS hW) (PairsAt.later hC hW) (hI.later hW) (hK.later hW)⟩
theorem nums_later2 {w w' : World} {a : Option Addr} {n : Nat} (h : NumsAt w a n) (hb : Below w.heap.size w w') : NumsAt w' a n := by
  obtain ⟨h1, h2⟩ := h
  refine ⟨h1, fun h0 => ?_⟩
  obtain ⟨b, o, ha, hlt, hc⟩ := h2 h0
  exact ⟨b, o, ha, Nat.lt_of_lt_of_le hlt hb.size, fun i hi => by
    obtain ⟨z, hz⟩ := hc i hi
    exact ⟨z, cell_later hb hz⟩⟩

set_option maxRecDepth 100000 in
set_option maxHeartbeats 16000000 in
theorem blanes_any (p : Pl) (vS vC vI vK : Value) (ni : Nat) (I0 I1 : Nat → Int) (nc : Nat) (C0 C1 : Nat → Int) (sa sb : Int) (a : Option Addr) (len cap : Nat) (w : World)
    (hS : TabAt w vS p.S) (hC : TabAt w vC p.C) (hI : PairsAt w vI ni I0 I1) (hK : PairsAt w vK nc C0 C1) (hn : NumsAt w a len) :
    Calls Try.prog 5 #[.agg #[.int .i64 p.s0, .int .i64 p.s1, vS, vC, .int .i64 p.ne, .int .i64 p.ed, .int .i64 p.gr, .int .i64 p.lo, .int .i64 p.hi, .int .i64 p.sh, .int .i64 p.wi], vI, vK, .agg #[.int .i64 sa, .int .i64 sb], .slice a len cap] w fun e w' => e = .returned (.bool true) ∧ Below w.heap.size w w' := by
  obtain ⟨aS, cS, rfl, _, _, _⟩ := id hS
  obtain ⟨aC, cC, rfl, _, _, _⟩ := id hC
  obtain ⟨aI, cI, rfl, hcI, hmI, _⟩ := id hI
  obtain ⟨aK, cK, rfl, hcK, hmK, _⟩ := id hK
  have HPar := Lib.hid (And.intro hS (And.intro hC (And.intro hI hK)))
  have HNm := Lib.hid hn
  have HBg : Hid (∀ W, Below w.heap.size w W → Calls Try.prog 17 #[.agg #[.int .i64 p.s0, .int .i64 p.s1, (.slice aS p.S.n cS), (.slice aC p.C.n cC), .int .i64 p.ne, .int .i64 p.ed, .int .i64 p.gr, .int .i64 p.lo, .int .i64 p.hi, .int .i64 p.sh, .int .i64 p.wi]] W fun e w' => e = .returned (.bool (bigV p)) ∧ Below W.heap.size W w') := fun W hW => kbig_any p _ _ W (PairsAt.later hS hW) (PairsAt.later hC hW)
  clear hS hC hI hK hn
  have jA := (Blk.new w #[.int .i64 p.s0, .int .i64 p.s1, (.slice aS p.S.n cS), (.slice aC p.C.n cC), .int .i64 p.ne, .int .i64 p.ed, .int .i64 p.gr, .int .i64 p.lo, .int .i64 p.hi, .int .i64 p.sh, .int .i64 p.wi] 26).alloc (.cells #[.int .i64 sa, .int .i64 sb] 23)
  have jW := Blk.new1 w (.cells #[.int .i64 p.s0, .int .i64 p.s1, (.slice aS p.S.n cS), (.slice aC p.C.n cC), .int .i64 p.ne, .int .i64 p.ed, .int .i64 p.gr, .int .i64 p.lo, .int .i64 p.hi, .int .i64 p.sh, .int .i64 p.wi] 26) #[.int .i64 sa, .int .i64 sb] 23
  have jB : Below w.heap.size w ((w.alloc (.cells #[.int .i64 p.s0, .int .i64 p.s1, (.slice aS p.S.n cS), (.slice aC p.C.n cC), .int .i64 p.ne, .int .i64 p.ed, .int .i64 p.gr, .int .i64 p.lo, .int .i64 p.hi, .int .i64 p.sh, .int .i64 p.wi] 26)).alloc (.cells #[.int .i64 sa, .int .i64 sb] 23)) := by (repeat (first | exact Below.refl _ _ | assumption | refine Below.drew ?_ | refine Below.drewN ?_ _ | refine blT ?_ | refine blU ?_))
  go_enter Try.func5, Try.ntmps5
  go_upto_region 1 with fail
  obtain ⟨bA, hbA⟩ : ∃ b, w.heap.size = b := ⟨_, rfl⟩
  obtain ⟨bW, hbW⟩ : ∃ b, bA + 1 = b := ⟨_, rfl⟩
  rw [hbA] at jA jW
  (try rw [hbA])
  rw [hbW] at jW
  (try rw [hbW])
  have zwA : w.heap.size ≤ bA := by omega
  have zAW : bA < bW := by omega
  clear hbA hbW
  generalize (w.alloc (.cells #[.int .i64 p.s0, .int .i64 p.s1, (.slice aS p.S.n cS), (.slice aC p.C.n cC), .int .i64 p.ne, .int .i64 p.ed, .int .i64 p.gr, .int .i64 p.lo, .int .i64 p.hi, .int .i64 p.sh, .int .i64 p.wi] 26)).alloc (.cells #[.int .i64 sa, .int .i64 sb] 23) = V0 at jA jW jB ⊢
  go_cut [41] (fun s41 wx => ∃ b : Bool, s41 = .bool b ∧ Blk wx bA #[.int .i64 p.s0, .int .i64 p.s1, (.slice aS p.S.n cS), (.slice aC p.C.n cC), .int .i64 p.ne, .int .i64 p.ed, .int .i64 p.gr, .int .i64 p.lo, .int .i64 p.hi, .int .i64 p.sh, .int .i64 p.wi] 26 ∧ Blk wx bW #[.int .i64 sa, .int .i64 sb] 23 ∧ Below w.heap.size w wx)
  case first =>
    obtain ⟨c0, c1, c2, c3, c4, c5, c6, c7, c8, c9, c10⟩ := jA.c11
    have zA := jA.lt
    go_wp2_with fail
    clear c0 c1 c2 c3 c4 c5 c6 c7 c8 c9 c10 zA
    refine (HBg.out _ jB).mono ?_
    rintro e w1 ⟨rfl, hb⟩
    replace jA := jA.call hb
    replace jW := jW.call hb
    replace jB := bwS jB (Nat.le_refl _) hb
    clear hb HBg
    cases bigV p with
    | true =>
      go_wp2_with fail
      go_meet
      exact ⟨true, by first | rfl | (simp; omega), jA, jW, jB⟩
    | false =>
      by_cases h2 : 20 < ni
      · have h2i : (20 : Int) < (ni : Int) := by omega
        by_cases h3 : ni ≤ 1000
        · have h3i : (ni : Int) ≤ 1000 := by omega
          go_wp2_with fail
          go_meet
          exact ⟨true, by first | rfl | (simp; omega), jA, jW, jB⟩
        · have h3i : ¬ (ni : Int) ≤ 1000 := by omega
          by_cases h4 : 60 < nc
          · have h4i : (60 : Int) < (nc : Int) := by omega
            go_wp2_with fail
            go_meet
            exact ⟨true, by first | rfl | (simp; omega), jA, jW, jB⟩
          · have h4i : ¬ (60 : Int) < (nc : Int) := by omega
            go_wp2_with fail
            go_meet
            exact ⟨false, by first | rfl | (simp; omega), jA, jW, jB⟩
      · have h2i : ¬ (20 : Int) < (ni : Int) := by omega
        by_cases h4 : 60 < nc
        · have h4i : (60 : Int) < (nc : Int) := by omega
          go_wp2_with fail
          go_meet
          exact ⟨true, by first | rfl | (simp; omega), jA, jW, jB⟩
        · have h4i : ¬ (60 : Int) < (nc : Int) := by omega
          go_wp2_with fail
          go_meet
          exact ⟨false, by first | rfl | (simp; omega), jA, jW, jB⟩
  case rest =>
    clear jA jW jB HBg
    obtain ⟨bb, rfl, jA, jW, jB⟩ := hcut
    cases bb with
    | true =>
      go_wp2_with fail
      refine (awake_any _).mono ?_
      rintro e w9 ⟨rfl, hb⟩
      replace jB := bwS jB (Nat.le_refl _) hb
      go_wp2
      go_ret
      exact ⟨rfl, jB⟩
    | false =>
      go_wp2_with fail
      refine (newseed_at a len cap _ (nums_later2 HNm.out jB)).mono ?_
      rintro e w2 ⟨rfl, hS, hb⟩
      obtain ⟨bs, hbs⟩ : ∃ b, wc.heap.size = b := ⟨_, rfl⟩
      have zAs : bA < bs := by rw [← hbs]; exact jA.lt
      have zWs : bW < bs := by rw [← hbs]; exact jW.lt
      have zwbs : w.heap.size ≤ bs := by omega
      rw [hbs] at hS ⊢
      replace jA := jA.call hb
      replace jW := jW.call hb
      replace jB := bwS jB (Nat.le_refl _) hb
      clear hb hbs
      have hb1 := hS.choose_spec.lt
      go_wp2_with fail
      refine (plateof_in bs _ hS).mono ?_
      rintro e w3 ⟨p2, vO, vQ, rfl, hp, rO, rQ, hd⟩
      replace jB := Drawn.below jB hd zwbs
      replace jA := hd.blk jA (by omega)
      replace jW := hd.blk jW (by omega)
      replace hS := hd.seed
      replace rO := ownsRow_base (b1 := bs + 1) rO (by omega)
      replace rQ := ownsRow_base (b1 := bs + 1) rQ (by omega)
      clear hd hb1 hp
      obtain ⟨aO, cO, rfl, _, _, _⟩ := pairs_of_row rO
      obtain ⟨aQ, cQ, rfl, _, _, _⟩ := pairs_of_row rQ
      go_wp2_with fail
      refine (bedsof_in 4 (by decide) bs _ hS).mono ?_
      rintro e w4 ⟨mi, J0, J1, vJ, rfl, mi1, mi4, _, rI, hd⟩
      have zz := hS.choose_spec.lt
      replace rI := ownsRow_base (b1 := bs + 1) rI (by omega)
      clear zz
      replace rO := hd.row rO (by omega)
      replace rQ := hd.row rQ (by omega)
      replace jA := hd.blk jA (by omega)
      replace jW := hd.blk jW (by omega)
      replace jB := Drawn.below jB hd zwbs
      replace hS := hd.seed
      clear hd
      obtain ⟨bI, dI, rfl, _, _, _⟩ := pairs_of_row rI
      have jO := Blk.new w4 #[.int .i64 p2.s0, .int .i64 p2.s1, (.slice aO p2.S.n cO), (.slice aQ p2.C.n cQ), .int .i64 p2.ne, .int .i64 p2.ed, .int .i64 p2.gr, .int .i64 p2.lo, .int .i64 p2.hi, .int .i64 p2.sh, .int .i64 p2.wi] 26
      go_upto_region 5 with fail
      obtain ⟨bO, hbO⟩ : ∃ b, w4.heap.size = b := ⟨_, rfl⟩
      have zsO : bs < bO := by rw [← hbO]; exact hS.choose_spec.lt
      rw [hbO] at jO
      (try rw [hbO])
      clear hbO
      replace rO := rO.alloc (.cells #[.int .i64 p2.s0, .int .i64 p2.s1, (.slice aO p2.S.n cO), (.slice aQ p2.C.n cQ), .int .i64 p2.ne, .int .i64 p2.ed, .int .i64 p2.gr, .int .i64 p2.lo, .int .i64 p2.hi, .int .i64 p2.sh, .int .i64 p2.wi] 26)
      replace rQ := rQ.alloc (.cells #[.int .i64 p2.s0, .int .i64 p2.s1, (.slice aO p2.S.n cO), (.slice aQ p2.C.n cQ), .int .i64 p2.ne, .int .i64 p2.ed, .int .i64 p2.gr, .int .i64 p2.lo, .int .i64 p2.hi, .int .i64 p2.sh, .int .i64 p2.wi] 26)
      replace rI := rI.alloc (.cells #[.int .i64 p2.s0, .int .i64 p2.s1, (.slice aO p2.S.n cO), (.slice aQ p2.C.n cQ), .int .i64 p2.ne, .int .i64 p2.ed, .int .i64 p2.gr, .int .i64 p2.lo, .int .i64 p2.hi, .int .i64 p2.sh, .int .i64 p2.wi] 26)
      replace jA := jA.alloc (.cells #[.int .i64 p2.s0, .int .i64 p2.s1, (.slice aO p2.S.n cO), (.slice aQ p2.C.n cQ), .int .i64 p2.ne, .int .i64 p2.ed, .int .i64 p2.gr, .int .i64 p2.lo, .int .i64 p2.hi, .int .i64 p2.sh, .int .i64 p2.wi] 26)
      replace jW := jW.alloc (.cells #[.int .i64 p2.s0, .int .i64 p2.s1, (.slice aO p2.S.n cO), (.slice aQ p2.C.n cQ), .int .i64 p2.ne, .int .i64 p2.ed, .int .i64 p2.gr, .int .i64 p2.lo, .int .i64 p2.hi, .int .i64 p2.sh, .int .i64 p2.wi] 26)
      replace hS : SeedAt bs _ := hS.imp fun _ h => h.alloc (.cells #[.int .i64 p2.s0, .int .i64 p2.s1, (.slice aO p2.S.n cO), (.slice aQ p2.C.n cQ), .int .i64 p2.ne, .int .i64 p2.ed, .int .i64 p2.gr, .int .i64 p2.lo, .int .i64 p2.hi, .int .i64 p2.sh, .int .i64 p2.wi] 26)
      replace jB := bwA jB (Nat.le_refl _) (.cells #[.int .i64 p2.s0, .int .i64 p2.s1, (.slice aO p2.S.n cO), (.slice aQ p2.C.n cQ), .int .i64 p2.ne, .int .i64 p2.ed, .int .i64 p2.gr, .int .i64 p2.lo, .int .i64 p2.hi, .int .i64 p2.sh, .int .i64 p2.wi] 26)
      generalize w4.alloc (.cells #[.int .i64 p2.s0, .int .i64 p2.s1, (.slice aO p2.S.n cO), (.slice aQ p2.C.n cQ), .int .i64 p2.ne, .int .i64 p2.ed, .int .i64 p2.gr, .int .i64 p2.lo, .int .i64 p2.hi, .int .i64 p2.sh, .int .i64 p2.wi] 26) = V5 at jO jA jW rO rQ rI hS jB ⊢
      go_wp2_with fail
      refine (cracksof_in mi 3 (by omega) (by decide) bs _ hS).mono ?_
      rintro e w5 ⟨mc, D0, D1, vD, rfl, mc3, _, rK, hd⟩
      have zz := hS.choose_spec.lt
      replace rK := ownsRow_base (b1 := bs + 1) rK (by omega)
      clear zz
      replace rO := hd.row rO (by omega)
      replace rQ := hd.row rQ (by omega)
      replace rI := hd.row rI (by omega)
      replace jA := hd.blk jA (by omega)
      replace jW := hd.blk jW (by omega)
      replace jO := hd.blk jO (by omega)
      replace jB := Drawn.below jB hd zwbs
      replace hS := hd.seed
      clear hd
      obtain ⟨bK, dK, rfl, _, _, _⟩ := pairs_of_row rK
      go_wp2_with fail
      refine (of2_in 10000 40000 10000 40000 bs _ _ (by simp) hS (by decide) (by decide) (by decide) (by decide)).mono ?_
      rintro e w7 ⟨hi5, rfl, h50, h51, hd⟩
      replace rO := hd.row (rO.alloc (.cells #[.int .i64 10000, .int .i64 40000] 3)) (by omega)
      replace rQ := hd.row (rQ.alloc (.cells #[.int .i64 10000, .int .i64 40000] 3)) (by omega)
      replace rI := hd.row (rI.alloc (.cells #[.int .i64 10000, .int .i64 40000] 3)) (by omega)
      replace rK := hd.row (rK.alloc (.cells #[.int .i64 10000, .int .i64 40000] 3)) (by omega)
      replace jA := hd.blk (jA.alloc (.cells #[.int .i64 10000, .int .i64 40000] 3)) (by omega)
      replace jW := hd.blk (jW.alloc (.cells #[.int .i64 10000, .int .i64 40000] 3)) (by omega)
      replace jO := hd.blk (jO.alloc (.cells #[.int .i64 10000, .int .i64 40000] 3)) (by omega)
      replace jB := Drawn.below (bwA jB (Nat.le_refl _) (.cells #[.int .i64 10000, .int .i64 40000] 3)) hd zwbs
      replace hS := hd.seed
      clear hd
      go_wp2_with fail
      refine (kspan_in 0 hi5 bs _ hS (by decide) (by omega) (by omega)).mono ?_
      rintro e w8 ⟨x0, x1, rfl, _, _, _, hd⟩
      replace rO := hd.row rO (by omega)
      replace rQ := hd.row rQ (by omega)
      replace rI := hd.row rI (by omega)
      replace rK := hd.row rK (by omega)
      replace jA := hd.blk jA (by omega)
      replace jW := hd.blk jW (by omega)
      replace jO := hd.blk jO (by omega)
      replace jB := Drawn.below jB hd zwbs
      clear hd hS h50 h51
      have jV := Blk.new w8 #[.int .i64 x0, .int .i64 x1] 23
      go_upto_region 6 with fail
      obtain ⟨bV, hbV⟩ : ∃ b, w8.heap.size = b := ⟨_, rfl⟩
      rw [hbV] at jV
      (try rw [hbV])
      clear hbV
      replace rO := pairs_of_row (rO.alloc (.cells #[.int .i64 x0, .int .i64 x1] 23))
      replace rQ := pairs_of_row (rQ.alloc (.cells #[.int .i64 x0, .int .i64 x1] 23))
      replace rI := pairs_of_row (rI.alloc (.cells #[.int .i64 x0, .int .i64 x1] 23))
      replace rK := pairs_of_row (rK.alloc (.cells #[.int .i64 x0, .int .i64 x1] 23))
      replace jA := jA.alloc (.cells #[.int .i64 x0, .int .i64 x1] 23)
      replace jW := jW.alloc (.cells #[.int .i64 x0, .int .i64 x1] 23)
      replace jO := jO.alloc (.cells #[.int .i64 x0, .int .i64 x1] 23)
      replace jB := bwA jB (Nat.le_refl _) (.cells #[.int .i64 x0, .int .i64 x1] 23)
      generalize w8.alloc (.cells #[.int .i64 x0, .int .i64 x1] 23) = W6 at jO jA jW jV rO rQ rI rK jB ⊢
      have HOwn := Lib.hid (And.intro rO (And.intro rQ (And.intro rI rK)))
      clear rO rQ rI rK
      obtain ⟨B6, hB6⟩ : ∃ z, W6.heap.size = z := ⟨_, rfl⟩
      have j66 := Below.refl B6 W6
      have HB6 := Lib.hid hB6
      clear hB6
      go_cut [16, 17, 18, 19] (fun s16 s17 s18 s19 wx => ∃ b6 b7 b8 b9 : Nat, s16 = .slice (some ⟨b6, 0, none⟩) 3 3 ∧ s17 = .slice (some ⟨b7, 0, none⟩) 3 3 ∧ s18 = .slice (some ⟨b8, 0, none⟩) 3 3 ∧ s19 = .slice (some ⟨b9, 0, none⟩) 3 3 ∧ Blk wx b6 #[.int .i64 p.s0, .int .i64 p.s1, (.slice aS p.S.n cS), (.slice aC p.C.n cC), .int .i64 p.ne, .int .i64 p.ed, .int .i64 p.gr, .int .i64 p.lo, .int .i64 p.hi, .int .i64 p.sh, .int .i64 p.wi, .int .i64 p2.s0, .int .i64 p2.s1, (.slice aO p2.S.n cO), (.slice aQ p2.C.n cQ), .int .i64 p2.ne, .int .i64 p2.ed, .int .i64 p2.gr, .int .i64 p2.lo, .int .i64 p2.hi, .int .i64 p2.sh, .int .i64 p2.wi, .int .i64 p2.s0, .int .i64 p2.s1, (.slice aO p2.S.n cO), (.slice aQ p2.C.n cQ), .int .i64 p2.ne, .int .i64 p2.ed, .int .i64 p2.gr, .int .i64 p2.lo, .int .i64 p2.hi, .int .i64 p2.sh, .int .i64 p2.wi] 26 ∧ Blk wx b7 #[.slice aI ni cI, .slice bI mi dI, .slice bI mi dI] 42 ∧ Blk wx b8 #[.slice aK nc cK, .slice bK mc dK, .slice bK mc dK] 42 ∧ Blk wx b9 #[.int .i64 sa, .int .i64 sb, .int .i64 x0, .int .i64 x1, .int .i64 sa, .int .i64 sb] 23 ∧ Below w.heap.size w wx ∧ Below B6 W6 wx)
      case first =>
        clear HPar HNm HOwn
        (
 refine wp_region_held_drew (S := (fun v => Blk v bA #[.int .i64 p.s0, .int .i64 p.s1, (.slice aS p.S.n cS), (.slice aC p.C.n cC), .int .i64 p.ne, .int .i64 p.ed, .int .i64 p.gr, .int .i64 p.lo, .int .i64 p.hi, .int .i64 p.sh, .int .i64 p.wi] 26 ∧ Blk v bO #[.int .i64 p2.s0, .int .i64 p2.s1, (.slice aO p2.S.n cO), (.slice aQ p2.C.n cQ), .int .i64 p2.ne, .int .i64 p2.ed, .int .i64 p2.gr, .int .i64 p2.lo, .int .i64 p2.hi, .int .i64 p2.sh, .int .i64 p2.wi] 26 ∧ Blk v bW #[.int .i64 sa, .int .i64 sb] 23 ∧ Blk v bV #[.int .i64 x0, .int .i64 x1] 23 ∧ Below w.heap.size w v ∧ Below B6 W6 v)) (by kernel_rfl) ?_ (fun hH => ?_)
 · (try dsimp only); (exact ⟨jA.drew, jO.drew, jW.drew, jV.drew, jB.drew, j66.drew⟩)
 refine tkY 0 (some 58) ?_ ?_ ?_
 rotate_left
 · intro w hS0; (try dsimp only at hS0); obtain ⟨kA, kO, kW, kV, _⟩ := hS0; obtain ⟨c0, c1, c2, c3, c4, c5, c6, c7, c8, c9, c10⟩ := kA.c11; obtain ⟨d0, d1, d2, d3, d4, d5, d6, d7, d8, d9, d10⟩ := kO.c11; obtain ⟨g0, g1⟩ := kW.c2; obtain ⟨e0, e1⟩ := kV.c2; have y1 := kA.lt; have y2 := kO.lt; have y3 := kW.lt; have y4 := kV.lt;go_simp; (try with_reducible rfl)
 (try simp only [cq])
 refine tkY 1 (some 59) ?_ ?_ ?_
 rotate_left
 · intro w hS0; (try dsimp only at hS0); obtain ⟨kA, kO, kW, kV, _⟩ := hS0; obtain ⟨c0, c1, c2, c3, c4, c5, c6, c7, c8, c9, c10⟩ := kA.c11; obtain ⟨d0, d1, d2, d3, d4, d5, d6, d7, d8, d9, d10⟩ := kO.c11; obtain ⟨g0, g1⟩ := kW.c2; obtain ⟨e0, e1⟩ := kV.c2; have y1 := kA.lt; have y2 := kO.lt; have y3 := kW.lt; have y4 := kV.lt;go_simp; (try with_reducible rfl)
 (try simp only [cq])
 refine tkY 2 (some 60) ?_ ?_ ?_
 rotate_left
 · intro w hS0; (try dsimp only at hS0); obtain ⟨kA, kO, kW, kV, _⟩ := hS0; obtain ⟨c0, c1, c2, c3, c4, c5, c6, c7, c8, c9, c10⟩ := kA.c11; obtain ⟨d0, d1, d2, d3, d4, d5, d6, d7, d8, d9, d10⟩ := kO.c11; obtain ⟨g0, g1⟩ := kW.c2; obtain ⟨e0, e1⟩ := kV.c2; have y1 := kA.lt; have y2 := kO.lt; have y3 := kW.lt; have y4 := kV.lt;go_simp; (try with_reducible rfl)
 (try simp only [cq])
 refine tkY 4 (some 62) ?_ ?_ ?_
 rotate_left
 · intro w _; go_simp; (try with_reducible rfl)
 (try simp only [cq])
 refine tkY 5 (some 63) ?_ ?_ ?_
 rotate_left
 · intro w _; go_simp; (try with_reducible rfl)
 (try simp only [cq])
 refine tkY 6 (some 64) ?_ ?_ ?_
 rotate_left
 · intro w _; go_simp; (try with_reducible rfl)
 (try simp only [cq])
 refine tkY 8 (some 66) ?_ ?_ ?_
 rotate_left
 · intro w _; go_simp; (try with_reducible rfl)
 (try simp only [cq])
 refine tkY 9 (some 67) ?_ ?_ ?_
 rotate_left
 · intro w _; go_simp; (try with_reducible rfl)
 (try simp only [cq])
 refine tkY 10 (some 68) ?_ ?_ ?_
 rotate_left
 · intro w _; go_simp; (try with_reducible rfl)
 (try simp only [cq])
 refine tkY 12 (some 70) ?_ ?_ ?_
 rotate_left
 · intro w hS0; (try dsimp only at hS0); obtain ⟨kA, kO, kW, kV, _⟩ := hS0; obtain ⟨c0, c1, c2, c3, c4, c5, c6, c7, c8, c9, c10⟩ := kA.c11; obtain ⟨d0, d1, d2, d3, d4, d5, d6, d7, d8, d9, d10⟩ := kO.c11; obtain ⟨g0, g1⟩ := kW.c2; obtain ⟨e0, e1⟩ := kV.c2; have y1 := kA.lt; have y2 := kO.lt; have y3 := kW.lt; have y4 := kV.lt;go_simp; (try with_reducible rfl)
 (try simp only [cq])
 refine tkY 13 (some 71) ?_ ?_ ?_
 rotate_left
 · intro w hS0; (try dsimp only at hS0); obtain ⟨kA, kO, kW, kV, _⟩ := hS0; obtain ⟨c0, c1, c2, c3, c4, c5, c6, c7, c8, c9, c10⟩ := kA.c11; obtain ⟨d0, d1, d2, d3, d4, d5, d6, d7, d8, d9, d10⟩ := kO.c11; obtain ⟨g0, g1⟩ := kW.c2; obtain ⟨e0, e1⟩ := kV.c2; have y1 := kA.lt; have y2 := kO.lt; have y3 := kW.lt; have y4 := kV.lt;go_simp; (try with_reducible rfl)
 (try simp only [cq])
 refine tkY 14 (some 72) ?_ ?_ ?_
 rotate_left
 · intro w hS0; (try dsimp only at hS0); obtain ⟨kA, kO, kW, kV, _⟩ := hS0; obtain ⟨c0, c1, c2, c3, c4, c5, c6, c7, c8, c9, c10⟩ := kA.c11; obtain ⟨d0, d1, d2, d3, d4, d5, d6, d7, d8, d9, d10⟩ := kO.c11; obtain ⟨g0, g1⟩ := kW.c2; obtain ⟨e0, e1⟩ := kV.c2; have y1 := kA.lt; have y2 := kO.lt; have y3 := kW.lt; have y4 := kV.lt;go_simp; (try with_reducible rfl)
 (try simp only [cq])
 refine wpAnyH_ready (rs := [3, 7, 11, 15]) (by kernel_rfl) (by simp) ?_
 refine arc (some 61) (fun K hK => ?_) ?_
 {
 go_simp
 first | refine oA hK ?_ (fun hH hA => ?_) | refine oD hK ?_ (fun hH hA => ?_)
 · exact ⟨hH.1.alloc _, hH.2.1.alloc _, hH.2.2.1.alloc _, hH.2.2.2.1.alloc _, bwA hH.2.2.2.2.1 (Nat.le_refl _) _, bwA hH.2.2.2.2.2 (Nat.le_of_eq HB6.out.symm) _⟩
 have k6 := hA
 clear hA
 obtain ⟨bk6, hbk6⟩ : ∃ b, Blk.num k6 = b := ⟨_, rfl⟩
 obtain ⟨Wn, hWn⟩ : ∃ V, Blk.wld k6 = V := ⟨_, rfl⟩
 simp only [Blk.num] at hbk6
 simp only [Blk.wld] at hWn
 (try replace k7 := awB hWn k7)
 (try replace k8 := awB hWn k8)
 (try replace k9 := awB hWn k9)
 rw [hWn] at hH k6 ⊢
 rw [hbk6] at k6 ⊢
 clear hbk6 hWn
 clear hK K
 (try simp only [cq])
 refine tkY 16 (some 16) ?_ ?_ ?_
 rotate_left
 · intro w _; go_simp; (try with_reducible rfl)
 (try simp only [cq])
 refine wpAnyH_ready (rs := [7, 11, 15]) (by kernel_rfl) (by simp) ?_
 refine arc (some 65) (fun K hK => ?_) ?_
 {
 go_simp
 first | refine oA hK ?_ (fun hH hA => ?_) | refine oD hK ?_ (fun hH hA => ?_)
 · exact ⟨hH.1.alloc _, hH.2.1.alloc _, hH.2.2.1.alloc _, hH.2.2.2.1.alloc _, bwA hH.2.2.2.2.1 (Nat.le_refl _) _, bwA hH.2.2.2.2.2 (Nat.le_of_eq HB6.out.symm) _⟩
 have k7 := hA
 clear hA
 obtain ⟨bk7, hbk7⟩ : ∃ b, Blk.num k7 = b := ⟨_, rfl⟩
 obtain ⟨Wn, hWn⟩ : ∃ V, Blk.wld k7 = V := ⟨_, rfl⟩
 simp only [Blk.num] at hbk7
 simp only [Blk.wld] at hWn
 (try replace k6 := awB hWn k6)
 (try replace k8 := awB hWn k8)
 (try replace k9 := awB hWn k9)
 rw [hWn] at hH k7 ⊢
 rw [hbk7] at k7 ⊢
 clear hbk7 hWn
 clear hK K
 (try simp only [cq])
 refine tkY 17 (some 17) ?_ ?_ ?_
 rotate_left
 · intro w _; go_simp; (try with_reducible rfl)
 (try simp only [cq])
 refine wpAnyH_ready (rs := [11, 15]) (by kernel_rfl) (by simp) ?_
 refine arc (some 69) (fun K hK => ?_) ?_
 {
 go_simp
 first | refine oA hK ?_ (fun hH hA => ?_) | refine oD hK ?_ (fun hH hA => ?_)
 · exact ⟨hH.1.alloc _, hH.2.1.alloc _, hH.2.2.1.alloc _, hH.2.2.2.1.alloc _, bwA hH.2.2.2.2.1 (Nat.le_refl _) _, bwA hH.2.2.2.2.2 (Nat.le_of_eq HB6.out.symm) _⟩
 have k8 := hA
 clear hA
 obtain ⟨bk8, hbk8⟩ : ∃ b, Blk.num k8 = b := ⟨_, rfl⟩
 obtain ⟨Wn, hWn⟩ : ∃ V, Blk.wld k8 = V := ⟨_, rfl⟩
 simp only [Blk.num] at hbk8
 simp only [Blk.wld] at hWn
 (try replace k6 := awB hWn k6)
 (try replace k7 := awB hWn k7)
 (try replace k9 := awB hWn k9)
 rw [hWn] at hH k8 ⊢
 rw [hbk8] at k8 ⊢
 clear hbk8 hWn
 clear hK K
 (try simp only [cq])
 refine tkY 18 (some 18) ?_ ?_ ?_
 rotate_left
 · intro w _; go_simp; (try with_reducible rfl)
 (try simp only [cq])
 refine wpAnyH_ready (rs := [15]) (by kernel_rfl) (by simp) ?_
 refine arc1 (some 73) fun K hK => ?_
 go_simp
 first | refine oA hK ?_ (fun hH hA => ?_) | refine oD hK ?_ (fun hH hA => ?_)
 · exact ⟨hH.1.alloc _, hH.2.1.alloc _, hH.2.2.1.alloc _, hH.2.2.2.1.alloc _, bwA hH.2.2.2.2.1 (Nat.le_refl _) _, bwA hH.2.2.2.2.2 (Nat.le_of_eq HB6.out.symm) _⟩
 have k9 := hA
 clear hA
 obtain ⟨bk9, hbk9⟩ : ∃ b, Blk.num k9 = b := ⟨_, rfl⟩
 obtain ⟨Wn, hWn⟩ : ∃ V, Blk.wld k9 = V := ⟨_, rfl⟩
 simp only [Blk.num] at hbk9
 simp only [Blk.wld] at hWn
 (try replace k6 := awB hWn k6)
 (try replace k7 := awB hWn k7)
 (try replace k8 := awB hWn k8)
 rw [hWn] at hH k9 ⊢
 rw [hbk9] at k9 ⊢
 clear hbk9 hWn
 clear hK K
 (try simp only [cq])
 refine tkY 19 (some 19) ?_ ?_ ?_
 rotate_left
 · intro w _; go_simp; (try with_reducible rfl)
 (try simp only [cq])
 refine wpAnyH_done (by kernel_rfl) ?_ _
 (try dsimp only [Act.put])
 (try simp only [cq])
 go_wp2_with fail
 go_meet
 exact ⟨_, _, _, _, rfl, rfl, rfl, rfl, k6, k7, k8, k9, hH.2.2.2.2⟩
 }
 refine arc (some 73) (fun K hK => ?_) ?_
 {
 go_simp
 first | refine oA hK ?_ (fun hH hA => ?_) | refine oD hK ?_ (fun hH hA => ?_)
 · exact ⟨hH.1.alloc _, hH.2.1.alloc _, hH.2.2.1.alloc _, hH.2.2.2.1.alloc _, bwA hH.2.2.2.2.1 (Nat.le_refl _) _, bwA hH.2.2.2.2.2 (Nat.le_of_eq HB6.out.symm) _⟩
 have k9 := hA
 clear hA
 obtain ⟨bk9, hbk9⟩ : ∃ b, Blk.num k9 = b := ⟨_, rfl⟩
 obtain ⟨Wn, hWn⟩ : ∃ V, Blk.wld k9 = V := ⟨_, rfl⟩
 simp only [Blk.num] at hbk9
 simp only [Blk.wld] at hWn
 (try replace k6 := awB hWn k6)
 (try replace k7 := awB hWn k7)
 (try replace k8 := awB hWn k8)
 rw [hWn] at hH k9 ⊢
 rw [hbk9] at k9 ⊢
 clear hbk9 hWn
 clear hK K
 (try simp only [cq])
 refine wpAnyH_ready (rs := [11]) (by kernel_rfl) (by simp) ?_
 refine arc1 (some 69) fun K hK => ?_
 go_simp
 first | refine oA hK ?_ (fun hH hA => ?_) | refine oD hK ?_ (fun hH hA => ?_)
 · exact ⟨hH.1.alloc _, hH.2.1.alloc _, hH.2.2.1.alloc _, hH.2.2.2.1.alloc _, bwA hH.2.2.2.2.1 (Nat.le_refl _) _, bwA hH.2.2.2.2.2 (Nat.le_of_eq HB6.out.symm) _⟩
 have k8 := hA
 clear hA
 obtain ⟨bk8, hbk8⟩ : ∃ b, Blk.num k8 = b := ⟨_, rfl⟩
 obtain ⟨Wn, hWn⟩ : ∃ V, Blk.wld k8 = V := ⟨_, rfl⟩
 simp only [Blk.num] at hbk8
 simp only [Blk.wld] at hWn
 (try replace k6 := awB hWn k6)
 (try replace k7 := awB hWn k7)
 (try replace k9 := awB hWn k9)
 rw [hWn] at hH k8 ⊢
 rw [hbk8] at k8 ⊢
 clear hbk8 hWn
 clear hK K
 (try simp only [cq])
 refine tkY 18 (some 18) ?_ ?_ ?_
 rotate_left
 · intro w _; go_simp; (try with_reducible rfl)
 (try simp only [cq])
 refine tkY 19 (some 19) ?_ ?_ ?_
 rotate_left
 · intro w _; go_simp; (try with_reducible rfl)
 (try simp only [cq])
 refine wpAnyH_done (by kernel_rfl) ?_ _
 (try dsimp only [Act.put])
 (try simp only [cq])
 go_wp2_with fail
 go_meet
 exact ⟨_, _, _, _, rfl, rfl, rfl, rfl, k6, k7, k8, k9, hH.2.2.2.2⟩
 }
 exact AllReadyH.nil
 }
 refine arc (some 69) (fun K hK => ?_) ?_
 {
 go_simp
 first | refine oA hK ?_ (fun hH hA => ?_) | refine oD hK ?_ (fun hH hA => ?_)
 · exact ⟨hH.1.alloc _, hH.2.1.alloc _, hH.2.2.1.alloc _, hH.2.2.2.1.alloc _, bwA hH.2.2.2.2.1 (Nat.le_refl _) _, bwA hH.2.2.2.2.2 (Nat.le_of_eq HB6.out.symm) _⟩
 have k8 := hA
 clear hA
 obtain ⟨bk8, hbk8⟩ : ∃ b, Blk.num k8 = b := ⟨_, rfl⟩
 obtain ⟨Wn, hWn⟩ : ∃ V, Blk.wld k8 = V := ⟨_, rfl⟩
 simp only [Blk.num] at hbk8
 simp only [Blk.wld] at hWn
 (try replace k6 := awB hWn k6)
 (try replace k7 := awB hWn k7)
 (try replace k9 := awB hWn k9)
 rw [hWn] at hH k8 ⊢
 rw [hbk8] at k8 ⊢
 clear hbk8 hWn
 clear hK K
 (try simp only [cq])
 refine wpAnyH_ready (rs := [7, 15]) (by kernel_rfl) (by simp) ?_
 refine arc (some 65) (fun K hK => ?_) ?_
 {
 go_simp
 first | refine oA hK ?_ (fun hH hA => ?_) | refine oD hK ?_ (fun hH hA => ?_)
 · exact ⟨hH.1.alloc _, hH.2.1.alloc _, hH.2.2.1.alloc _, hH.2.2.2.1.alloc _, bwA hH.2.2.2.2.1 (Nat.le_refl _) _, bwA hH.2.2.2.2.2 (Nat.le_of_eq HB6.out.symm) _⟩
 have k7 := hA
 clear hA
 obtain ⟨bk7, hbk7⟩ : ∃ b, Blk.num k7 = b := ⟨_, rfl⟩
 obtain ⟨Wn, hWn⟩ : ∃ V, Blk.wld k7 = V := ⟨_, rfl⟩
 simp only [Blk.num] at hbk7
 simp only [Blk.wld] at hWn
 (try replace k6 := awB hWn k6)
 (try replace k8 := awB hWn k8)
 (try replace k9 := awB hWn k9)
 rw [hWn] at hH k7 ⊢
 rw [hbk7] at k7 ⊢
 clear hbk7 hWn
 clear hK K
 (try simp only [cq])
 refine tkY 17 (some 17) ?_ ?_ ?_
 rotate_left
 · intro w _; go_simp; (try with_reducible rfl)
 (try simp only [cq])
 refine tkY 18 (some 18) ?_ ?_ ?_
 rotate_left
 · intro w _; go_simp; (try with_reducible rfl)
 (try simp only [cq])
 refine wpAnyH_ready (rs := [15]) (by kernel_rfl) (by simp) ?_
 refine arc1 (some 73) fun K hK => ?_
 go_simp
 first | refine oA hK ?_ (fun hH hA => ?_) | refine oD hK ?_ (fun hH hA => ?_)
 · exact ⟨hH.1.alloc _, hH.2.1.alloc _, hH.2.2.1.alloc _, hH.2.2.2.1.alloc _, bwA hH.2.2.2.2.1 (Nat.le_refl _) _, bwA hH.2.2.2.2.2 (Nat.le_of_eq HB6.out.symm) _⟩
 have k9 := hA
 clear hA
 obtain ⟨bk9, hbk9⟩ : ∃ b, Blk.num k9 = b := ⟨_, rfl⟩
 obtain ⟨Wn, hWn⟩ : ∃ V, Blk.wld k9 = V := ⟨_, rfl⟩
 simp only [Blk.num] at hbk9
 simp only [Blk.wld] at hWn
 (try replace k6 := awB hWn k6)
 (try replace k7 := awB hWn k7)
 (try replace k8 := awB hWn k8)
 rw [hWn] at hH k9 ⊢
 rw [hbk9] at k9 ⊢
 clear hbk9 hWn
 clear hK K
 (try simp only [cq])
 refine tkY 19 (some 19) ?_ ?_ ?_
 rotate_left
 · intro w _; go_simp; (try with_reducible rfl)
 (try simp only [cq])
 refine wpAnyH_done (by kernel_rfl) ?_ _
 (try dsimp only [Act.put])
 (try simp only [cq])
 go_wp2_with fail
 go_meet
 exact ⟨_, _, _, _, rfl, rfl, rfl, rfl, k6, k7, k8, k9, hH.2.2.2.2⟩
 }
 refine arc (some 73) (fun K hK => ?_) ?_
 {
 go_simp
 first | refine oA hK ?_ (fun hH hA => ?_) | refine oD hK ?_ (fun hH hA => ?_)
 · exact ⟨hH.1.alloc _, hH.2.1.alloc _, hH.2.2.1.alloc _, hH.2.2.2.1.alloc _, bwA hH.2.2.2.2.1 (Nat.le_refl _) _, bwA hH.2.2.2.2.2 (Nat.le_of_eq HB6.out.symm) _⟩
 have k9 := hA
 clear hA
 obtain ⟨bk9, hbk9⟩ : ∃ b, Blk.num k9 = b := ⟨_, rfl⟩
 obtain ⟨Wn, hWn⟩ : ∃ V, Blk.wld k9 = V := ⟨_, rfl⟩
 simp only [Blk.num] at hbk9
 simp only [Blk.wld] at hWn
 (try replace k6 := awB hWn k6)
 (try replace k7 := awB hWn k7)
 (try replace k8 := awB hWn k8)
 rw [hWn] at hH k9 ⊢
 rw [hbk9] at k9 ⊢
 clear hbk9 hWn
 clear hK K
 (try simp only [cq])
 refine wpAnyH_ready (rs := [7]) (by kernel_rfl) (by simp) ?_
 refine arc1 (some 65) fun K hK => ?_
 go_simp
 first | refine oA hK ?_ (fun hH hA => ?_) | refine oD hK ?_ (fun hH hA => ?_)
 · exact ⟨hH.1.alloc _, hH.2.1.alloc _, hH.2.2.1.alloc _, hH.2.2.2.1.alloc _, bwA hH.2.2.2.2.1 (Nat.le_refl _) _, bwA hH.2.2.2.2.2 (Nat.le_of_eq HB6.out.symm) _⟩
 have k7 := hA
 clear hA
 obtain ⟨bk7, hbk7⟩ : ∃ b, Blk.num k7 = b := ⟨_, rfl⟩
 obtain ⟨Wn, hWn⟩ : ∃ V, Blk.wld k7 = V := ⟨_, rfl⟩
 simp only [Blk.num] at hbk7
 simp only [Blk.wld] at hWn
 (try replace k6 := awB hWn k6)
 (try replace k8 := awB hWn k8)
 (try replace k9 := awB hWn k9)
 rw [hWn] at hH k7 ⊢
 rw [hbk7] at k7 ⊢
 clear hbk7 hWn
 clear hK K
 (try simp only [cq])
 refine tkY 17 (some 17) ?_ ?_ ?_
 rotate_left
 · intro w _; go_simp; (try with_reducible rfl)
 (try simp only [cq])
 refine tkY 18 (some 18) ?_ ?_ ?_
 rotate_left
 · intro w _; go_simp; (try with_reducible rfl)
 (try simp only [cq])
 refine tkY 19 (some 19) ?_ ?_ ?_
 rotate_left
 · intro w _; go_simp; (try with_reducible rfl)
 (try simp only [cq])
 refine wpAnyH_done (by kernel_rfl) ?_ _
 (try dsimp only [Act.put])
 (try simp only [cq])
 go_wp2_with fail
 go_meet
 exact ⟨_, _, _, _, rfl, rfl, rfl, rfl, k6, k7, k8, k9, hH.2.2.2.2⟩
 }
 exact AllReadyH.nil
 }
 refine arc (some 73) (fun K hK => ?_) ?_
 {
 go_simp
 first | refine oA hK ?_ (fun hH hA => ?_) | refine oD hK ?_ (fun hH hA => ?_)
 · exact ⟨hH.1.alloc _, hH.2.1.alloc _, hH.2.2.1.alloc _, hH.2.2.2.1.alloc _, bwA hH.2.2.2.2.1 (Nat.le_refl _) _, bwA hH.2.2.2.2.2 (Nat.le_of_eq HB6.out.symm) _⟩
 have k9 := hA
 clear hA
 obtain ⟨bk9, hbk9⟩ : ∃ b, Blk.num k9 = b := ⟨_, rfl⟩
 obtain ⟨Wn, hWn⟩ : ∃ V, Blk.wld k9 = V := ⟨_, rfl⟩
 simp only [Blk.num] at hbk9
 simp only [Blk.wld] at hWn
 (try replace k6 := awB hWn k6)
 (try replace k7 := awB hWn k7)
 (try replace k8 := awB hWn k8)
 rw [hWn] at hH k9 ⊢
 rw [hbk9] at k9 ⊢
 clear hbk9 hWn
 clear hK K
 (try simp only [cq])
 refine wpAnyH_ready (rs := [7, 11]) (by kernel_rfl) (by simp) ?_
 refine arc (some 65) (fun K hK => ?_) ?_
 {
 go_simp
 first | refine oA hK ?_ (fun hH hA => ?_) | refine oD hK ?_ (fun hH hA => ?_)
 · exact ⟨hH.1.alloc _, hH.2.1.alloc _, hH.2.2.1.alloc _, hH.2.2.2.1.alloc _, bwA hH.2.2.2.2.1 (Nat.le_refl _) _, bwA hH.2.2.2.2.2 (Nat.le_of_eq HB6.out.symm) _⟩
 have k7 := hA
 clear hA
 obtain ⟨bk7, hbk7⟩ : ∃ b, Blk.num k7 = b := ⟨_, rfl⟩
 obtain ⟨Wn, hWn⟩ : ∃ V, Blk.wld k7 = V := ⟨_, rfl⟩
 simp only [Blk.num] at hbk7
 simp only [Blk.wld] at hWn
 (try replace k6 := awB hWn k6)
 (try replace k8 := awB hWn k8)
 (try replace k9 := awB hWn k9)
 rw [hWn] at hH k7 ⊢
 rw [hbk7] at k7 ⊢
 clear hbk7 hWn
 clear hK K
 (try simp only [cq])
 refine tkY 17 (some 17) ?_ ?_ ?_
 rotate_left
 · intro w _; go_simp; (try with_reducible rfl)
 (try simp only [cq])
 refine wpAnyH_ready (rs := [11]) (by kernel_rfl) (by simp) ?_
 refine arc1 (some 69) fun K hK => ?_
 go_simp
 first | refine oA hK ?_ (fun hH hA => ?_) | refine oD hK ?_ (fun hH hA => ?_)
 · exact ⟨hH.1.alloc _, hH.2.1.alloc _, hH.2.2.1.alloc _, hH.2.2.2.1.alloc _, bwA hH.2.2.2.2.1 (Nat.le_refl _) _, bwA hH.2.2.2.2.2 (Nat.le_of_eq HB6.out.symm) _⟩
 have k8 := hA
 clear hA
 obtain ⟨bk8, hbk8⟩ : ∃ b, Blk.num k8 = b := ⟨_, rfl⟩
 obtain ⟨Wn, hWn⟩ : ∃ V, Blk.wld k8 = V := ⟨_, rfl⟩
 simp only [Blk.num] at hbk8
 simp only [Blk.wld] at hWn
 (try replace k6 := awB hWn k6)
 (try replace k7 := awB hWn k7)
 (try replace k9 := awB hWn k9)
 rw [hWn] at hH k8 ⊢
 rw [hbk8] at k8 ⊢
 clear hbk8 hWn
 clear hK K
 (try simp only [cq])
 refine tkY 18 (some 18) ?_ ?_ ?_
 rotate_left
 · intro w _; go_simp; (try with_reducible rfl)
 (try simp only [cq])
 refine tkY 19 (some 19) ?_ ?_ ?_
 rotate_left
 · intro w _; go_simp; (try with_reducible rfl)
 (try simp only [cq])
 refine wpAnyH_done (by kernel_rfl) ?_ _
 (try dsimp only [Act.put])
 (try simp only [cq])
 go_wp2_with fail
 go_meet
 exact ⟨_, _, _, _, rfl, rfl, rfl, rfl, k6, k7, k8, k9, hH.2.2.2.2⟩
 }
 refine arc (some 69) (fun K hK => ?_) ?_
 {
 go_simp
 first | refine oA hK ?_ (fun hH hA => ?_) | refine oD hK ?_ (fun hH hA => ?_)
 · exact ⟨hH.1.alloc _, hH.2.1.alloc _, hH.2.2.1.alloc _, hH.2.2.2.1.alloc _, bwA hH.2.2.2.2.1 (Nat.le_refl _) _, bwA hH.2.2.2.2.2 (Nat.le_of_eq HB6.out.symm) _⟩
 have k8 := hA
 clear hA
 obtain ⟨bk8, hbk8⟩ : ∃ b, Blk.num k8 = b := ⟨_, rfl⟩
 obtain ⟨Wn, hWn⟩ : ∃ V, Blk.wld k8 = V := ⟨_, rfl⟩
 simp only [Blk.num] at hbk8
 simp only [Blk.wld] at hWn
 (try replace k6 := awB hWn k6)
 (try replace k7 := awB hWn k7)
 (try replace k9 := awB hWn k9)
 rw [hWn] at hH k8 ⊢
 rw [hbk8] at k8 ⊢
 clear hbk8 hWn
 clear hK K
 (try simp only [cq])
 refine wpAnyH_ready (rs := [7]) (by kernel_rfl) (by simp) ?_
 refine arc1 (some 65) fun K hK => ?_
 go_simp
 first | refine oA hK ?_ (fun hH hA => ?_) | refine oD hK ?_ (fun hH hA => ?_)
 · exact ⟨hH.1.alloc _, hH.2.1.alloc _, hH.2.2.1.alloc _, hH.2.2.2.1.alloc _, bwA hH.2.2.2.2.1 (Nat.le_refl _) _, bwA hH.2.2.2.2.2 (Nat.le_of_eq HB6.out.symm) _⟩
 have k7 := hA
 clear hA
 obtain ⟨bk7, hbk7⟩ : ∃ b, Blk.num k7 = b := ⟨_, rfl⟩
 obtain ⟨Wn, hWn⟩ : ∃ V, Blk.wld k7 = V := ⟨_, rfl⟩
 simp only [Blk.num] at hbk7
 simp only [Blk.wld] at hWn
 (try replace k6 := awB hWn k6)
 (try replace k8 := awB hWn k8)
 (try replace k9 := awB hWn k9)
 rw [hWn] at hH k7 ⊢
 rw [hbk7] at k7 ⊢
 clear hbk7 hWn
 clear hK K
 (try simp only [cq])
 refine tkY 17 (some 17) ?_ ?_ ?_
 rotate_left
 · intro w _; go_simp; (try with_reducible rfl)
 (try simp only [cq])
 refine tkY 18 (some 18) ?_ ?_ ?_
 rotate_left
 · intro w _; go_simp; (try with_reducible rfl)
 (try simp only [cq])
 refine tkY 19 (some 19) ?_ ?_ ?_
 rotate_left
 · intro w _; go_simp; (try with_reducible rfl)
 (try simp only [cq])
 refine wpAnyH_done (by kernel_rfl) ?_ _
 (try dsimp only [Act.put])
 (try simp only [cq])
 go_wp2_with fail
 go_meet
 exact ⟨_, _, _, _, rfl, rfl, rfl, rfl, k6, k7, k8, k9, hH.2.2.2.2⟩
 }
 exact AllReadyH.nil
 }
 exact AllReadyH.nil
 }
 refine arc (some 65) (fun K hK => ?_) ?_
 {
 go_simp
 first | refine oA hK ?_ (fun hH hA => ?_) | refine oD hK ?_ (fun hH hA => ?_)
 · exact ⟨hH.1.alloc _, hH.2.1.alloc _, hH.2.2.1.alloc _, hH.2.2.2.1.alloc _, bwA hH.2.2.2.2.1 (Nat.le_refl _) _, bwA hH.2.2.2.2.2 (Nat.le_of_eq HB6.out.symm) _⟩
 have k7 := hA
 clear hA
 obtain ⟨bk7, hbk7⟩ : ∃ b, Blk.num k7 = b := ⟨_, rfl⟩
 obtain ⟨Wn, hWn⟩ : ∃ V, Blk.wld k7 = V := ⟨_, rfl⟩
 simp only [Blk.num] at hbk7
 simp only [Blk.wld] at hWn
 (try replace k6 := awB hWn k6)
 (try replace k8 := awB hWn k8)
 (try replace k9 := awB hWn k9)
 rw [hWn] at hH k7 ⊢
 rw [hbk7] at k7 ⊢
 clear hbk7 hWn
 clear hK K
 (try simp only [cq])
 refine wpAnyH_ready (rs := [3, 11, 15]) (by kernel_rfl) (by simp) ?_
 refine arc (some 61) (fun K hK => ?_) ?_
 {
 go_simp
 first | refine oA hK ?_ (fun hH hA => ?_) | refine oD hK ?_ (fun hH hA => ?_)
 · exact ⟨hH.1.alloc _, hH.2.1.alloc _, hH.2.2.1.alloc _, hH.2.2.2.1.alloc _, bwA hH.2.2.2.2.1 (Nat.le_refl _) _, bwA hH.2.2.2.2.2 (Nat.le_of_eq HB6.out.symm) _⟩
 have k6 := hA
 clear hA
 obtain ⟨bk6, hbk6⟩ : ∃ b, Blk.num k6 = b := ⟨_, rfl⟩
 obtain ⟨Wn, hWn⟩ : ∃ V, Blk.wld k6 = V := ⟨_, rfl⟩
 simp only [Blk.num] at hbk6
 simp only [Blk.wld] at hWn
 (try replace k7 := awB hWn k7)
 (try replace k8 := awB hWn k8)
 (try replace k9 := awB hWn k9)
 rw [hWn] at hH k6 ⊢
 rw [hbk6] at k6 ⊢
 clear hbk6 hWn
 clear hK K
 (try simp only [cq])
 refine tkY 16 (some 16) ?_ ?_ ?_
 rotate_left
 · intro w _; go_simp; (try with_reducible rfl)
 (try simp only [cq])
 refine tkY 17 (some 17) ?_ ?_ ?_
 rotate_left
 · intro w _; go_simp; (try with_reducible rfl)
 (try simp only [cq])
 refine wpAnyH_ready (rs := [11, 15]) (by kernel_rfl) (by simp) ?_
 refine arc (some 69) (fun K hK => ?_) ?_
 {
 go_simp
 first | refine oA hK ?_ (fun hH hA => ?_) | refine oD hK ?_ (fun hH hA => ?_)
 · exact ⟨hH.1.alloc _, hH.2.1.alloc _, hH.2.2.1.alloc _, hH.2.2.2.1.alloc _, bwA hH.2.2.2.2.1 (Nat.le_refl _) _, bwA hH.2.2.2.2.2 (Nat.le_of_eq HB6.out.symm) _⟩
 have k8 := hA
 clear hA
 obtain ⟨bk8, hbk8⟩ : ∃ b, Blk.num k8 = b := ⟨_, rfl⟩
 obtain ⟨Wn, hWn⟩ : ∃ V, Blk.wld k8 = V := ⟨_, rfl⟩
 simp only [Blk.num] at hbk8
 simp only [Blk.wld] at hWn
 (try replace k6 := awB hWn k6)
 (try replace k7 := awB hWn k7)
 (try replace k9 := awB hWn k9)
 rw [hWn] at hH k8 ⊢
 rw [hbk8] at k8 ⊢
 clear hbk8 hWn
 clear hK K
 (try simp only [cq])
 refine tkY 18 (some 18) ?_ ?_ ?_
 rotate_left
 · intro w _; go_simp; (try with_reducible rfl)
 (try simp only [cq])
 refine wpAnyH_ready (rs := [15]) (by kernel_rfl) (by simp) ?_
 refine arc1 (some 73) fun K hK => ?_
 go_simp
 first | refine oA hK ?_ (fun hH hA => ?_) | refine oD hK ?_ (fun hH hA => ?_)
 · exact ⟨hH.1.alloc _, hH.2.1.alloc _, hH.2.2.1.alloc _, hH.2.2.2.1.alloc _, bwA hH.2.2.2.2.1 (Nat.le_refl _) _, bwA hH.2.2.2.2.2 (Nat.le_of_eq HB6.out.symm) _⟩
 have k9 := hA
 clear hA
 obtain ⟨bk9, hbk9⟩ : ∃ b, Blk.num k9 = b := ⟨_, rfl⟩
 obtain ⟨Wn, hWn⟩ : ∃ V, Blk.wld k9 = V := ⟨_, rfl⟩
 simp only [Blk.num] at hbk9
 simp only [Blk.wld] at hWn
 (try replace k6 := awB hWn k6)
 (try replace k7 := awB hWn k7)
 (try replace k8 := awB hWn k8)
 rw [hWn] at hH k9 ⊢
 rw [hbk9] at k9 ⊢
 clear hbk9 hWn
 clear hK K
 (try simp only [cq])
 refine tkY 19 (some 19) ?_ ?_ ?_
 rotate_left
 · intro w _; go_simp; (try with_reducible rfl)
 (try simp only [cq])
 refine wpAnyH_done (by kernel_rfl) ?_ _
 (try dsimp only [Act.put])
 (try simp only [cq])
 go_wp2_with fail
 go_meet
 exact ⟨_, _, _, _, rfl, rfl, rfl, rfl, k6, k7, k8, k9, hH.2.2.2.2⟩
 }
 refine arc (some 73) (fun K hK => ?_) ?_
 {
 go_simp
 first | refine oA hK ?_ (fun hH hA => ?_) | refine oD hK ?_ (fun hH hA => ?_)
 · exact ⟨hH.1.alloc _, hH.2.1.alloc _, hH.2.2.1.alloc _, hH.2.2.2.1.alloc _, bwA hH.2.2.2.2.1 (Nat.le_refl _) _, bwA hH.2.2.2.2.2 (Nat.le_of_eq HB6.out.symm) _⟩
 have k9 := hA
 clear hA
 obtain ⟨bk9, hbk9⟩ : ∃ b, Blk.num k9 = b := ⟨_, rfl⟩
 obtain ⟨Wn, hWn⟩ : ∃ V, Blk.wld k9 = V := ⟨_, rfl⟩
 simp only [Blk.num] at hbk9
 simp only [Blk.wld] at hWn
 (try replace k6 := awB hWn k6)
 (try replace k7 := awB hWn k7)
 (try replace k8 := awB hWn k8)
 rw [hWn] at hH k9 ⊢
 rw [hbk9] at k9 ⊢
 clear hbk9 hWn
 clear hK K
 (try simp only [cq])
 refine wpAnyH_ready (rs := [11]) (by kernel_rfl) (by simp) ?_
 refine arc1 (some 69) fun K hK => ?_
 go_simp
 first | refine oA hK ?_ (fun hH hA => ?_) | refine oD hK ?_ (fun hH hA => ?_)
 · exact ⟨hH.1.alloc _, hH.2.1.alloc _, hH.2.2.1.alloc _, hH.2.2.2.1.alloc _, bwA hH.2.2.2.2.1 (Nat.le_refl _) _, bwA hH.2.2.2.2.2 (Nat.le_of_eq HB6.out.symm) _⟩
 have k8 := hA
 clear hA
 obtain ⟨bk8, hbk8⟩ : ∃ b, Blk.num k8 = b := ⟨_, rfl⟩
 obtain ⟨Wn, hWn⟩ : ∃ V, Blk.wld k8 = V := ⟨_, rfl⟩
 simp only [Blk.num] at hbk8
 simp only [Blk.wld] at hWn
 (try replace k6 := awB hWn k6)
 (try replace k7 := awB hWn k7)
 (try replace k9 := awB hWn k9)
 rw [hWn] at hH k8 ⊢
 rw [hbk8] at k8 ⊢
 clear hbk8 hWn
 clear hK K
 (try simp only [cq])
 refine tkY 18 (some 18) ?_ ?_ ?_
 rotate_left
 · intro w _; go_simp; (try with_reducible rfl)
 (try simp only [cq])
 refine tkY 19 (some 19) ?_ ?_ ?_
 rotate_left
 · intro w _; go_simp; (try with_reducible rfl)
 (try simp only [cq])
 refine wpAnyH_done (by kernel_rfl) ?_ _
 (try dsimp only [Act.put])
 (try simp only [cq])
 go_wp2_with fail
 go_meet
 exact ⟨_, _, _, _, rfl, rfl, rfl, rfl, k6, k7, k8, k9, hH.2.2.2.2⟩
 }
 exact AllReadyH.nil
 }
 refine arc (some 69) (fun K hK => ?_) ?_
 {
 go_simp
 first | refine oA hK ?_ (fun hH hA => ?_) | refine oD hK ?_ (fun hH hA => ?_)
 · exact ⟨hH.1.alloc _, hH.2.1.alloc _, hH.2.2.1.alloc _, hH.2.2.2.1.alloc _, bwA hH.2.2.2.2.1 (Nat.le_refl _) _, bwA hH.2.2.2.2.2 (Nat.le_of_eq HB6.out.symm) _⟩
 have k8 := hA
 clear hA
 obtain ⟨bk8, hbk8⟩ : ∃ b, Blk.num k8 = b := ⟨_, rfl⟩
 obtain ⟨Wn, hWn⟩ : ∃ V, Blk.wld k8 = V := ⟨_, rfl⟩
 simp only [Blk.num] at hbk8
 simp only [Blk.wld] at hWn
 (try replace k6 := awB hWn k6)
 (try replace k7 := awB hWn k7)
 (try replace k9 := awB hWn k9)
 rw [hWn] at hH k8 ⊢
 rw [hbk8] at k8 ⊢
 clear hbk8 hWn
 clear hK K
 (try simp only [cq])
 refine wpAnyH_ready (rs := [3, 15]) (by kernel_rfl) (by simp) ?_
 refine arc (some 61) (fun K hK => ?_) ?_
 {
 go_simp
 first | refine oA hK ?_ (fun hH hA => ?_) | refine oD hK ?_ (fun hH hA => ?_)
 · exact ⟨hH.1.alloc _, hH.2.1.alloc _, hH.2.2.1.alloc _, hH.2.2.2.1.alloc _, bwA hH.2.2.2.2.1 (Nat.le_refl _) _, bwA hH.2.2.2.2.2 (Nat.le_of_eq HB6.out.symm) _⟩
 have k6 := hA
 clear hA
 obtain ⟨bk6, hbk6⟩ : ∃ b, Blk.num k6 = b := ⟨_, rfl⟩
 obtain ⟨Wn, hWn⟩ : ∃ V, Blk.wld k6 = V := ⟨_, rfl⟩
 simp only [Blk.num] at hbk6
 simp only [Blk.wld] at hWn
 (try replace k7 := awB hWn k7)
 (try replace k8 := awB hWn k8)
 (try replace k9 := awB hWn k9)
 rw [hWn] at hH k6 ⊢
 rw [hbk6] at k6 ⊢
 clear hbk6 hWn
 clear hK K
 (try simp only [cq])
 refine tkY 16 (some 16) ?_ ?_ ?_
 rotate_left
 · intro w _; go_simp; (try with_reducible rfl)
 (try simp only [cq])
 refine tkY 17 (some 17) ?_ ?_ ?_
 rotate_left
 · intro w _; go_simp; (try with_reducible rfl)
 (try simp only [cq])
 refine tkY 18 (some 18) ?_ ?_ ?_
 rotate_left
 · intro w _; go_simp; (try with_reducible rfl)
 (try simp only [cq])
 refine wpAnyH_ready (rs := [15]) (by kernel_rfl) (by simp) ?_
 refine arc1 (some 73) fun K hK => ?_
 go_simp
 first | refine oA hK ?_ (fun hH hA => ?_) | refine oD hK ?_ (fun hH hA => ?_)
 · exact ⟨hH.1.alloc _, hH.2.1.alloc _, hH.2.2.1.alloc _, hH.2.2.2.1.alloc _, bwA hH.2.2.2.2.1 (Nat.le_refl _) _, bwA hH.2.2.2.2.2 (Nat.le_of_eq HB6.out.symm) _⟩
 have k9 := hA
 clear hA
 obtain ⟨bk9, hbk9⟩ : ∃ b, Blk.num k9 = b := ⟨_, rfl⟩
 obtain ⟨Wn, hWn⟩ : ∃ V, Blk.wld k9 = V := ⟨_, rfl⟩
 simp only [Blk.num] at hbk9
 simp only [Blk.wld] at hWn
 (try replace k6 := awB hWn k6)
 (try replace k7 := awB hWn k7)
 (try replace k8 := awB hWn k8)
 rw [hWn] at hH k9 ⊢
 rw [hbk9] at k9 ⊢
 clear hbk9 hWn
 clear hK K
 (try simp only [cq])
 refine tkY 19 (some 19) ?_ ?_ ?_
 rotate_left
 · intro w _; go_simp; (try with_reducible rfl)
 (try simp only [cq])
 refine wpAnyH_done (by kernel_rfl) ?_ _
 (try dsimp only [Act.put])
 (try simp only [cq])
 go_wp2_with fail
 go_meet
 exact ⟨_, _, _, _, rfl, rfl, rfl, rfl, k6, k7, k8, k9, hH.2.2.2.2⟩
 }
 refine arc (some 73) (fun K hK => ?_) ?_
 {
 go_simp
 first | refine oA hK ?_ (fun hH hA => ?_) | refine oD hK ?_ (fun hH hA => ?_)
 · exact ⟨hH.1.alloc _, hH.2.1.alloc _, hH.2.2.1.alloc _, hH.2.2.2.1.alloc _, bwA hH.2.2.2.2.1 (Nat.le_refl _) _, bwA hH.2.2.2.2.2 (Nat.le_of_eq HB6.out.symm) _⟩
 have k9 := hA
 clear hA
 obtain ⟨bk9, hbk9⟩ : ∃ b, Blk.num k9 = b := ⟨_, rfl⟩
 obtain ⟨Wn, hWn⟩ : ∃ V, Blk.wld k9 = V := ⟨_, rfl⟩
 simp only [Blk.num] at hbk9
 simp only [Blk.wld] at hWn
 (try replace k6 := awB hWn k6)
 (try replace k7 := awB hWn k7)
 (try replace k8 := awB hWn k8)
 rw [hWn] at hH k9 ⊢
 rw [hbk9] at k9 ⊢
 clear hbk9 hWn
 clear hK K
 (try simp only [cq])
 refine wpAnyH_ready (rs := [3]) (by kernel_rfl) (by simp) ?_
 refine arc1 (some 61) fun K hK => ?_
 go_simp
 first | refine oA hK ?_ (fun hH hA => ?_) | refine oD hK ?_ (fun hH hA => ?_)
 · exact ⟨hH.1.alloc _, hH.2.1.alloc _, hH.2.2.1.alloc _, hH.2.2.2.1.alloc _, bwA hH.2.2.2.2.1 (Nat.le_refl _) _, bwA hH.2.2.2.2.2 (Nat.le_of_eq HB6.out.symm) _⟩
 have k6 := hA
 clear hA
 obtain ⟨bk6, hbk6⟩ : ∃ b, Blk.num k6 = b := ⟨_, rfl⟩
 obtain ⟨Wn, hWn⟩ : ∃ V, Blk.wld k6 = V := ⟨_, rfl⟩
 simp only [Blk.num] at hbk6
 simp only [Blk.wld] at hWn
 (try replace k7 := awB hWn k7)
 (try replace k8 := awB hWn k8)
 (try replace k9 := awB hWn k9)
 rw [hWn] at hH k6 ⊢
 rw [hbk6] at k6 ⊢
 clear hbk6 hWn
 clear hK K
 (try simp only [cq])
 refine tkY 16 (some 16) ?_ ?_ ?_
 rotate_left
 · intro w _; go_simp; (try with_reducible rfl)
 (try simp only [cq])
 refine tkY 17 (some 17) ?_ ?_ ?_
 rotate_left
 · intro w _; go_simp; (try with_reducible rfl)
 (try simp only [cq])
 refine tkY 18 (some 18) ?_ ?_ ?_
 rotate_left
 · intro w _; go_simp; (try with_reducible rfl)
 (try simp only [cq])
 refine tkY 19 (some 19) ?_ ?_ ?_
 rotate_left
 · intro w _; go_simp; (try with_reducible rfl)
 (try simp only [cq])
 refine wpAnyH_done (by kernel_rfl) ?_ _
 (try dsimp only [Act.put])
 (try simp only [cq])
 go_wp2_with fail
 go_meet
 exact ⟨_, _, _, _, rfl, rfl, rfl, rfl, k6, k7, k8, k9, hH.2.2.2.2⟩
 }
 exact AllReadyH.nil
 }
 refine arc (some 73) (fun K hK => ?_) ?_
 {
 go_simp
 first | refine oA hK ?_ (fun hH hA => ?_) | refine oD hK ?_ (fun hH hA => ?_)
 · exact ⟨hH.1.alloc _, hH.2.1.alloc _, hH.2.2.1.alloc _, hH.2.2.2.1.alloc _, bwA hH.2.2.2.2.1 (Nat.le_refl _) _, bwA hH.2.2.2.2.2 (Nat.le_of_eq HB6.out.symm) _⟩
 have k9 := hA
 clear hA
 obtain ⟨bk9, hbk9⟩ : ∃ b, Blk.num k9 = b := ⟨_, rfl⟩
 obtain ⟨Wn, hWn⟩ : ∃ V, Blk.wld k9 = V := ⟨_, rfl⟩
 simp only [Blk.num] at hbk9
 simp only [Blk.wld] at hWn
 (try replace k6 := awB hWn k6)
 (try replace k7 := awB hWn k7)
 (try replace k8 := awB hWn k8)
 rw [hWn] at hH k9 ⊢
 rw [hbk9] at k9 ⊢
 clear hbk9 hWn
 clear hK K
 (try simp only [cq])
 refine wpAnyH_ready (rs := [3, 11]) (by kernel_rfl) (by simp) ?_
 refine arc (some 61) (fun K hK => ?_) ?_
 {
 go_simp
 first | refine oA hK ?_ (fun hH hA => ?_) | refine oD hK ?_ (fun hH hA => ?_)
 · exact ⟨hH.1.alloc _, hH.2.1.alloc _, hH.2.2.1.alloc _, hH.2.2.2.1.alloc _, bwA hH.2.2.2.2.1 (Nat.le_refl _) _, bwA hH.2.2.2.2.2 (Nat.le_of_eq HB6.out.symm) _⟩
 have k6 := hA
 clear hA
 obtain ⟨bk6, hbk6⟩ : ∃ b, Blk.num k6 = b := ⟨_, rfl⟩
 obtain ⟨Wn, hWn⟩ : ∃ V, Blk.wld k6 = V := ⟨_, rfl⟩
 simp only [Blk.num] at hbk6
 simp only [Blk.wld] at hWn
 (try replace k7 := awB hWn k7)
 (try replace k8 := awB hWn k8)
 (try replace k9 := awB hWn k9)
 rw [hWn] at hH k6 ⊢
 rw [hbk6] at k6 ⊢
 clear hbk6 hWn
 clear hK K
 (try simp only [cq])
 refine tkY 16 (some 16) ?_ ?_ ?_
 rotate_left
 · intro w _; go_simp; (try with_reducible rfl)
 (try simp only [cq])
 refine tkY 17 (some 17) ?_ ?_ ?_
 rotate_left
 · intro w _; go_simp; (try with_reducible rfl)
 (try simp only [cq])
 refine wpAnyH_ready (rs := [11]) (by kernel_rfl) (by simp) ?_
 refine arc1 (some 69) fun K hK => ?_
 go_simp
 first | refine oA hK ?_ (fun hH hA => ?_) | refine oD hK ?_ (fun hH hA => ?_)
 · exact ⟨hH.1.alloc _, hH.2.1.alloc _, hH.2.2.1.alloc _, hH.2.2.2.1.alloc _, bwA hH.2.2.2.2.1 (Nat.le_refl _) _, bwA hH.2.2.2.2.2 (Nat.le_of_eq HB6.out.symm) _⟩
 have k8 := hA
 clear hA
 obtain ⟨bk8, hbk8⟩ : ∃ b, Blk.num k8 = b := ⟨_, rfl⟩
 obtain ⟨Wn, hWn⟩ : ∃ V, Blk.wld k8 = V := ⟨_, rfl⟩
 simp only [Blk.num] at hbk8
 simp only [Blk.wld] at hWn
 (try replace k6 := awB hWn k6)
 (try replace k7 := awB hWn k7)
 (try replace k9 := awB hWn k9)
 rw [hWn] at hH k8 ⊢
 rw [hbk8] at k8 ⊢
 clear hbk8 hWn
 clear hK K
 (try simp only [cq])
 refine tkY 18 (some 18) ?_ ?_ ?_
 rotate_left
 · intro w _; go_simp; (try with_reducible rfl)
 (try simp only [cq])
 refine tkY 19 (some 19) ?_ ?_ ?_
 rotate_left
 · intro w _; go_simp; (try with_reducible rfl)
 (try simp only [cq])
 refine wpAnyH_done (by kernel_rfl) ?_ _
 (try dsimp only [Act.put])
 (try simp only [cq])
 go_wp2_with fail
 go_meet
 exact ⟨_, _, _, _, rfl, rfl, rfl, rfl, k6, k7, k8, k9, hH.2.2.2.2⟩
 }
 refine arc (some 69) (fun K hK => ?_) ?_
 {
 go_simp
 first | refine oA hK ?_ (fun hH hA => ?_) | refine oD hK ?_ (fun hH hA => ?_)
 · exact ⟨hH.1.alloc _, hH.2.1.alloc _, hH.2.2.1.alloc _, hH.2.2.2.1.alloc _, bwA hH.2.2.2.2.1 (Nat.le_refl _) _, bwA hH.2.2.2.2.2 (Nat.le_of_eq HB6.out.symm) _⟩
 have k8 := hA
 clear hA
 obtain ⟨bk8, hbk8⟩ : ∃ b, Blk.num k8 = b := ⟨_, rfl⟩
 obtain ⟨Wn, hWn⟩ : ∃ V, Blk.wld k8 = V := ⟨_, rfl⟩
 simp only [Blk.num] at hbk8
 simp only [Blk.wld] at hWn
 (try replace k6 := awB hWn k6)
 (try replace k7 := awB hWn k7)
 (try replace k9 := awB hWn k9)
 rw [hWn] at hH k8 ⊢
 rw [hbk8] at k8 ⊢
 clear hbk8 hWn
 clear hK K
 (try simp only [cq])
 refine wpAnyH_ready (rs := [3]) (by kernel_rfl) (by simp) ?_
 refine arc1 (some 61) fun K hK => ?_
 go_simp
 first | refine oA hK ?_ (fun hH hA => ?_) | refine oD hK ?_ (fun hH hA => ?_)
 · exact ⟨hH.1.alloc _, hH.2.1.alloc _, hH.2.2.1.alloc _, hH.2.2.2.1.alloc _, bwA hH.2.2.2.2.1 (Nat.le_refl _) _, bwA hH.2.2.2.2.2 (Nat.le_of_eq HB6.out.symm) _⟩
 have k6 := hA
 clear hA
 obtain ⟨bk6, hbk6⟩ : ∃ b, Blk.num k6 = b := ⟨_, rfl⟩
 obtain ⟨Wn, hWn⟩ : ∃ V, Blk.wld k6 = V := ⟨_, rfl⟩
 simp only [Blk.num] at hbk6
 simp only [Blk.wld] at hWn
 (try replace k7 := awB hWn k7)
 (try replace k8 := awB hWn k8)
 (try replace k9 := awB hWn k9)
 rw [hWn] at hH k6 ⊢
 rw [hbk6] at k6 ⊢
 clear hbk6 hWn
 clear hK K
 (try simp only [cq])
 refine tkY 16 (some 16) ?_ ?_ ?_
 rotate_left
 · intro w _; go_simp; (try with_reducible rfl)
 (try simp only [cq])
 refine tkY 17 (some 17) ?_ ?_ ?_
 rotate_left
 · intro w _; go_simp; (try with_reducible rfl)
 (try simp only [cq])
 refine tkY 18 (some 18) ?_ ?_ ?_
 rotate_left
 · intro w _; go_simp; (try with_reducible rfl)
 (try simp only [cq])
 refine tkY 19 (some 19) ?_ ?_ ?_
 rotate_left
 · intro w _; go_simp; (try with_reducible rfl)
 (try simp only [cq])
 refine wpAnyH_done (by kernel_rfl) ?_ _
 (try dsimp only [Act.put])
 (try simp only [cq])
 go_wp2_with fail
 go_meet
 exact ⟨_, _, _, _, rfl, rfl, rfl, rfl, k6, k7, k8, k9, hH.2.2.2.2⟩
 }
 exact AllReadyH.nil
 }
 exact AllReadyH.nil
 }
 refine arc (some 69) (fun K hK => ?_) ?_
 {
 go_simp
 first | refine oA hK ?_ (fun hH hA => ?_) | refine oD hK ?_ (fun hH hA => ?_)
 · exact ⟨hH.1.alloc _, hH.2.1.alloc _, hH.2.2.1.alloc _, hH.2.2.2.1.alloc _, bwA hH.2.2.2.2.1 (Nat.le_refl _) _, bwA hH.2.2.2.2.2 (Nat.le_of_eq HB6.out.symm) _⟩
 have k8 := hA
 clear hA
 obtain ⟨bk8, hbk8⟩ : ∃ b, Blk.num k8 = b := ⟨_, rfl⟩
 obtain ⟨Wn, hWn⟩ : ∃ V, Blk.wld k8 = V := ⟨_, rfl⟩
 simp only [Blk.num] at hbk8
 simp only [Blk.wld] at hWn
 (try replace k6 := awB hWn k6)
 (try replace k7 := awB hWn k7)
 (try replace k9 := awB hWn k9)
 rw [hWn] at hH k8 ⊢
 rw [hbk8] at k8 ⊢
 clear hbk8 hWn
 clear hK K
 (try simp only [cq])
 refine wpAnyH_ready (rs := [3, 7, 15]) (by kernel_rfl) (by simp) ?_
 refine arc (some 61) (fun K hK => ?_) ?_
 {
 go_simp
 first | refine oA hK ?_ (fun hH hA => ?_) | refine oD hK ?_ (fun hH hA => ?_)
 · exact ⟨hH.1.alloc _, hH.2.1.alloc _, hH.2.2.1.alloc _, hH.2.2.2.1.alloc _, bwA hH.2.2.2.2.1 (Nat.le_refl _) _, bwA hH.2.2.2.2.2 (Nat.le_of_eq HB6.out.symm) _⟩
 have k6 := hA
 clear hA
 obtain ⟨bk6, hbk6⟩ : ∃ b, Blk.num k6 = b := ⟨_, rfl⟩
 obtain ⟨Wn, hWn⟩ : ∃ V, Blk.wld k6 = V := ⟨_, rfl⟩
 simp only [Blk.num] at hbk6
 simp only [Blk.wld] at hWn
 (try replace k7 := awB hWn k7)
 (try replace k8 := awB hWn k8)
 (try replace k9 := awB hWn k9)
 rw [hWn] at hH k6 ⊢
 rw [hbk6] at k6 ⊢
 clear hbk6 hWn
 clear hK K
 (try simp only [cq])
 refine tkY 16 (some 16) ?_ ?_ ?_
 rotate_left
 · intro w _; go_simp; (try with_reducible rfl)
 (try simp only [cq])
 refine wpAnyH_ready (rs := [7, 15]) (by kernel_rfl) (by simp) ?_
 refine arc (some 65) (fun K hK => ?_) ?_
 {
 go_simp
 first | refine oA hK ?_ (fun hH hA => ?_) | refine oD hK ?_ (fun hH hA => ?_)
 · exact ⟨hH.1.alloc _, hH.2.1.alloc _, hH.2.2.1.alloc _, hH.2.2.2.1.alloc _, bwA hH.2.2.2.2.1 (Nat.le_refl _) _, bwA hH.2.2.2.2.2 (Nat.le_of_eq HB6.out.symm) _⟩
 have k7 := hA
 clear hA
 obtain ⟨bk7, hbk7⟩ : ∃ b, Blk.num k7 = b := ⟨_, rfl⟩
 obtain ⟨Wn, hWn⟩ : ∃ V, Blk.wld k7 = V := ⟨_, rfl⟩
 simp only [Blk.num] at hbk7
 simp only [Blk.wld] at hWn
 (try replace k6 := awB hWn k6)
 (try replace k8 := awB hWn k8)
 (try replace k9 := awB hWn k9)
 rw [hWn] at hH k7 ⊢
 rw [hbk7] at k7 ⊢
 clear hbk7 hWn
 clear hK K
 (try simp only [cq])
 refine tkY 17 (some 17) ?_ ?_ ?_
 rotate_left
 · intro w _; go_simp; (try with_reducible rfl)
 (try simp only [cq])
 refine tkY 18 (some 18) ?_ ?_ ?_
 rotate_left
 · intro w _; go_simp; (try with_reducible rfl)
 (try simp only [cq])
 refine wpAnyH_ready (rs := [15]) (by kernel_rfl) (by simp) ?_
 refine arc1 (some 73) fun K hK => ?_
 go_simp
 first | refine oA hK ?_ (fun hH hA => ?_) | refine oD hK ?_ (fun hH hA => ?_)
 · exact ⟨hH.1.alloc _, hH.2.1.alloc _, hH.2.2.1.alloc _, hH.2.2.2.1.alloc _, bwA hH.2.2.2.2.1 (Nat.le_refl _) _, bwA hH.2.2.2.2.2 (Nat.le_of_eq HB6.out.symm) _⟩
 have k9 := hA
 clear hA
 obtain ⟨bk9, hbk9⟩ : ∃ b, Blk.num k9 = b := ⟨_, rfl⟩
 obtain ⟨Wn, hWn⟩ : ∃ V, Blk.wld k9 = V := ⟨_, rfl⟩
 simp only [Blk.num] at hbk9
 simp only [Blk.wld] at hWn
 (try replace k6 := awB hWn k6)
 (try replace k7 := awB hWn k7)
 (try replace k8 := awB hWn k8)
 rw [hWn] at hH k9 ⊢
 rw [hbk9] at k9 ⊢
 clear hbk9 hWn
 clear hK K
 (try simp only [cq])
 refine tkY 19 (some 19) ?_ ?_ ?_
 rotate_left
 · intro w _; go_simp; (try with_reducible rfl)
 (try simp only [cq])
 refine wpAnyH_done (by kernel_rfl) ?_ _
 (try dsimp only [Act.put])
 (try simp only [cq])
 go_wp2_with fail
 go_meet
 exact ⟨_, _, _, _, rfl, rfl, rfl, rfl, k6, k7, k8, k9, hH.2.2.2.2⟩
 }
 refine arc (some 73) (fun K hK => ?_) ?_
 {
 go_simp
 first | refine oA hK ?_ (fun hH hA => ?_) | refine oD hK ?_ (fun hH hA => ?_)
 · exact ⟨hH.1.alloc _, hH.2.1.alloc _, hH.2.2.1.alloc _, hH.2.2.2.1.alloc _, bwA hH.2.2.2.2.1 (Nat.le_refl _) _, bwA hH.2.2.2.2.2 (Nat.le_of_eq HB6.out.symm) _⟩
 have k9 := hA
 clear hA
 obtain ⟨bk9, hbk9⟩ : ∃ b, Blk.num k9 = b := ⟨_, rfl⟩
 obtain ⟨Wn, hWn⟩ : ∃ V, Blk.wld k9 = V := ⟨_, rfl⟩
 simp only [Blk.num] at hbk9
 simp only [Blk.wld] at hWn
 (try replace k6 := awB hWn k6)
 (try replace k7 := awB hWn k7)
 (try replace k8 := awB hWn k8)
 rw [hWn] at hH k9 ⊢
 rw [hbk9] at k9 ⊢
 clear hbk9 hWn
 clear hK K
 (try simp only [cq])
 refine wpAnyH_ready (rs := [7]) (by kernel_rfl) (by simp) ?_
 refine arc1 (some 65) fun K hK => ?_
 go_simp
 first | refine oA hK ?_ (fun hH hA => ?_) | refine oD hK ?_ (fun hH hA => ?_)
 · exact ⟨hH.1.alloc _, hH.2.1.alloc _, hH.2.2.1.alloc _, hH.2.2.2.1.alloc _, bwA hH.2.2.2.2.1 (Nat.le_refl _) _, bwA hH.2.2.2.2.2 (Nat.le_of_eq HB6.out.symm) _⟩
 have k7 := hA
 clear hA
 obtain ⟨bk7, hbk7⟩ : ∃ b, Blk.num k7 = b := ⟨_, rfl⟩
 obtain ⟨Wn, hWn⟩ : ∃ V, Blk.wld k7 = V := ⟨_, rfl⟩
 simp only [Blk.num] at hbk7
 simp only [Blk.wld] at hWn
 (try replace k6 := awB hWn k6)
 (try replace k8 := awB hWn k8)
 (try replace k9 := awB hWn k9)
 rw [hWn] at hH k7 ⊢
 rw [hbk7] at k7 ⊢
 clear hbk7 hWn
 clear hK K
 (try simp only [cq])
 refine tkY 17 (some 17) ?_ ?_ ?_
 rotate_left
 · intro w _; go_simp; (try with_reducible rfl)
 (try simp only [cq])
 refine tkY 18 (some 18) ?_ ?_ ?_
 rotate_left
 · intro w _; go_simp; (try with_reducible rfl)
 (try simp only [cq])
 refine tkY 19 (some 19) ?_ ?_ ?_
 rotate_left
 · intro w _; go_simp; (try with_reducible rfl)
 (try simp only [cq])
 refine wpAnyH_done (by kernel_rfl) ?_ _
 (try dsimp only [Act.put])
 (try simp only [cq])
 go_wp2_with fail
 go_meet
 exact ⟨_, _, _, _, rfl, rfl, rfl, rfl, k6, k7, k8, k9, hH.2.2.2.2⟩
 }
 exact AllReadyH.nil
 }
 refine arc (some 65) (fun K hK => ?_) ?_
 {
 go_simp
 first | refine oA hK ?_ (fun hH hA => ?_) | refine oD hK ?_ (fun hH hA => ?_)
 · exact ⟨hH.1.alloc _, hH.2.1.alloc _, hH.2.2.1.alloc _, hH.2.2.2.1.alloc _, bwA hH.2.2.2.2.1 (Nat.le_refl _) _, bwA hH.2.2.2.2.2 (Nat.le_of_eq HB6.out.symm) _⟩
 have k7 := hA
 clear hA
 obtain ⟨bk7, hbk7⟩ : ∃ b, Blk.num k7 = b := ⟨_, rfl⟩
 obtain ⟨Wn, hWn⟩ : ∃ V, Blk.wld k7 = V := ⟨_, rfl⟩
 simp only [Blk.num] at hbk7
 simp only [Blk.wld] at hWn
 (try replace k6 := awB hWn k6)
 (try replace k8 := awB hWn k8)
 (try replace k9 := awB hWn k9)
 rw [hWn] at hH k7 ⊢
 rw [hbk7] at k7 ⊢
 clear hbk7 hWn
 clear hK K
 (try simp only [cq])
 refine wpAnyH_ready (rs := [3, 15]) (by kernel_rfl) (by simp) ?_
 refine arc (some 61) (fun K hK => ?_) ?_
 {
 go_simp
 first | refine oA hK ?_ (fun hH hA => ?_) | refine oD hK ?_ (fun hH hA => ?_)
 · exact ⟨hH.1.alloc _, hH.2.1.alloc _, hH.2.2.1.alloc _, hH.2.2.2.1.alloc _, bwA hH.2.2.2.2.1 (Nat.le_refl _) _, bwA hH.2.2.2.2.2 (Nat.le_of_eq HB6.out.symm) _⟩
 have k6 := hA
 clear hA
 obtain ⟨bk6, hbk6⟩ : ∃ b, Blk.num k6 = b := ⟨_, rfl⟩
 obtain ⟨Wn, hWn⟩ : ∃ V, Blk.wld k6 = V := ⟨_, rfl⟩
 simp only [Blk.num] at hbk6
 simp only [Blk.wld] at hWn
 (try replace k7 := awB hWn k7)
 (try replace k8 := awB hWn k8)
 (try replace k9 := awB hWn k9)
 rw [hWn] at hH k6 ⊢
 rw [hbk6] at k6 ⊢
 clear hbk6 hWn
 clear hK K
 (try simp only [cq])
 refine tkY 16 (some 16) ?_ ?_ ?_
 rotate_left
 · intro w _; go_simp; (try with_reducible rfl)
 (try simp only [cq])
 refine tkY 17 (some 17) ?_ ?_ ?_
 rotate_left
 · intro w _; go_simp; (try with_reducible rfl)
 (try simp only [cq])
 refine tkY 18 (some 18) ?_ ?_ ?_
 rotate_left
 · intro w _; go_simp; (try with_reducible rfl)
 (try simp only [cq])
 refine wpAnyH_ready (rs := [15]) (by kernel_rfl) (by simp) ?_
 refine arc1 (some 73) fun K hK => ?_
 go_simp
 first | refine oA hK ?_ (fun hH hA => ?_) | refine oD hK ?_ (fun hH hA => ?_)
 · exact ⟨hH.1.alloc _, hH.2.1.alloc _, hH.2.2.1.alloc _, hH.2.2.2.1.alloc _, bwA hH.2.2.2.2.1 (Nat.le_refl _) _, bwA hH.2.2.2.2.2 (Nat.le_of_eq HB6.out.symm) _⟩
 have k9 := hA
 clear hA
 obtain ⟨bk9, hbk9⟩ : ∃ b, Blk.num k9 = b := ⟨_, rfl⟩
 obtain ⟨Wn, hWn⟩ : ∃ V, Blk.wld k9 = V := ⟨_, rfl⟩
 simp only [Blk.num] at hbk9
 simp only [Blk.wld] at hWn
 (try replace k6 := awB hWn k6)
 (try replace k7 := awB hWn k7)
 (try replace k8 := awB hWn k8)
 rw [hWn] at hH k9 ⊢
 rw [hbk9] at k9 ⊢
 clear hbk9 hWn
 clear hK K
 (try simp only [cq])
 refine tkY 19 (some 19) ?_ ?_ ?_
 rotate_left
 · intro w _; go_simp; (try with_reducible rfl)
 (try simp only [cq])
 refine wpAnyH_done (by kernel_rfl) ?_ _
 (try dsimp only [Act.put])
 (try simp only [cq])
 go_wp2_with fail
 go_meet
 exact ⟨_, _, _, _, rfl, rfl, rfl, rfl, k6, k7, k8, k9, hH.2.2.2.2⟩
 }
 refine arc (some 73) (fun K hK => ?_) ?_
 {
 go_simp
 first | refine oA hK ?_ (fun hH hA => ?_) | refine oD hK ?_ (fun hH hA => ?_)
 · exact ⟨hH.1.alloc _, hH.2.1.alloc _, hH.2.2.1.alloc _, hH.2.2.2.1.alloc _, bwA hH.2.2.2.2.1 (Nat.le_refl _) _, bwA hH.2.2.2.2.2 (Nat.le_of_eq HB6.out.symm) _⟩
 have k9 := hA
 clear hA
 obtain ⟨bk9, hbk9⟩ : ∃ b, Blk.num k9 = b := ⟨_, rfl⟩
 obtain ⟨Wn, hWn⟩ : ∃ V, Blk.wld k9 = V := ⟨_, rfl⟩
 simp only [Blk.num] at hbk9
 simp only [Blk.wld] at hWn
 (try replace k6 := awB hWn k6)
 (try replace k7 := awB hWn k7)
 (try replace k8 := awB hWn k8)
 rw [hWn] at hH k9 ⊢
 rw [hbk9] at k9 ⊢
 clear hbk9 hWn
 clear hK K
 (try simp only [cq])
 refine wpAnyH_ready (rs := [3]) (by kernel_rfl) (by simp) ?_
 refine arc1 (some 61) fun K hK => ?_
 go_simp
 first | refine oA hK ?_ (fun hH hA => ?_) | refine oD hK ?_ (fun hH hA => ?_)
 · exact ⟨hH.1.alloc _, hH.2.1.alloc _, hH.2.2.1.alloc _, hH.2.2.2.1.alloc _, bwA hH.2.2.2.2.1 (Nat.le_refl _) _, bwA hH.2.2.2.2.2 (Nat.le_of_eq HB6.out.symm) _⟩
 have k6 := hA
 clear hA
 obtain ⟨bk6, hbk6⟩ : ∃ b, Blk.num k6 = b := ⟨_, rfl⟩
 obtain ⟨Wn, hWn⟩ : ∃ V, Blk.wld k6 = V := ⟨_, rfl⟩
 simp only [Blk.num] at hbk6
 simp only [Blk.wld] at hWn
 (try replace k7 := awB hWn k7)
 (try replace k8 := awB hWn k8)
 (try replace k9 := awB hWn k9)
 rw [hWn] at hH k6 ⊢
 rw [hbk6] at k6 ⊢
 clear hbk6 hWn
 clear hK K
 (try simp only [cq])
 refine tkY 16 (some 16) ?_ ?_ ?_
 rotate_left
 · intro w _; go_simp; (try with_reducible rfl)
 (try simp only [cq])
 refine tkY 17 (some 17) ?_ ?_ ?_
 rotate_left
 · intro w _; go_simp; (try with_reducible rfl)
 (try simp only [cq])
 refine tkY 18 (some 18) ?_ ?_ ?_
 rotate_left
 · intro w _; go_simp; (try with_reducible rfl)
 (try simp only [cq])
 refine tkY 19 (some 19) ?_ ?_ ?_
 rotate_left
 · intro w _; go_simp; (try with_reducible rfl)
 (try simp only [cq])
 refine wpAnyH_done (by kernel_rfl) ?_ _
 (try dsimp only [Act.put])
 (try simp only [cq])
 go_wp2_with fail
 go_meet
 exact ⟨_, _, _, _, rfl, rfl, rfl, rfl, k6, k7, k8, k9, hH.2.2.2.2⟩
 }
 exact AllReadyH.nil
 }
 refine arc (some 73) (fun K hK => ?_) ?_
 {
 go_simp
 first | refine oA hK ?_ (fun hH hA => ?_) | refine oD hK ?_ (fun hH hA => ?_)
 · exact ⟨hH.1.alloc _, hH.2.1.alloc _, hH.2.2.1.alloc _, hH.2.2.2.1.alloc _, bwA hH.2.2.2.2.1 (Nat.le_refl _) _, bwA hH.2.2.2.2.2 (Nat.le_of_eq HB6.out.symm) _⟩
 have k9 := hA
 clear hA
 obtain ⟨bk9, hbk9⟩ : ∃ b, Blk.num k9 = b := ⟨_, rfl⟩
 obtain ⟨Wn, hWn⟩ : ∃ V, Blk.wld k9 = V := ⟨_, rfl⟩
 simp only [Blk.num] at hbk9
 simp only [Blk.wld] at hWn
 (try replace k6 := awB hWn k6)
 (try replace k7 := awB hWn k7)
 (try replace k8 := awB hWn k8)
 rw [hWn] at hH k9 ⊢
 rw [hbk9] at k9 ⊢
 clear hbk9 hWn
 clear hK K
 (try simp only [cq])
 refine wpAnyH_ready (rs := [3, 7]) (by kernel_rfl) (by simp) ?_
 refine arc (some 61) (fun K hK => ?_) ?_
 {
 go_simp
 first | refine oA hK ?_ (fun hH hA => ?_) | refine oD hK ?_ (fun hH hA => ?_)
 · exact ⟨hH.1.alloc _, hH.2.1.alloc _, hH.2.2.1.alloc _, hH.2.2.2.1.alloc _, bwA hH.2.2.2.2.1 (Nat.le_refl _) _, bwA hH.2.2.2.2.2 (Nat.le_of_eq HB6.out.symm) _⟩
 have k6 := hA
 clear hA
 obtain ⟨bk6, hbk6⟩ : ∃ b, Blk.num k6 = b := ⟨_, rfl⟩
 obtain ⟨Wn, hWn⟩ : ∃ V, Blk.wld k6 = V := ⟨_, rfl⟩
 simp only [Blk.num] at hbk6
 simp only [Blk.wld] at hWn
 (try replace k7 := awB hWn k7)
 (try replace k8 := awB hWn k8)
 (try replace k9 := awB hWn k9)
 rw [hWn] at hH k6 ⊢
 rw [hbk6] at k6 ⊢
 clear hbk6 hWn
 clear hK K
 (try simp only [cq])
 refine tkY 16 (some 16) ?_ ?_ ?_
 rotate_left
 · intro w _; go_simp; (try with_reducible rfl)
 (try simp only [cq])
 refine wpAnyH_ready (rs := [7]) (by kernel_rfl) (by simp) ?_
 refine arc1 (some 65) fun K hK => ?_
 go_simp
 first | refine oA hK ?_ (fun hH hA => ?_) | refine oD hK ?_ (fun hH hA => ?_)
 · exact ⟨hH.1.alloc _, hH.2.1.alloc _, hH.2.2.1.alloc _, hH.2.2.2.1.alloc _, bwA hH.2.2.2.2.1 (Nat.le_refl _) _, bwA hH.2.2.2.2.2 (Nat.le_of_eq HB6.out.symm) _⟩
 have k7 := hA
 clear hA
 obtain ⟨bk7, hbk7⟩ : ∃ b, Blk.num k7 = b := ⟨_, rfl⟩
 obtain ⟨Wn, hWn⟩ : ∃ V, Blk.wld k7 = V := ⟨_, rfl⟩
 simp only [Blk.num] at hbk7
 simp only [Blk.wld] at hWn
 (try replace k6 := awB hWn k6)
 (try replace k8 := awB hWn k8)
 (try replace k9 := awB hWn k9)
 rw [hWn] at hH k7 ⊢
 rw [hbk7] at k7 ⊢
 clear hbk7 hWn
 clear hK K
 (try simp only [cq])
 refine tkY 17 (some 17) ?_ ?_ ?_
 rotate_left
 · intro w _; go_simp; (try with_reducible rfl)
 (try simp only [cq])
 refine tkY 18 (some 18) ?_ ?_ ?_
 rotate_left
 · intro w _; go_simp; (try with_reducible rfl)
 (try simp only [cq])
 refine tkY 19 (some 19) ?_ ?_ ?_
 rotate_left
 · intro w _; go_simp; (try with_reducible rfl)
 (try simp only [cq])
 refine wpAnyH_done (by kernel_rfl) ?_ _
 (try dsimp only [Act.put])
 (try simp only [cq])
 go_wp2_with fail
 go_meet
 exact ⟨_, _, _, _, rfl, rfl, rfl, rfl, k6, k7, k8, k9, hH.2.2.2.2⟩
 }
 refine arc (some 65) (fun K hK => ?_) ?_
 {
 go_simp
 first | refine oA hK ?_ (fun hH hA => ?_) | refine oD hK ?_ (fun hH hA => ?_)
 · exact ⟨hH.1.alloc _, hH.2.1.alloc _, hH.2.2.1.alloc _, hH.2.2.2.1.alloc _, bwA hH.2.2.2.2.1 (Nat.le_refl _) _, bwA hH.2.2.2.2.2 (Nat.le_of_eq HB6.out.symm) _⟩
 have k7 := hA
 clear hA
 obtain ⟨bk7, hbk7⟩ : ∃ b, Blk.num k7 = b := ⟨_, rfl⟩
 obtain ⟨Wn, hWn⟩ : ∃ V, Blk.wld k7 = V := ⟨_, rfl⟩
 simp only [Blk.num] at hbk7
 simp only [Blk.wld] at hWn
 (try replace k6 := awB hWn k6)
 (try replace k8 := awB hWn k8)
 (try replace k9 := awB hWn k9)
 rw [hWn] at hH k7 ⊢
 rw [hbk7] at k7 ⊢
 clear hbk7 hWn
 clear hK K
 (try simp only [cq])
 refine wpAnyH_ready (rs := [3]) (by kernel_rfl) (by simp) ?_
 refine arc1 (some 61) fun K hK => ?_
 go_simp
 first | refine oA hK ?_ (fun hH hA => ?_) | refine oD hK ?_ (fun hH hA => ?_)
 · exact ⟨hH.1.alloc _, hH.2.1.alloc _, hH.2.2.1.alloc _, hH.2.2.2.1.alloc _, bwA hH.2.2.2.2.1 (Nat.le_refl _) _, bwA hH.2.2.2.2.2 (Nat.le_of_eq HB6.out.symm) _⟩
 have k6 := hA
 clear hA
 obtain ⟨bk6, hbk6⟩ : ∃ b, Blk.num k6 = b := ⟨_, rfl⟩
 obtain ⟨Wn, hWn⟩ : ∃ V, Blk.wld k6 = V := ⟨_, rfl⟩
 simp only [Blk.num] at hbk6
 simp only [Blk.wld] at hWn
 (try replace k7 := awB hWn k7)
 (try replace k8 := awB hWn k8)
 (try replace k9 := awB hWn k9)
 rw [hWn] at hH k6 ⊢
 rw [hbk6] at k6 ⊢
 clear hbk6 hWn
 clear hK K
 (try simp only [cq])
 refine tkY 16 (some 16) ?_ ?_ ?_
 rotate_left
 · intro w _; go_simp; (try with_reducible rfl)
 (try simp only [cq])
 refine tkY 17 (some 17) ?_ ?_ ?_
 rotate_left
 · intro w _; go_simp; (try with_reducible rfl)
 (try simp only [cq])
 refine tkY 18 (some 18) ?_ ?_ ?_
 rotate_left
 · intro w _; go_simp; (try with_reducible rfl)
 (try simp only [cq])
 refine tkY 19 (some 19) ?_ ?_ ?_
 rotate_left
 · intro w _; go_simp; (try with_reducible rfl)
 (try simp only [cq])
 refine wpAnyH_done (by kernel_rfl) ?_ _
 (try dsimp only [Act.put])
 (try simp only [cq])
 go_wp2_with fail
 go_meet
 exact ⟨_, _, _, _, rfl, rfl, rfl, rfl, k6, k7, k8, k9, hH.2.2.2.2⟩
 }
 exact AllReadyH.nil
 }
 exact AllReadyH.nil
 }
 refine arc (some 73) (fun K hK => ?_) ?_
 {
 go_simp
 first | refine oA hK ?_ (fun hH hA => ?_) | refine oD hK ?_ (fun hH hA => ?_)
 · exact ⟨hH.1.alloc _, hH.2.1.alloc _, hH.2.2.1.alloc _, hH.2.2.2.1.alloc _, bwA hH.2.2.2.2.1 (Nat.le_refl _) _, bwA hH.2.2.2.2.2 (Nat.le_of_eq HB6.out.symm) _⟩
 have k9 := hA
 clear hA
 obtain ⟨bk9, hbk9⟩ : ∃ b, Blk.num k9 = b := ⟨_, rfl⟩
 obtain ⟨Wn, hWn⟩ : ∃ V, Blk.wld k9 = V := ⟨_, rfl⟩
 simp only [Blk.num] at hbk9
 simp only [Blk.wld] at hWn
 (try replace k6 := awB hWn k6)
 (try replace k7 := awB hWn k7)
 (try replace k8 := awB hWn k8)
 rw [hWn] at hH k9 ⊢
 rw [hbk9] at k9 ⊢
 clear hbk9 hWn
 clear hK K
 (try simp only [cq])
 refine wpAnyH_ready (rs := [3, 7, 11]) (by kernel_rfl) (by simp) ?_
 refine arc (some 61) (fun K hK => ?_) ?_
 {
 go_simp
 first | refine oA hK ?_ (fun hH hA => ?_) | refine oD hK ?_ (fun hH hA => ?_)
 · exact ⟨hH.1.alloc _, hH.2.1.alloc _, hH.2.2.1.alloc _, hH.2.2.2.1.alloc _, bwA hH.2.2.2.2.1 (Nat.le_refl _) _, bwA hH.2.2.2.2.2 (Nat.le_of_eq HB6.out.symm) _⟩
 have k6 := hA
 clear hA
 obtain ⟨bk6, hbk6⟩ : ∃ b, Blk.num k6 = b := ⟨_, rfl⟩
 obtain ⟨Wn, hWn⟩ : ∃ V, Blk.wld k6 = V := ⟨_, rfl⟩
 simp only [Blk.num] at hbk6
 simp only [Blk.wld] at hWn
 (try replace k7 := awB hWn k7)
 (try replace k8 := awB hWn k8)
 (try replace k9 := awB hWn k9)
 rw [hWn] at hH k6 ⊢
 rw [hbk6] at k6 ⊢
 clear hbk6 hWn
 clear hK K
 (try simp only [cq])
 refine tkY 16 (some 16) ?_ ?_ ?_
 rotate_left
 · intro w _; go_simp; (try with_reducible rfl)
 (try simp only [cq])
 refine wpAnyH_ready (rs := [7, 11]) (by kernel_rfl) (by simp) ?_
 refine arc (some 65) (fun K hK => ?_) ?_
 {
 go_simp
 first | refine oA hK ?_ (fun hH hA => ?_) | refine oD hK ?_ (fun hH hA => ?_)
 · exact ⟨hH.1.alloc _, hH.2.1.alloc _, hH.2.2.1.alloc _, hH.2.2.2.1.alloc _, bwA hH.2.2.2.2.1 (Nat.le_refl _) _, bwA hH.2.2.2.2.2 (Nat.le_of_eq HB6.out.symm) _⟩
 have k7 := hA
 clear hA
 obtain ⟨bk7, hbk7⟩ : ∃ b, Blk.num k7 = b := ⟨_, rfl⟩
 obtain ⟨Wn, hWn⟩ : ∃ V, Blk.wld k7 = V := ⟨_, rfl⟩
 simp only [Blk.num] at hbk7
 simp only [Blk.wld] at hWn
 (try replace k6 := awB hWn k6)
 (try replace k8 := awB hWn k8)
 (try replace k9 := awB hWn k9)
 rw [hWn] at hH k7 ⊢
 rw [hbk7] at k7 ⊢
 clear hbk7 hWn
 clear hK K
 (try simp only [cq])
 refine tkY 17 (some 17) ?_ ?_ ?_
 rotate_left
 · intro w _; go_simp; (try with_reducible rfl)
 (try simp only [cq])
 refine wpAnyH_ready (rs := [11]) (by kernel_rfl) (by simp) ?_
 refine arc1 (some 69) fun K hK => ?_
 go_simp
 first | refine oA hK ?_ (fun hH hA => ?_) | refine oD hK ?_ (fun hH hA => ?_)
 · exact ⟨hH.1.alloc _, hH.2.1.alloc _, hH.2.2.1.alloc _, hH.2.2.2.1.alloc _, bwA hH.2.2.2.2.1 (Nat.le_refl _) _, bwA hH.2.2.2.2.2 (Nat.le_of_eq HB6.out.symm) _⟩
 have k8 := hA
 clear hA
 obtain ⟨bk8, hbk8⟩ : ∃ b, Blk.num k8 = b := ⟨_, rfl⟩
 obtain ⟨Wn, hWn⟩ : ∃ V, Blk.wld k8 = V := ⟨_, rfl⟩
 simp only [Blk.num] at hbk8
 simp only [Blk.wld] at hWn
 (try replace k6 := awB hWn k6)
 (try replace k7 := awB hWn k7)
 (try replace k9 := awB hWn k9)
 rw [hWn] at hH k8 ⊢
 rw [hbk8] at k8 ⊢
 clear hbk8 hWn
 clear hK K
 (try simp only [cq])
 refine tkY 18 (some 18) ?_ ?_ ?_
 rotate_left
 · intro w _; go_simp; (try with_reducible rfl)
 (try simp only [cq])
 refine tkY 19 (some 19) ?_ ?_ ?_
 rotate_left
 · intro w _; go_simp; (try with_reducible rfl)
 (try simp only [cq])
 refine wpAnyH_done (by kernel_rfl) ?_ _
 (try dsimp only [Act.put])
 (try simp only [cq])
 go_wp2_with fail
 go_meet
 exact ⟨_, _, _, _, rfl, rfl, rfl, rfl, k6, k7, k8, k9, hH.2.2.2.2⟩
 }
 refine arc (some 69) (fun K hK => ?_) ?_
 {
 go_simp
 first | refine oA hK ?_ (fun hH hA => ?_) | refine oD hK ?_ (fun hH hA => ?_)
 · exact ⟨hH.1.alloc _, hH.2.1.alloc _, hH.2.2.1.alloc _, hH.2.2.2.1.alloc _, bwA hH.2.2.2.2.1 (Nat.le_refl _) _, bwA hH.2.2.2.2.2 (Nat.le_of_eq HB6.out.symm) _⟩
 have k8 := hA
 clear hA
 obtain ⟨bk8, hbk8⟩ : ∃ b, Blk.num k8 = b := ⟨_, rfl⟩
 obtain ⟨Wn, hWn⟩ : ∃ V, Blk.wld k8 = V := ⟨_, rfl⟩
 simp only [Blk.num] at hbk8
 simp only [Blk.wld] at hWn
 (try replace k6 := awB hWn k6)
 (try replace k7 := awB hWn k7)
 (try replace k9 := awB hWn k9)
 rw [hWn] at hH k8 ⊢
 rw [hbk8] at k8 ⊢
 clear hbk8 hWn
 clear hK K
 (try simp only [cq])
 refine wpAnyH_ready (rs := [7]) (by kernel_rfl) (by simp) ?_
 refine arc1 (some 65) fun K hK => ?_
 go_simp
 first | refine oA hK ?_ (fun hH hA => ?_) | refine oD hK ?_ (fun hH hA => ?_)
 · exact ⟨hH.1.alloc _, hH.2.1.alloc _, hH.2.2.1.alloc _, hH.2.2.2.1.alloc _, bwA hH.2.2.2.2.1 (Nat.le_refl _) _, bwA hH.2.2.2.2.2 (Nat.le_of_eq HB6.out.symm) _⟩
 have k7 := hA
 clear hA
 obtain ⟨bk7, hbk7⟩ : ∃ b, Blk.num k7 = b := ⟨_, rfl⟩
 obtain ⟨Wn, hWn⟩ : ∃ V, Blk.wld k7 = V := ⟨_, rfl⟩
 simp only [Blk.num] at hbk7
 simp only [Blk.wld] at hWn
 (try replace k6 := awB hWn k6)
 (try replace k8 := awB hWn k8)
 (try replace k9 := awB hWn k9)
 rw [hWn] at hH k7 ⊢
 rw [hbk7] at k7 ⊢
 clear hbk7 hWn
 clear hK K
 (try simp only [cq])
 refine tkY 17 (some 17) ?_ ?_ ?_
 rotate_left
 · intro w _; go_simp; (try with_reducible rfl)
 (try simp only [cq])
 refine tkY 18 (some 18) ?_ ?_ ?_
 rotate_left
 · intro w _; go_simp; (try with_reducible rfl)
 (try simp only [cq])
 refine tkY 19 (some 19) ?_ ?_ ?_
 rotate_left
 · intro w _; go_simp; (try with_reducible rfl)
 (try simp only [cq])
 refine wpAnyH_done (by kernel_rfl) ?_ _
 (try dsimp only [Act.put])
 (try simp only [cq])
 go_wp2_with fail
 go_meet
 exact ⟨_, _, _, _, rfl, rfl, rfl, rfl, k6, k7, k8, k9, hH.2.2.2.2⟩
 }
 exact AllReadyH.nil
 }
 refine arc (some 65) (fun K hK => ?_) ?_
 {
 go_simp
 first | refine oA hK ?_ (fun hH hA => ?_) | refine oD hK ?_ (fun hH hA => ?_)
 · exact ⟨hH.1.alloc _, hH.2.1.alloc _, hH.2.2.1.alloc _, hH.2.2.2.1.alloc _, bwA hH.2.2.2.2.1 (Nat.le_refl _) _, bwA hH.2.2.2.2.2 (Nat.le_of_eq HB6.out.symm) _⟩
 have k7 := hA
 clear hA
 obtain ⟨bk7, hbk7⟩ : ∃ b, Blk.num k7 = b := ⟨_, rfl⟩
 obtain ⟨Wn, hWn⟩ : ∃ V, Blk.wld k7 = V := ⟨_, rfl⟩
 simp only [Blk.num] at hbk7
 simp only [Blk.wld] at hWn
 (try replace k6 := awB hWn k6)
 (try replace k8 := awB hWn k8)
 (try replace k9 := awB hWn k9)
 rw [hWn] at hH k7 ⊢
 rw [hbk7] at k7 ⊢
 clear hbk7 hWn
 clear hK K
 (try simp only [cq])
 refine wpAnyH_ready (rs := [3, 11]) (by kernel_rfl) (by simp) ?_
 refine arc (some 61) (fun K hK => ?_) ?_
 {
 go_simp
 first | refine oA hK ?_ (fun hH hA => ?_) | refine oD hK ?_ (fun hH hA => ?_)
 · exact ⟨hH.1.alloc _, hH.2.1.alloc _, hH.2.2.1.alloc _, hH.2.2.2.1.alloc _, bwA hH.2.2.2.2.1 (Nat.le_refl _) _, bwA hH.2.2.2.2.2 (Nat.le_of_eq HB6.out.symm) _⟩
 have k6 := hA
 clear hA
 obtain ⟨bk6, hbk6⟩ : ∃ b, Blk.num k6 = b := ⟨_, rfl⟩
 obtain ⟨Wn, hWn⟩ : ∃ V, Blk.wld k6 = V := ⟨_, rfl⟩
 simp only [Blk.num] at hbk6
 simp only [Blk.wld] at hWn
 (try replace k7 := awB hWn k7)
 (try replace k8 := awB hWn k8)
 (try replace k9 := awB hWn k9)
 rw [hWn] at hH k6 ⊢
 rw [hbk6] at k6 ⊢
 clear hbk6 hWn
 clear hK K
 (try simp only [cq])
 refine tkY 16 (some 16) ?_ ?_ ?_
 rotate_left
 · intro w _; go_simp; (try with_reducible rfl)
 (try simp only [cq])
 refine tkY 17 (some 17) ?_ ?_ ?_
 rotate_left
 · intro w _; go_simp; (try with_reducible rfl)
 (try simp only [cq])
 refine wpAnyH_ready (rs := [11]) (by kernel_rfl) (by simp) ?_
 refine arc1 (some 69) fun K hK => ?_
 go_simp
 first | refine oA hK ?_ (fun hH hA => ?_) | refine oD hK ?_ (fun hH hA => ?_)
 · exact ⟨hH.1.alloc _, hH.2.1.alloc _, hH.2.2.1.alloc _, hH.2.2.2.1.alloc _, bwA hH.2.2.2.2.1 (Nat.le_refl _) _, bwA hH.2.2.2.2.2 (Nat.le_of_eq HB6.out.symm) _⟩
 have k8 := hA
 clear hA
 obtain ⟨bk8, hbk8⟩ : ∃ b, Blk.num k8 = b := ⟨_, rfl⟩
 obtain ⟨Wn, hWn⟩ : ∃ V, Blk.wld k8 = V := ⟨_, rfl⟩
 simp only [Blk.num] at hbk8
 simp only [Blk.wld] at hWn
 (try replace k6 := awB hWn k6)
 (try replace k7 := awB hWn k7)
 (try replace k9 := awB hWn k9)
 rw [hWn] at hH k8 ⊢
 rw [hbk8] at k8 ⊢
 clear hbk8 hWn
 clear hK K
 (try simp only [cq])
 refine tkY 18 (some 18) ?_ ?_ ?_
 rotate_left
 · intro w _; go_simp; (try with_reducible rfl)
 (try simp only [cq])
 refine tkY 19 (some 19) ?_ ?_ ?_
 rotate_left
 · intro w _; go_simp; (try with_reducible rfl)
 (try simp only [cq])
 refine wpAnyH_done (by kernel_rfl) ?_ _
 (try dsimp only [Act.put])
 (try simp only [cq])
 go_wp2_with fail
 go_meet
 exact ⟨_, _, _, _, rfl, rfl, rfl, rfl, k6, k7, k8, k9, hH.2.2.2.2⟩
 }
 refine arc (some 69) (fun K hK => ?_) ?_
 {
 go_simp
 first | refine oA hK ?_ (fun hH hA => ?_) | refine oD hK ?_ (fun hH hA => ?_)
 · exact ⟨hH.1.alloc _, hH.2.1.alloc _, hH.2.2.1.alloc _, hH.2.2.2.1.alloc _, bwA hH.2.2.2.2.1 (Nat.le_refl _) _, bwA hH.2.2.2.2.2 (Nat.le_of_eq HB6.out.symm) _⟩
 have k8 := hA
 clear hA
 obtain ⟨bk8, hbk8⟩ : ∃ b, Blk.num k8 = b := ⟨_, rfl⟩
 obtain ⟨Wn, hWn⟩ : ∃ V, Blk.wld k8 = V := ⟨_, rfl⟩
 simp only [Blk.num] at hbk8
 simp only [Blk.wld] at hWn
 (try replace k6 := awB hWn k6)
 (try replace k7 := awB hWn k7)
 (try replace k9 := awB hWn k9)
 rw [hWn] at hH k8 ⊢
 rw [hbk8] at k8 ⊢
 clear hbk8 hWn
 clear hK K
 (try simp only [cq])
 refine wpAnyH_ready (rs := [3]) (by kernel_rfl) (by simp) ?_
 refine arc1 (some 61) fun K hK => ?_
 go_simp
 first | refine oA hK ?_ (fun hH hA => ?_) | refine oD hK ?_ (fun hH hA => ?_)
 · exact ⟨hH.1.alloc _, hH.2.1.alloc _, hH.2.2.1.alloc _, hH.2.2.2.1.alloc _, bwA hH.2.2.2.2.1 (Nat.le_refl _) _, bwA hH.2.2.2.2.2 (Nat.le_of_eq HB6.out.symm) _⟩
 have k6 := hA
 clear hA
 obtain ⟨bk6, hbk6⟩ : ∃ b, Blk.num k6 = b := ⟨_, rfl⟩
 obtain ⟨Wn, hWn⟩ : ∃ V, Blk.wld k6 = V := ⟨_, rfl⟩
 simp only [Blk.num] at hbk6
 simp only [Blk.wld] at hWn
 (try replace k7 := awB hWn k7)
 (try replace k8 := awB hWn k8)
 (try replace k9 := awB hWn k9)
 rw [hWn] at hH k6 ⊢
 rw [hbk6] at k6 ⊢
 clear hbk6 hWn
 clear hK K
 (try simp only [cq])
 refine tkY 16 (some 16) ?_ ?_ ?_
 rotate_left
 · intro w _; go_simp; (try with_reducible rfl)
 (try simp only [cq])
 refine tkY 17 (some 17) ?_ ?_ ?_
 rotate_left
 · intro w _; go_simp; (try with_reducible rfl)
 (try simp only [cq])
 refine tkY 18 (some 18) ?_ ?_ ?_
 rotate_left
 · intro w _; go_simp; (try with_reducible rfl)
 (try simp only [cq])
 refine tkY 19 (some 19) ?_ ?_ ?_
 rotate_left
 · intro w _; go_simp; (try with_reducible rfl)
 (try simp only [cq])
 refine wpAnyH_done (by kernel_rfl) ?_ _
 (try dsimp only [Act.put])
 (try simp only [cq])
 go_wp2_with fail
 go_meet
 exact ⟨_, _, _, _, rfl, rfl, rfl, rfl, k6, k7, k8, k9, hH.2.2.2.2⟩
 }
 exact AllReadyH.nil
 }
 refine arc (some 69) (fun K hK => ?_) ?_
 {
 go_simp
 first | refine oA hK ?_ (fun hH hA => ?_) | refine oD hK ?_ (fun hH hA => ?_)
 · exact ⟨hH.1.alloc _, hH.2.1.alloc _, hH.2.2.1.alloc _, hH.2.2.2.1.alloc _, bwA hH.2.2.2.2.1 (Nat.le_refl _) _, bwA hH.2.2.2.2.2 (Nat.le_of_eq HB6.out.symm) _⟩
 have k8 := hA
 clear hA
 obtain ⟨bk8, hbk8⟩ : ∃ b, Blk.num k8 = b := ⟨_, rfl⟩
 obtain ⟨Wn, hWn⟩ : ∃ V, Blk.wld k8 = V := ⟨_, rfl⟩
 simp only [Blk.num] at hbk8
 simp only [Blk.wld] at hWn
 (try replace k6 := awB hWn k6)
 (try replace k7 := awB hWn k7)
 (try replace k9 := awB hWn k9)
 rw [hWn] at hH k8 ⊢
 rw [hbk8] at k8 ⊢
 clear hbk8 hWn
 clear hK K
 (try simp only [cq])
 refine wpAnyH_ready (rs := [3, 7]) (by kernel_rfl) (by simp) ?_
 refine arc (some 61) (fun K hK => ?_) ?_
 {
 go_simp
 first | refine oA hK ?_ (fun hH hA => ?_) | refine oD hK ?_ (fun hH hA => ?_)
 · exact ⟨hH.1.alloc _, hH.2.1.alloc _, hH.2.2.1.alloc _, hH.2.2.2.1.alloc _, bwA hH.2.2.2.2.1 (Nat.le_refl _) _, bwA hH.2.2.2.2.2 (Nat.le_of_eq HB6.out.symm) _⟩
 have k6 := hA
 clear hA
 obtain ⟨bk6, hbk6⟩ : ∃ b, Blk.num k6 = b := ⟨_, rfl⟩
 obtain ⟨Wn, hWn⟩ : ∃ V, Blk.wld k6 = V := ⟨_, rfl⟩
 simp only [Blk.num] at hbk6
 simp only [Blk.wld] at hWn
 (try replace k7 := awB hWn k7)
 (try replace k8 := awB hWn k8)
 (try replace k9 := awB hWn k9)
 rw [hWn] at hH k6 ⊢
 rw [hbk6] at k6 ⊢
 clear hbk6 hWn
 clear hK K
 (try simp only [cq])
 refine tkY 16 (some 16) ?_ ?_ ?_
 rotate_left
 · intro w _; go_simp; (try with_reducible rfl)
 (try simp only [cq])
 refine wpAnyH_ready (rs := [7]) (by kernel_rfl) (by simp) ?_
 refine arc1 (some 65) fun K hK => ?_
 go_simp
 first | refine oA hK ?_ (fun hH hA => ?_) | refine oD hK ?_ (fun hH hA => ?_)
 · exact ⟨hH.1.alloc _, hH.2.1.alloc _, hH.2.2.1.alloc _, hH.2.2.2.1.alloc _, bwA hH.2.2.2.2.1 (Nat.le_refl _) _, bwA hH.2.2.2.2.2 (Nat.le_of_eq HB6.out.symm) _⟩
 have k7 := hA
 clear hA
 obtain ⟨bk7, hbk7⟩ : ∃ b, Blk.num k7 = b := ⟨_, rfl⟩
 obtain ⟨Wn, hWn⟩ : ∃ V, Blk.wld k7 = V := ⟨_, rfl⟩
 simp only [Blk.num] at hbk7
 simp only [Blk.wld] at hWn
 (try replace k6 := awB hWn k6)
 (try replace k8 := awB hWn k8)
 (try replace k9 := awB hWn k9)
 rw [hWn] at hH k7 ⊢
 rw [hbk7] at k7 ⊢
 clear hbk7 hWn
 clear hK K
 (try simp only [cq])
 refine tkY 17 (some 17) ?_ ?_ ?_
 rotate_left
 · intro w _; go_simp; (try with_reducible rfl)
 (try simp only [cq])
 refine tkY 18 (some 18) ?_ ?_ ?_
 rotate_left
 · intro w _; go_simp; (try with_reducible rfl)
 (try simp only [cq])
 refine tkY 19 (some 19) ?_ ?_ ?_
 rotate_left
 · intro w _; go_simp; (try with_reducible rfl)
 (try simp only [cq])
 refine wpAnyH_done (by kernel_rfl) ?_ _
 (try dsimp only [Act.put])
 (try simp only [cq])
 go_wp2_with fail
 go_meet
 exact ⟨_, _, _, _, rfl, rfl, rfl, rfl, k6, k7, k8, k9, hH.2.2.2.2⟩
 }
 refine arc (some 65) (fun K hK => ?_) ?_
 {
 go_simp
 first | refine oA hK ?_ (fun hH hA => ?_) | refine oD hK ?_ (fun hH hA => ?_)
 · exact ⟨hH.1.alloc _, hH.2.1.alloc _, hH.2.2.1.alloc _, hH.2.2.2.1.alloc _, bwA hH.2.2.2.2.1 (Nat.le_refl _) _, bwA hH.2.2.2.2.2 (Nat.le_of_eq HB6.out.symm) _⟩
 have k7 := hA
 clear hA
 obtain ⟨bk7, hbk7⟩ : ∃ b, Blk.num k7 = b := ⟨_, rfl⟩
 obtain ⟨Wn, hWn⟩ : ∃ V, Blk.wld k7 = V := ⟨_, rfl⟩
 simp only [Blk.num] at hbk7
 simp only [Blk.wld] at hWn
 (try replace k6 := awB hWn k6)
 (try replace k8 := awB hWn k8)
 (try replace k9 := awB hWn k9)
 rw [hWn] at hH k7 ⊢
 rw [hbk7] at k7 ⊢
 clear hbk7 hWn
 clear hK K
 (try simp only [cq])
 refine wpAnyH_ready (rs := [3]) (by kernel_rfl) (by simp) ?_
 refine arc1 (some 61) fun K hK => ?_
 go_simp
 first | refine oA hK ?_ (fun hH hA => ?_) | refine oD hK ?_ (fun hH hA => ?_)
 · exact ⟨hH.1.alloc _, hH.2.1.alloc _, hH.2.2.1.alloc _, hH.2.2.2.1.alloc _, bwA hH.2.2.2.2.1 (Nat.le_refl _) _, bwA hH.2.2.2.2.2 (Nat.le_of_eq HB6.out.symm) _⟩
 have k6 := hA
 clear hA
 obtain ⟨bk6, hbk6⟩ : ∃ b, Blk.num k6 = b := ⟨_, rfl⟩
 obtain ⟨Wn, hWn⟩ : ∃ V, Blk.wld k6 = V := ⟨_, rfl⟩
 simp only [Blk.num] at hbk6
 simp only [Blk.wld] at hWn
 (try replace k7 := awB hWn k7)
 (try replace k8 := awB hWn k8)
 (try replace k9 := awB hWn k9)
 rw [hWn] at hH k6 ⊢
 rw [hbk6] at k6 ⊢
 clear hbk6 hWn
 clear hK K
 (try simp only [cq])
 refine tkY 16 (some 16) ?_ ?_ ?_
 rotate_left
 · intro w _; go_simp; (try with_reducible rfl)
 (try simp only [cq])
 refine tkY 17 (some 17) ?_ ?_ ?_
 rotate_left
 · intro w _; go_simp; (try with_reducible rfl)
 (try simp only [cq])
 refine tkY 18 (some 18) ?_ ?_ ?_
 rotate_left
 · intro w _; go_simp; (try with_reducible rfl)
 (try simp only [cq])
 refine tkY 19 (some 19) ?_ ?_ ?_
 rotate_left
 · intro w _; go_simp; (try with_reducible rfl)
 (try simp only [cq])
 refine wpAnyH_done (by kernel_rfl) ?_ _
 (try dsimp only [Act.put])
 (try simp only [cq])
 go_wp2_with fail
 go_meet
 exact ⟨_, _, _, _, rfl, rfl, rfl, rfl, k6, k7, k8, k9, hH.2.2.2.2⟩
 }
 exact AllReadyH.nil
 }
 exact AllReadyH.nil
 }
 exact AllReadyH.nil )
      case rest =>
        as_aux_lemma =>
          clear jA jO jW jV jB j66
          obtain ⟨b6, b7, b8, b9, rfl, rfl, rfl, rfl, j6, j7, j8, j9, jB, j66⟩ := hcut
          rw [← HB6.out] at j66
          clear HB6
          obtain ⟨V, hV⟩ : ∃ V, V = wc := ⟨_, rfl⟩
          subst hV
          obtain ⟨qS, qC, qI, qK⟩ := HPar.out
          obtain ⟨oS, oC, oI, oK⟩ := HOwn.out
          have HB := Lib.hid jB
          have HRd : Hid (∀ k, k < 3 → ∃ (x : Pl) (uS uC uI uK : Value) (a c : Int) (e : Int) (hN : Nat) (X : Nat → Int), RdL V b6 b7 b8 b9 k x uS uC uI uK a c e hN X) := fun k hk => by
            obtain rfl | rfl | rfl : k = 0 ∨ k = 1 ∨ k = 2 := by omega
            · exact ⟨p, _, _, _, _, sa, sb, _, _, _, RdL.mk2 ni I0 I1 nc C0 C1 ⟨j6.cell (0 * 11) rfl, j6.cell (0 * 11 + 1) rfl, j6.cell (0 * 11 + 2) rfl, j6.cell (0 * 11 + 3) rfl, j6.cell (0 * 11 + 4) rfl, j6.cell (0 * 11 + 5) rfl, j6.cell (0 * 11 + 6) rfl, j6.cell (0 * 11 + 7) rfl, j6.cell (0 * 11 + 8) rfl, j6.cell (0 * 11 + 9) rfl, j6.cell (0 * 11 + 10) rfl⟩ (j7.cell 0 rfl) (j8.cell 0 rfl) ⟨j9.cell 0 rfl, j9.cell 1 rfl⟩ (PairsAt.later qS jB) (PairsAt.later qC jB) (qI.later jB) (qK.later jB)⟩
            · exact ⟨p2, _, _, _, _, x0, x1, _, _, _, RdL.mk2 mi J0 J1 mc D0 D1 ⟨j6.cell (1 * 11) rfl, j6.cell (1 * 11 + 1) rfl, j6.cell (1 * 11 + 2) rfl, j6.cell (1 * 11 + 3) rfl, j6.cell (1 * 11 + 4) rfl, j6.cell (1 * 11 + 5) rfl, j6.cell (1 * 11 + 6) rfl, j6.cell (1 * 11 + 7) rfl, j6.cell (1 * 11 + 8) rfl, j6.cell (1 * 11 + 9) rfl, j6.cell (1 * 11 + 10) rfl⟩ (j7.cell 1 rfl) (j8.cell 1 rfl) ⟨j9.cell 2 rfl, j9.cell 3 rfl⟩ (PairsAt.later oS j66) (PairsAt.later oC j66) (oI.later j66) (oK.later j66)⟩
            · exact ⟨p2, _, _, _, _, sa, sb, _, _, _, RdL.mk2 mi J0 J1 mc D0 D1 ⟨j6.cell (2 * 11) rfl, j6.cell (2 * 11 + 1) rfl, j6.cell (2 * 11 + 2) rfl, j6.cell (2 * 11 + 3) rfl, j6.cell (2 * 11 + 4) rfl, j6.cell (2 * 11 + 5) rfl, j6.cell (2 * 11 + 6) rfl, j6.cell (2 * 11 + 7) rfl, j6.cell (2 * 11 + 8) rfl, j6.cell (2 * 11 + 9) rfl, j6.cell (2 * 11 + 10) rfl⟩ (j7.cell 2 rfl) (j8.cell 2 rfl) ⟨j9.cell 4 rfl, j9.cell 5 rfl⟩ (PairsAt.later oS j66) (PairsAt.later oC j66) (oI.later j66) (oK.later j66)⟩
          clear j6 j7 j8 j9 jB j66 qS qC qI qK oS oC oI oK HPar HOwn HNm mi1 mi4 mc3 zAs zWs zwbs zsO zwA zAW
          go_wp2_with fail
          go_loopw [20] (fun i wr => ∃ k : Nat, k ≤ 3 ∧ i = .int .i64 k ∧ Below V.heap.size V wr) (fun i _ => 3 - (intOf i).toNat)
          case atStart => exact ⟨0, by omega, rfl, Below.refl _ _⟩
          case round =>
            obtain ⟨k, hk, rfl, hB⟩ := hrel
            by_cases hlt2 : k < 3
            · obtain ⟨x, uS, uC, uI, uK, wa, wb, e2, hN, X, hR⟩ := HRd.out k hlt2
              have HR := Lib.hid hR
              have hk3 : (k : Int) < 3 := by omega
              clear hR HRd
              go_upto_region 10 with fail
              refine wp_region_held_drew (S := (fun v => Below V.heap.size V v)) (by kernel_rfl) ?_ (fun hH => ?_)
              · (try dsimp only); (exact hB.drew)
              refine tkY 0 (some 81) ?_ ?_ ?_
              rotate_left
              · intro w _; go_simp; (try with_reducible rfl)
              (try simp only [cq])
              refine tkY 1 (some 82) ?_ ?_ ?_
              rotate_left
              · intro w _; go_simp; (try with_reducible rfl)
              (try simp only [cq])
              refine tkY 2 (some 83) ?_ ?_ ?_
              rotate_left
              · intro w hS0; (try dsimp only at hS0); have q9 := hS0; have c0 := cell_later q9 HR.out.c.1; have c1 := cell_later q9 HR.out.c.2.1; have c2 := cell_later q9 HR.out.c.2.2.1; have c3 := cell_later q9 HR.out.c.2.2.2.1; have c4 := cell_later q9 HR.out.c.2.2.2.2.1; have c5 := cell_later q9 HR.out.c.2.2.2.2.2.1; have c6 := cell_later q9 HR.out.c.2.2.2.2.2.2.1; have c7 := cell_later q9 HR.out.c.2.2.2.2.2.2.2.1; have c8 := cell_later q9 HR.out.c.2.2.2.2.2.2.2.2.1; have c9 := cell_later q9 HR.out.c.2.2.2.2.2.2.2.2.2.1; have c10 := cell_later q9 HR.out.c.2.2.2.2.2.2.2.2.2.2; have i0 := cell_later q9 HR.out.i; have j0 := cell_later q9 HR.out.j; have l0 := cell_later q9 HR.out.l.1; have l1 := cell_later q9 HR.out.l.2; have y0 := World.block_lt_of_cell? _ _ c0; have y1 := World.block_lt_of_cell? _ _ i0; have y2 := World.block_lt_of_cell? _ _ j0; have y3 := World.block_lt_of_cell? _ _ l0;go_simp; (try with_reducible rfl)
              (try simp only [cq])
              refine tkY 3 (some 84) ?_ ?_ ?_
              rotate_left
              · intro w hS0; (try dsimp only at hS0); have q9 := hS0; have c0 := cell_later q9 HR.out.c.1; have c1 := cell_later q9 HR.out.c.2.1; have c2 := cell_later q9 HR.out.c.2.2.1; have c3 := cell_later q9 HR.out.c.2.2.2.1; have c4 := cell_later q9 HR.out.c.2.2.2.2.1; have c5 := cell_later q9 HR.out.c.2.2.2.2.2.1; have c6 := cell_later q9 HR.out.c.2.2.2.2.2.2.1; have c7 := cell_later q9 HR.out.c.2.2.2.2.2.2.2.1; have c8 := cell_later q9 HR.out.c.2.2.2.2.2.2.2.2.1; have c9 := cell_later q9 HR.out.c.2.2.2.2.2.2.2.2.2.1; have c10 := cell_later q9 HR.out.c.2.2.2.2.2.2.2.2.2.2; have i0 := cell_later q9 HR.out.i; have j0 := cell_later q9 HR.out.j; have l0 := cell_later q9 HR.out.l.1; have l1 := cell_later q9 HR.out.l.2; have y0 := World.block_lt_of_cell? _ _ c0; have y1 := World.block_lt_of_cell? _ _ i0; have y2 := World.block_lt_of_cell? _ _ j0; have y3 := World.block_lt_of_cell? _ _ l0;go_simp; (try with_reducible rfl)
              (try simp only [cq])
              refine tkY 4 (some 85) ?_ ?_ ?_
              rotate_left
              · intro w _; go_simp; (try with_reducible rfl)
              (try simp only [cq])
              refine tkY 5 (some 86) ?_ ?_ ?_
              rotate_left
              · intro w _; go_simp; (try with_reducible rfl)
              (try simp only [cq])
              refine tkY 6 (some 87) ?_ ?_ ?_
              rotate_left
              · intro w hS0; (try dsimp only at hS0); have q9 := hS0; have c0 := cell_later q9 HR.out.c.1; have c1 := cell_later q9 HR.out.c.2.1; have c2 := cell_later q9 HR.out.c.2.2.1; have c3 := cell_later q9 HR.out.c.2.2.2.1; have c4 := cell_later q9 HR.out.c.2.2.2.2.1; have c5 := cell_later q9 HR.out.c.2.2.2.2.2.1; have c6 := cell_later q9 HR.out.c.2.2.2.2.2.2.1; have c7 := cell_later q9 HR.out.c.2.2.2.2.2.2.2.1; have c8 := cell_later q9 HR.out.c.2.2.2.2.2.2.2.2.1; have c9 := cell_later q9 HR.out.c.2.2.2.2.2.2.2.2.2.1; have c10 := cell_later q9 HR.out.c.2.2.2.2.2.2.2.2.2.2; have i0 := cell_later q9 HR.out.i; have j0 := cell_later q9 HR.out.j; have l0 := cell_later q9 HR.out.l.1; have l1 := cell_later q9 HR.out.l.2; have y0 := World.block_lt_of_cell? _ _ c0; have y1 := World.block_lt_of_cell? _ _ i0; have y2 := World.block_lt_of_cell? _ _ j0; have y3 := World.block_lt_of_cell? _ _ l0;go_simp; (try with_reducible rfl)
              (try simp only [cq])
              refine tkY 7 (some 88) ?_ ?_ ?_
              rotate_left
              · intro w hS0; (try dsimp only at hS0); have q9 := hS0; have c0 := cell_later q9 HR.out.c.1; have c1 := cell_later q9 HR.out.c.2.1; have c2 := cell_later q9 HR.out.c.2.2.1; have c3 := cell_later q9 HR.out.c.2.2.2.1; have c4 := cell_later q9 HR.out.c.2.2.2.2.1; have c5 := cell_later q9 HR.out.c.2.2.2.2.2.1; have c6 := cell_later q9 HR.out.c.2.2.2.2.2.2.1; have c7 := cell_later q9 HR.out.c.2.2.2.2.2.2.2.1; have c8 := cell_later q9 HR.out.c.2.2.2.2.2.2.2.2.1; have c9 := cell_later q9 HR.out.c.2.2.2.2.2.2.2.2.2.1; have c10 := cell_later q9 HR.out.c.2.2.2.2.2.2.2.2.2.2; have i0 := cell_later q9 HR.out.i; have j0 := cell_later q9 HR.out.j; have l0 := cell_later q9 HR.out.l.1; have l1 := cell_later q9 HR.out.l.2; have y0 := World.block_lt_of_cell? _ _ c0; have y1 := World.block_lt_of_cell? _ _ i0; have y2 := World.block_lt_of_cell? _ _ j0; have y3 := World.block_lt_of_cell? _ _ l0;go_simp; (try with_reducible rfl)
              (try simp only [cq])
              refine tkY 8 (some 89) ?_ ?_ ?_
              rotate_left
              · intro w _; go_simp; (try with_reducible rfl)
              (try simp only [cq])
              refine tkY 9 (some 90) ?_ ?_ ?_
              rotate_left
              · intro w _; go_simp; (try with_reducible rfl)
              (try simp only [cq])
              refine tkY 10 (some 91) ?_ ?_ ?_
              rotate_left
              · intro w hS0; (try dsimp only at hS0); have q9 := hS0; have c0 := cell_later q9 HR.out.c.1; have c1 := cell_later q9 HR.out.c.2.1; have c2 := cell_later q9 HR.out.c.2.2.1; have c3 := cell_later q9 HR.out.c.2.2.2.1; have c4 := cell_later q9 HR.out.c.2.2.2.2.1; have c5 := cell_later q9 HR.out.c.2.2.2.2.2.1; have c6 := cell_later q9 HR.out.c.2.2.2.2.2.2.1; have c7 := cell_later q9 HR.out.c.2.2.2.2.2.2.2.1; have c8 := cell_later q9 HR.out.c.2.2.2.2.2.2.2.2.1; have c9 := cell_later q9 HR.out.c.2.2.2.2.2.2.2.2.2.1; have c10 := cell_later q9 HR.out.c.2.2.2.2.2.2.2.2.2.2; have i0 := cell_later q9 HR.out.i; have j0 := cell_later q9 HR.out.j; have l0 := cell_later q9 HR.out.l.1; have l1 := cell_later q9 HR.out.l.2; have y0 := World.block_lt_of_cell? _ _ c0; have y1 := World.block_lt_of_cell? _ _ i0; have y2 := World.block_lt_of_cell? _ _ j0; have y3 := World.block_lt_of_cell? _ _ l0;go_simp; (try with_reducible rfl)
              (try simp only [cq])
              refine tkY 11 (some 92) ?_ ?_ ?_
              rotate_left
              · intro w hS0; (try dsimp only at hS0); have q9 := hS0; have c0 := cell_later q9 HR.out.c.1; have c1 := cell_later q9 HR.out.c.2.1; have c2 := cell_later q9 HR.out.c.2.2.1; have c3 := cell_later q9 HR.out.c.2.2.2.1; have c4 := cell_later q9 HR.out.c.2.2.2.2.1; have c5 := cell_later q9 HR.out.c.2.2.2.2.2.1; have c6 := cell_later q9 HR.out.c.2.2.2.2.2.2.1; have c7 := cell_later q9 HR.out.c.2.2.2.2.2.2.2.1; have c8 := cell_later q9 HR.out.c.2.2.2.2.2.2.2.2.1; have c9 := cell_later q9 HR.out.c.2.2.2.2.2.2.2.2.2.1; have c10 := cell_later q9 HR.out.c.2.2.2.2.2.2.2.2.2.2; have i0 := cell_later q9 HR.out.i; have j0 := cell_later q9 HR.out.j; have l0 := cell_later q9 HR.out.l.1; have l1 := cell_later q9 HR.out.l.2; have y0 := World.block_lt_of_cell? _ _ c0; have y1 := World.block_lt_of_cell? _ _ i0; have y2 := World.block_lt_of_cell? _ _ j0; have y3 := World.block_lt_of_cell? _ _ l0;go_simp; (try with_reducible rfl)
              (try simp only [cq])
              refine tkY 12 (some 93) ?_ ?_ ?_
              rotate_left
              · intro w _; go_simp; (try with_reducible rfl)
              (try simp only [cq])
              refine tkY 13 (some 94) ?_ ?_ ?_
              rotate_left
              · intro w _; go_simp; (try with_reducible rfl)
              (try simp only [cq])
              refine tkY 14 (some 95) ?_ ?_ ?_
              rotate_left
              · intro w hS0; (try dsimp only at hS0); have q9 := hS0; have c0 := cell_later q9 HR.out.c.1; have c1 := cell_later q9 HR.out.c.2.1; have c2 := cell_later q9 HR.out.c.2.2.1; have c3 := cell_later q9 HR.out.c.2.2.2.1; have c4 := cell_later q9 HR.out.c.2.2.2.2.1; have c5 := cell_later q9 HR.out.c.2.2.2.2.2.1; have c6 := cell_later q9 HR.out.c.2.2.2.2.2.2.1; have c7 := cell_later q9 HR.out.c.2.2.2.2.2.2.2.1; have c8 := cell_later q9 HR.out.c.2.2.2.2.2.2.2.2.1; have c9 := cell_later q9 HR.out.c.2.2.2.2.2.2.2.2.2.1; have c10 := cell_later q9 HR.out.c.2.2.2.2.2.2.2.2.2.2; have i0 := cell_later q9 HR.out.i; have j0 := cell_later q9 HR.out.j; have l0 := cell_later q9 HR.out.l.1; have l1 := cell_later q9 HR.out.l.2; have y0 := World.block_lt_of_cell? _ _ c0; have y1 := World.block_lt_of_cell? _ _ i0; have y2 := World.block_lt_of_cell? _ _ j0; have y3 := World.block_lt_of_cell? _ _ l0;go_simp; (try with_reducible rfl)
              (try simp only [cq])
              refine tkY 15 (some 96) ?_ ?_ ?_
              rotate_left
              · intro w hS0; (try dsimp only at hS0); have q9 := hS0; have c0 := cell_later q9 HR.out.c.1; have c1 := cell_later q9 HR.out.c.2.1; have c2 := cell_later q9 HR.out.c.2.2.1; have c3 := cell_later q9 HR.out.c.2.2.2.1; have c4 := cell_later q9 HR.out.c.2.2.2.2.1; have c5 := cell_later q9 HR.out.c.2.2.2.2.2.1; have c6 := cell_later q9 HR.out.c.2.2.2.2.2.2.1; have c7 := cell_later q9 HR.out.c.2.2.2.2.2.2.2.1; have c8 := cell_later q9 HR.out.c.2.2.2.2.2.2.2.2.1; have c9 := cell_later q9 HR.out.c.2.2.2.2.2.2.2.2.2.1; have c10 := cell_later q9 HR.out.c.2.2.2.2.2.2.2.2.2.2; have i0 := cell_later q9 HR.out.i; have j0 := cell_later q9 HR.out.j; have l0 := cell_later q9 HR.out.l.1; have l1 := cell_later q9 HR.out.l.2; have y0 := World.block_lt_of_cell? _ _ c0; have y1 := World.block_lt_of_cell? _ _ i0; have y2 := World.block_lt_of_cell? _ _ j0; have y3 := World.block_lt_of_cell? _ _ l0;go_simp; (try with_reducible rfl)
              (try simp only [cq])
              refine wpAnyH_ready (rs := [16]) (by kernel_rfl) (by simp) ?_
              refine arc1 (some 97) fun K hK => ?_
              go_simp
              (refine (HR.out.one _ hH).mono ?_; rintro e w' ⟨u, rfl, ru, hb⟩)
              refine hK.out _ _ ?_ ?_
              · (exact bwS hH (Nat.le_refl _) hb)
              (try clear hH); (try clear hb)
              intro hH
              clear hK K
              (try simp only [cq])
              refine tkY 17 (some 80) ?_ ?_ ?_
              rotate_left
              · intro w _; go_simp; (try with_reducible rfl)
              (try simp only [cq])
              refine tkY 18 (some 98) ?_ ?_ ?_
              rotate_left
              · intro w _; go_simp; (try with_reducible rfl)
              (try simp only [cq])
              refine tkY 19 (some 99) ?_ ?_ ?_
              rotate_left
              · intro w _; go_simp; (try with_reducible rfl)
              (try simp only [cq])
              refine tkY 20 (some 21) ?_ ?_ ?_
              rotate_left
              · intro w _; go_simp; (try with_reducible rfl)
              (try simp only [cq])
              refine tkY 21 (some 22) ?_ ?_ ?_
              rotate_left
              · intro w _; go_simp; (try with_reducible rfl)
              (try simp only [cq])
              refine wpAnyH_done (by kernel_rfl) ?_ _
              (try dsimp only [Act.put])
              (try simp only [cq])
              clear hB
              have hB := hH
              clear hH
              go_upto_region 11 with fail
              refine wp_region_held_drew (S := (fun v => Below V.heap.size V v ∧ IntsAt v u hN X)) (by kernel_rfl) ?_ (fun hH => ?_)
              · (try dsimp only); (exact ⟨hB.drew, ru⟩)
              refine tkY 0 (some 101) ?_ ?_ ?_
              rotate_left
              · intro w _; go_simp; (try with_reducible rfl)
              (try simp only [cq])
              refine tkY 1 (some 102) ?_ ?_ ?_
              rotate_left
              · intro w _; go_simp; (try with_reducible rfl)
              (try simp only [cq])
              refine tkY 2 (some 103) ?_ ?_ ?_
              rotate_left
              · intro w hS0; (try dsimp only at hS0); have q9 := hS0.1; have c0 := cell_later q9 HR.out.c.1; have c1 := cell_later q9 HR.out.c.2.1; have c2 := cell_later q9 HR.out.c.2.2.1; have c3 := cell_later q9 HR.out.c.2.2.2.1; have c4 := cell_later q9 HR.out.c.2.2.2.2.1; have c5 := cell_later q9 HR.out.c.2.2.2.2.2.1; have c6 := cell_later q9 HR.out.c.2.2.2.2.2.2.1; have c7 := cell_later q9 HR.out.c.2.2.2.2.2.2.2.1; have c8 := cell_later q9 HR.out.c.2.2.2.2.2.2.2.2.1; have c9 := cell_later q9 HR.out.c.2.2.2.2.2.2.2.2.2.1; have c10 := cell_later q9 HR.out.c.2.2.2.2.2.2.2.2.2.2; have i0 := cell_later q9 HR.out.i; have j0 := cell_later q9 HR.out.j; have l0 := cell_later q9 HR.out.l.1; have l1 := cell_later q9 HR.out.l.2; have y0 := World.block_lt_of_cell? _ _ c0; have y1 := World.block_lt_of_cell? _ _ i0; have y2 := World.block_lt_of_cell? _ _ j0; have y3 := World.block_lt_of_cell? _ _ l0;go_simp; (try with_reducible rfl)
              (try simp only [cq])
              refine tkY 3 (some 104) ?_ ?_ ?_
              rotate_left
              · intro w hS0; (try dsimp only at hS0); have q9 := hS0.1; have c0 := cell_later q9 HR.out.c.1; have c1 := cell_later q9 HR.out.c.2.1; have c2 := cell_later q9 HR.out.c.2.2.1; have c3 := cell_later q9 HR.out.c.2.2.2.1; have c4 := cell_later q9 HR.out.c.2.2.2.2.1; have c5 := cell_later q9 HR.out.c.2.2.2.2.2.1; have c6 := cell_later q9 HR.out.c.2.2.2.2.2.2.1; have c7 := cell_later q9 HR.out.c.2.2.2.2.2.2.2.1; have c8 := cell_later q9 HR.out.c.2.2.2.2.2.2.2.2.1; have c9 := cell_later q9 HR.out.c.2.2.2.2.2.2.2.2.2.1; have c10 := cell_later q9 HR.out.c.2.2.2.2.2.2.2.2.2.2; have i0 := cell_later q9 HR.out.i; have j0 := cell_later q9 HR.out.j; have l0 := cell_later q9 HR.out.l.1; have l1 := cell_later q9 HR.out.l.2; have y0 := World.block_lt_of_cell? _ _ c0; have y1 := World.block_lt_of_cell? _ _ i0; have y2 := World.block_lt_of_cell? _ _ j0; have y3 := World.block_lt_of_cell? _ _ l0;go_simp; (try with_reducible rfl)
              (try simp only [cq])
              refine tkY 4 (some 105) ?_ ?_ ?_
              rotate_left
              · intro w _; go_simp; (try with_reducible rfl)
              (try simp only [cq])
              refine tkY 5 (some 106) ?_ ?_ ?_
              rotate_left
              · intro w _; go_simp; (try with_reducible rfl)
              (try simp only [cq])
              refine tkY 6 (some 107) ?_ ?_ ?_
              rotate_left
              · intro w hS0; (try dsimp only at hS0); have q9 := hS0.1; have c0 := cell_later q9 HR.out.c.1; have c1 := cell_later q9 HR.out.c.2.1; have c2 := cell_later q9 HR.out.c.2.2.1; have c3 := cell_later q9 HR.out.c.2.2.2.1; have c4 := cell_later q9 HR.out.c.2.2.2.2.1; have c5 := cell_later q9 HR.out.c.2.2.2.2.2.1; have c6 := cell_later q9 HR.out.c.2.2.2.2.2.2.1; have c7 := cell_later q9 HR.out.c.2.2.2.2.2.2.2.1; have c8 := cell_later q9 HR.out.c.2.2.2.2.2.2.2.2.1; have c9 := cell_later q9 HR.out.c.2.2.2.2.2.2.2.2.2.1; have c10 := cell_later q9 HR.out.c.2.2.2.2.2.2.2.2.2.2; have i0 := cell_later q9 HR.out.i; have j0 := cell_later q9 HR.out.j; have l0 := cell_later q9 HR.out.l.1; have l1 := cell_later q9 HR.out.l.2; have y0 := World.block_lt_of_cell? _ _ c0; have y1 := World.block_lt_of_cell? _ _ i0; have y2 := World.block_lt_of_cell? _ _ j0; have y3 := World.block_lt_of_cell? _ _ l0;go_simp; (try with_reducible rfl)
              (try simp only [cq])
              refine tkY 7 (some 108) ?_ ?_ ?_
              rotate_left
              · intro w hS0; (try dsimp only at hS0); have q9 := hS0.1; have c0 := cell_later q9 HR.out.c.1; have c1 := cell_later q9 HR.out.c.2.1; have c2 := cell_later q9 HR.out.c.2.2.1; have c3 := cell_later q9 HR.out.c.2.2.2.1; have c4 := cell_later q9 HR.out.c.2.2.2.2.1; have c5 := cell_later q9 HR.out.c.2.2.2.2.2.1; have c6 := cell_later q9 HR.out.c.2.2.2.2.2.2.1; have c7 := cell_later q9 HR.out.c.2.2.2.2.2.2.2.1; have c8 := cell_later q9 HR.out.c.2.2.2.2.2.2.2.2.1; have c9 := cell_later q9 HR.out.c.2.2.2.2.2.2.2.2.2.1; have c10 := cell_later q9 HR.out.c.2.2.2.2.2.2.2.2.2.2; have i0 := cell_later q9 HR.out.i; have j0 := cell_later q9 HR.out.j; have l0 := cell_later q9 HR.out.l.1; have l1 := cell_later q9 HR.out.l.2; have y0 := World.block_lt_of_cell? _ _ c0; have y1 := World.block_lt_of_cell? _ _ i0; have y2 := World.block_lt_of_cell? _ _ j0; have y3 := World.block_lt_of_cell? _ _ l0;go_simp; (try with_reducible rfl)
              (try simp only [cq])
              refine tkY 8 (some 109) ?_ ?_ ?_
              rotate_left
              · intro w _; go_simp; (try with_reducible rfl)
              (try simp only [cq])
              refine tkY 9 (some 110) ?_ ?_ ?_
              rotate_left
              · intro w _; go_simp; (try with_reducible rfl)
              (try simp only [cq])
              refine tkY 10 (some 111) ?_ ?_ ?_
              rotate_left
              · intro w hS0; (try dsimp only at hS0); have q9 := hS0.1; have c0 := cell_later q9 HR.out.c.1; have c1 := cell_later q9 HR.out.c.2.1; have c2 := cell_later q9 HR.out.c.2.2.1; have c3 := cell_later q9 HR.out.c.2.2.2.1; have c4 := cell_later q9 HR.out.c.2.2.2.2.1; have c5 := cell_later q9 HR.out.c.2.2.2.2.2.1; have c6 := cell_later q9 HR.out.c.2.2.2.2.2.2.1; have c7 := cell_later q9 HR.out.c.2.2.2.2.2.2.2.1; have c8 := cell_later q9 HR.out.c.2.2.2.2.2.2.2.2.1; have c9 := cell_later q9 HR.out.c.2.2.2.2.2.2.2.2.2.1; have c10 := cell_later q9 HR.out.c.2.2.2.2.2.2.2.2.2.2; have i0 := cell_later q9 HR.out.i; have j0 := cell_later q9 HR.out.j; have l0 := cell_later q9 HR.out.l.1; have l1 := cell_later q9 HR.out.l.2; have y0 := World.block_lt_of_cell? _ _ c0; have y1 := World.block_lt_of_cell? _ _ i0; have y2 := World.block_lt_of_cell? _ _ j0; have y3 := World.block_lt_of_cell? _ _ l0;go_simp; (try with_reducible rfl)
              (try simp only [cq])
              refine tkY 11 (some 112) ?_ ?_ ?_
              rotate_left
              · intro w hS0; (try dsimp only at hS0); have q9 := hS0.1; have c0 := cell_later q9 HR.out.c.1; have c1 := cell_later q9 HR.out.c.2.1; have c2 := cell_later q9 HR.out.c.2.2.1; have c3 := cell_later q9 HR.out.c.2.2.2.1; have c4 := cell_later q9 HR.out.c.2.2.2.2.1; have c5 := cell_later q9 HR.out.c.2.2.2.2.2.1; have c6 := cell_later q9 HR.out.c.2.2.2.2.2.2.1; have c7 := cell_later q9 HR.out.c.2.2.2.2.2.2.2.1; have c8 := cell_later q9 HR.out.c.2.2.2.2.2.2.2.2.1; have c9 := cell_later q9 HR.out.c.2.2.2.2.2.2.2.2.2.1; have c10 := cell_later q9 HR.out.c.2.2.2.2.2.2.2.2.2.2; have i0 := cell_later q9 HR.out.i; have j0 := cell_later q9 HR.out.j; have l0 := cell_later q9 HR.out.l.1; have l1 := cell_later q9 HR.out.l.2; have y0 := World.block_lt_of_cell? _ _ c0; have y1 := World.block_lt_of_cell? _ _ i0; have y2 := World.block_lt_of_cell? _ _ j0; have y3 := World.block_lt_of_cell? _ _ l0;go_simp; (try with_reducible rfl)
              (try simp only [cq])
              refine tkY 12 (some 113) ?_ ?_ ?_
              rotate_left
              · intro w _; go_simp; (try with_reducible rfl)
              (try simp only [cq])
              refine tkY 13 (some 114) ?_ ?_ ?_
              rotate_left
              · intro w _; go_simp; (try with_reducible rfl)
              (try simp only [cq])
              refine tkY 14 (some 115) ?_ ?_ ?_
              rotate_left
              · intro w hS0; (try dsimp only at hS0); have q9 := hS0.1; have c0 := cell_later q9 HR.out.c.1; have c1 := cell_later q9 HR.out.c.2.1; have c2 := cell_later q9 HR.out.c.2.2.1; have c3 := cell_later q9 HR.out.c.2.2.2.1; have c4 := cell_later q9 HR.out.c.2.2.2.2.1; have c5 := cell_later q9 HR.out.c.2.2.2.2.2.1; have c6 := cell_later q9 HR.out.c.2.2.2.2.2.2.1; have c7 := cell_later q9 HR.out.c.2.2.2.2.2.2.2.1; have c8 := cell_later q9 HR.out.c.2.2.2.2.2.2.2.2.1; have c9 := cell_later q9 HR.out.c.2.2.2.2.2.2.2.2.2.1; have c10 := cell_later q9 HR.out.c.2.2.2.2.2.2.2.2.2.2; have i0 := cell_later q9 HR.out.i; have j0 := cell_later q9 HR.out.j; have l0 := cell_later q9 HR.out.l.1; have l1 := cell_later q9 HR.out.l.2; have y0 := World.block_lt_of_cell? _ _ c0; have y1 := World.block_lt_of_cell? _ _ i0; have y2 := World.block_lt_of_cell? _ _ j0; have y3 := World.block_lt_of_cell? _ _ l0;go_simp; (try with_reducible rfl)
              (try simp only [cq])
              refine tkY 15 (some 116) ?_ ?_ ?_
              rotate_left
              · intro w hS0; (try dsimp only at hS0); have q9 := hS0.1; have c0 := cell_later q9 HR.out.c.1; have c1 := cell_later q9 HR.out.c.2.1; have c2 := cell_later q9 HR.out.c.2.2.1; have c3 := cell_later q9 HR.out.c.2.2.2.1; have c4 := cell_later q9 HR.out.c.2.2.2.2.1; have c5 := cell_later q9 HR.out.c.2.2.2.2.2.1; have c6 := cell_later q9 HR.out.c.2.2.2.2.2.2.1; have c7 := cell_later q9 HR.out.c.2.2.2.2.2.2.2.1; have c8 := cell_later q9 HR.out.c.2.2.2.2.2.2.2.2.1; have c9 := cell_later q9 HR.out.c.2.2.2.2.2.2.2.2.2.1; have c10 := cell_later q9 HR.out.c.2.2.2.2.2.2.2.2.2.2; have i0 := cell_later q9 HR.out.i; have j0 := cell_later q9 HR.out.j; have l0 := cell_later q9 HR.out.l.1; have l1 := cell_later q9 HR.out.l.2; have y0 := World.block_lt_of_cell? _ _ c0; have y1 := World.block_lt_of_cell? _ _ i0; have y2 := World.block_lt_of_cell? _ _ j0; have y3 := World.block_lt_of_cell? _ _ l0;go_simp; (try with_reducible rfl)
              (try simp only [cq])
              refine wpAnyH_ready (rs := [16]) (by kernel_rfl) (by simp) ?_
              refine arc1 (some 117) fun K hK => ?_
              go_simp
              (refine (HR.out.two _ hH.1).mono ?_; rintro e w' ⟨u', rfl, ru', hb⟩)
              refine hK.out _ _ ?_ ?_
              · (exact ⟨bwS hH.1 (Nat.le_refl _) hb, hH.2.later hb⟩)
              (try clear hH); (try clear hb)
              intro hH
              clear hK K
              (try simp only [cq])
              refine tkY 17 (some 100) ?_ ?_ ?_
              rotate_left
              · intro w _; go_simp; (try with_reducible rfl)
              (try simp only [cq])
              refine tkY 18 (some 118) ?_ ?_ ?_
              rotate_left
              · intro w _; go_simp; (try with_reducible rfl)
              (try simp only [cq])
              refine tkY 19 (some 119) ?_ ?_ ?_
              rotate_left
              · intro w _; go_simp; (try with_reducible rfl)
              (try simp only [cq])
              refine tkY 20 (some 23) ?_ ?_ ?_
              rotate_left
              · intro w _; go_simp; (try with_reducible rfl)
              (try simp only [cq])
              refine tkY 21 (some 24) ?_ ?_ ?_
              rotate_left
              · intro w _; go_simp; (try with_reducible rfl)
              (try simp only [cq])
              refine wpAnyH_done (by kernel_rfl) ?_ _
              (try dsimp only [Act.put])
              (try simp only [cq])
              clear hB ru
              obtain ⟨hB, ru⟩ := hH
              have HSm := Lib.hid (ksame_yes u u' hN X _ ru ru')
              clear ru ru'
              go_wp2_with fail
              refine HSm.out.mono ?_
              rintro e w10 ⟨rfl, hb⟩
              replace hB := bwS hB (Nat.le_refl _) hb
              clear hb HSm
              go_wp2
              go_roundw
              case rel => exact ⟨k + 1, by omega, by go_num, hB⟩
              case measure => simp [intOf]; omega
            · have jB := bwS HB.out (by have := HB.out.size; omega) hB
              clear hB HRd
              go_wp2_with fail
              refine (awake_any _).mono ?_
              rintro e w9 ⟨rfl, hb⟩
              replace jB := bwS jB (Nat.le_refl _) hb
              go_wp2
              go_ret
              exact ⟨rfl, jB⟩
end Go.Proofs.Ytfakmggabicdjaa
