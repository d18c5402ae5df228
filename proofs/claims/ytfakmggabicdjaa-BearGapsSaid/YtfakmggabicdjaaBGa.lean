/-
  BearGaps says yes.
-/
import Derived.Test.YtfakmggabicdjaaTail
import Derived.Test.YtfakmggabicdjaaGap2
import Derived.Test.YtfakmggabicdjaaRG2
import Derived.Test.YtfakmggabicdjaaRowOf
import Derived.Test.YtfakmggabicdjaaRd
import Derived.Test.YtfakmggabicdjaaAwk2
set_option linter.unusedVariables false
set_option linter.unusedSimpArgs false
namespace Go.Proofs.Ytfakmggabicdjaa
open Go.RowKit

set_option maxRecDepth 100000 in
set_option maxHeartbeats 16000000 in
theorem bgaps_any (p : Pl) (vS vC vV : Value) (th : Int) (n : Nat) (W0 W1 : Nat → Int) (a : Option Addr) (len cap : Nat) (w : World)
    (hS : TabAt w vS p.S) (hC : TabAt w vC p.C) (hV : PairsAt w vV n W0 W1) (hn : NumsAt w a len) :
    Calls Try.prog 6 #[.agg #[.int .i64 p.s0, .int .i64 p.s1, vS, vC, .int .i64 p.ne, .int .i64 p.ed, .int .i64 p.gr, .int .i64 p.lo, .int .i64 p.hi, .int .i64 p.sh, .int .i64 p.wi], .int .i64 th, vV, .slice a len cap] w fun e w' => e = .returned (.bool true) ∧ Below w.heap.size w w' := by
  obtain ⟨aS, cS, rfl, _, _, _⟩ := id hS
  obtain ⟨aC, cC, rfl, _, _, _⟩ := id hC
  obtain ⟨aW, cW, rfl, _, _, _⟩ := id hV
  have HPar := Lib.hid (And.intro hS (And.intro hC hV))
  have HNm := Lib.hid hn
  have HBg : Hid (∀ W, Below w.heap.size w W → Calls Try.prog 17 #[.agg #[.int .i64 p.s0, .int .i64 p.s1, (.slice aS p.S.n cS), (.slice aC p.C.n cC), .int .i64 p.ne, .int .i64 p.ed, .int .i64 p.gr, .int .i64 p.lo, .int .i64 p.hi, .int .i64 p.sh, .int .i64 p.wi]] W fun e w' => e = .returned (.bool (bigV p)) ∧ Below W.heap.size W w') := fun W hW => kbig_any p _ _ W (PairsAt.later hS hW) (PairsAt.later hC hW)
  clear hS hC hV hn
  have jA := Blk.new w #[.int .i64 p.s0, .int .i64 p.s1, (.slice aS p.S.n cS), (.slice aC p.C.n cC), .int .i64 p.ne, .int .i64 p.ed, .int .i64 p.gr, .int .i64 p.lo, .int .i64 p.hi, .int .i64 p.sh, .int .i64 p.wi] 26
  have jB : Below w.heap.size w (w.alloc (.cells #[.int .i64 p.s0, .int .i64 p.s1, (.slice aS p.S.n cS), (.slice aC p.C.n cC), .int .i64 p.ne, .int .i64 p.ed, .int .i64 p.gr, .int .i64 p.lo, .int .i64 p.hi, .int .i64 p.sh, .int .i64 p.wi] 26)) := by (repeat (first | exact Below.refl _ _ | assumption | refine Below.drew ?_ | refine Below.drewN ?_ _ | refine blT ?_ | refine blU ?_))
  go_enter Try.func6, Try.ntmps6
  go_upto_region 1 with fail
  obtain ⟨bA, hbA⟩ : ∃ b, w.heap.size = b := ⟨_, rfl⟩
  rw [hbA] at jA
  (try rw [hbA])
  have zwA : w.heap.size ≤ bA := by omega
  clear hbA
  generalize w.alloc (.cells #[.int .i64 p.s0, .int .i64 p.s1, (.slice aS p.S.n cS), (.slice aC p.C.n cC), .int .i64 p.ne, .int .i64 p.ed, .int .i64 p.gr, .int .i64 p.lo, .int .i64 p.hi, .int .i64 p.sh, .int .i64 p.wi] 26) = V0 at jA jB ⊢
  go_cut [26] (fun s26 wx => ∃ b : Bool, s26 = .bool b ∧ Blk wx bA #[.int .i64 p.s0, .int .i64 p.s1, (.slice aS p.S.n cS), (.slice aC p.C.n cC), .int .i64 p.ne, .int .i64 p.ed, .int .i64 p.gr, .int .i64 p.lo, .int .i64 p.hi, .int .i64 p.sh, .int .i64 p.wi] 26 ∧ Below w.heap.size w wx)
  case first =>
    obtain ⟨c0, c1, c2, c3, c4, c5, c6, c7, c8, c9, c10⟩ := jA.c11
    have zA := jA.lt
    go_wp2_with fail
    clear c0 c1 c2 c3 c4 c5 c6 c7 c8 c9 c10 zA
    refine (HBg.out _ jB).mono ?_
    rintro e w1 ⟨rfl, hb⟩
    replace jA := jA.call hb
    replace jB := bwS jB (Nat.le_refl _) hb
    clear hb HBg
    cases bigV p with
    | true =>
      go_wp2_with fail
      go_meet
      exact ⟨_, rfl, jA, jB⟩
    | false =>
      go_wp2_with fail
      go_meet
      exact ⟨_, rfl, jA, jB⟩
  case rest =>
    clear jA jB HBg
    obtain ⟨bb, rfl, jA, jB⟩ := hcut
    cases bb with
    | true =>
      go_wp2_with fail
      refine (awake_any _).mono ?_
      rintro e w9 ⟨rfl, hb⟩
      replace jB := bwS jB (Nat.le_refl _) hb
      go_wp2
      go_ret
      exact ⟨rfl, jB⟩
    | false =>
      go_wp2_with fail
      refine (newseed_at a len cap _ (nums_after HNm.out jB)).mono ?_
      rintro e w2 ⟨rfl, hS, hb⟩
      obtain ⟨bs, hbs⟩ : ∃ b, wc.heap.size = b := ⟨_, rfl⟩
      have zAs : bA < bs := by rw [← hbs]; exact jA.lt
      have zwbs : w.heap.size ≤ bs := by omega
      rw [hbs] at hS ⊢
      replace jA := jA.call hb
      replace jB := bwS jB (Nat.le_refl _) hb
      clear hb hbs
      have hb1 := hS.choose_spec.lt
      go_wp2_with fail
      refine (plateof_in bs _ hS).mono ?_
      rintro e w3 ⟨p2, vO, vQ, rfl, hp, rO, rQ, hd⟩
      replace jB := Drawn.below jB hd zwbs
      replace jA := hd.blk jA (by omega)
      replace hS := hd.seed
      replace rO := ownsRow_base (b1 := bs + 1) rO (by omega)
      replace rQ := ownsRow_base (b1 := bs + 1) rQ (by omega)
      clear hd hb1 hp
      obtain ⟨aO, cO, rfl, _, _, _⟩ := pairs_of_row rO
      obtain ⟨aQ, cQ, rfl, _, _, _⟩ := pairs_of_row rQ
      go_wp2_with fail
      refine (rowof_in 6 (by decide) bs _ hS).mono ?_
      rintro e w4 ⟨m, R0, R1, vR, rfl, _, _, rI, hd⟩
      have zz := hS.choose_spec.lt
      replace rI := ownsRow_base (b1 := bs + 1) rI (by omega)
      clear zz
      replace rO := hd.row rO (by omega)
      replace rQ := hd.row rQ (by omega)
      replace jA := hd.blk jA (by omega)
      replace jB := Drawn.below jB hd zwbs
      replace hS := hd.seed
      clear hd
      obtain ⟨aR, cR, rfl, _, _, _⟩ := pairs_of_row rI
      have jO := Blk.new w4 #[.int .i64 p2.s0, .int .i64 p2.s1, (.slice aO p2.S.n cO), (.slice aQ p2.C.n cQ), .int .i64 p2.ne, .int .i64 p2.ed, .int .i64 p2.gr, .int .i64 p2.lo, .int .i64 p2.hi, .int .i64 p2.sh, .int .i64 p2.wi] 26
      go_upto_region 5 with fail
      obtain ⟨bO, hbO⟩ : ∃ b, w4.heap.size = b := ⟨_, rfl⟩
      have zsO : bs < bO := by rw [← hbO]; exact hS.choose_spec.lt
      rw [hbO] at jO
      (try rw [hbO])
      clear hbO
      replace rO := rO.alloc (.cells #[.int .i64 p2.s0, .int .i64 p2.s1, (.slice aO p2.S.n cO), (.slice aQ p2.C.n cQ), .int .i64 p2.ne, .int .i64 p2.ed, .int .i64 p2.gr, .int .i64 p2.lo, .int .i64 p2.hi, .int .i64 p2.sh, .int .i64 p2.wi] 26)
      replace rQ := rQ.alloc (.cells #[.int .i64 p2.s0, .int .i64 p2.s1, (.slice aO p2.S.n cO), (.slice aQ p2.C.n cQ), .int .i64 p2.ne, .int .i64 p2.ed, .int .i64 p2.gr, .int .i64 p2.lo, .int .i64 p2.hi, .int .i64 p2.sh, .int .i64 p2.wi] 26)
      replace rI := rI.alloc (.cells #[.int .i64 p2.s0, .int .i64 p2.s1, (.slice aO p2.S.n cO), (.slice aQ p2.C.n cQ), .int .i64 p2.ne, .int .i64 p2.ed, .int .i64 p2.gr, .int .i64 p2.lo, .int .i64 p2.hi, .int .i64 p2.sh, .int .i64 p2.wi] 26)
      replace jA := jA.alloc (.cells #[.int .i64 p2.s0, .int .i64 p2.s1, (.slice aO p2.S.n cO), (.slice aQ p2.C.n cQ), .int .i64 p2.ne, .int .i64 p2.ed, .int .i64 p2.gr, .int .i64 p2.lo, .int .i64 p2.hi, .int .i64 p2.sh, .int .i64 p2.wi] 26)
      replace hS : SeedAt bs _ := hS.imp fun _ h => h.alloc (.cells #[.int .i64 p2.s0, .int .i64 p2.s1, (.slice aO p2.S.n cO), (.slice aQ p2.C.n cQ), .int .i64 p2.ne, .int .i64 p2.ed, .int .i64 p2.gr, .int .i64 p2.lo, .int .i64 p2.hi, .int .i64 p2.sh, .int .i64 p2.wi] 26)
      replace jB := bwA jB (Nat.le_refl _) (.cells #[.int .i64 p2.s0, .int .i64 p2.s1, (.slice aO p2.S.n cO), (.slice aQ p2.C.n cQ), .int .i64 p2.ne, .int .i64 p2.ed, .int .i64 p2.gr, .int .i64 p2.lo, .int .i64 p2.hi, .int .i64 p2.sh, .int .i64 p2.wi] 26)
      generalize w4.alloc (.cells #[.int .i64 p2.s0, .int .i64 p2.s1, (.slice aO p2.S.n cO), (.slice aQ p2.C.n cQ), .int .i64 p2.ne, .int .i64 p2.ed, .int .i64 p2.gr, .int .i64 p2.lo, .int .i64 p2.hi, .int .i64 p2.sh, .int .i64 p2.wi] 26) = V5 at jO jA rO rQ rI hS jB ⊢
      go_cut [12, 13, 14] (fun s12 s13 s14 V => ∃ (b1 b2 b3 : Nat), s12 = .slice (some ⟨b1, 0, none⟩) 3 3 ∧ s13 = .slice (some ⟨b2, 0, none⟩) 3 3 ∧ s14 = .slice (some ⟨b3, 0, none⟩) 3 3 ∧ (∀ k, k < 3 → ∃ (x : Pl) (uS uC uV : Value) (q : Int) (k1 : Nat) (M0 M1 : Nat → Int), Pq V b1 k x uS uC ∧ V.cell? ⟨b2, k, none⟩ = some (.int .i64 q) ∧ V.cell? ⟨b3, k, none⟩ = some uV ∧ PairsAt V uV k1 M0 M1) ∧ Below w.heap.size w V)
      case first =>
        refine wp_region_held_drew (S := (fun w' => Blk w' bA #[.int .i64 p.s0, .int .i64 p.s1, (.slice aS p.S.n cS), (.slice aC p.C.n cC), .int .i64 p.ne, .int .i64 p.ed, .int .i64 p.gr, .int .i64 p.lo, .int .i64 p.hi, .int .i64 p.sh, .int .i64 p.wi] 26 ∧ Blk w' bO #[.int .i64 p2.s0, .int .i64 p2.s1, (.slice aO p2.S.n cO), (.slice aQ p2.C.n cQ), .int .i64 p2.ne, .int .i64 p2.ed, .int .i64 p2.gr, .int .i64 p2.lo, .int .i64 p2.hi, .int .i64 p2.sh, .int .i64 p2.wi] 26 ∧ w'.ownsRow (bs + 1) 68 2 (.slice aO p2.S.n cO) p2.S.n (catC (pairC p2.S.F p2.S.P) p2.S.n) ∧ w'.ownsRow (bs + 1) 68 2 (.slice aQ p2.C.n cQ) p2.C.n (catC (pairC p2.C.F p2.C.P) p2.C.n) ∧ w'.ownsRow (bs + 1) 23 2 (.slice aR m cR) m (catC (pairC R0 R1) m) ∧ SeedAt bs w' ∧ Below w.heap.size w w')) (by kernel_rfl) ?_ (fun hH => ?_)
        · (try dsimp only); (exact ⟨jA.drew, jO.drew, rO.drew, rQ.drew, rI.drew, hS, jB.drew⟩)
        refine tkY 0 (some 34) ?_ ?_ ?_
        rotate_left
        · intro w hS0; (try dsimp only at hS0); obtain ⟨k1, k2, _⟩ := hS0; obtain ⟨c0, c1, c2, c3, c4, c5, c6, c7, c8, c9, c10⟩ := k1.c11; obtain ⟨d0, d1, d2, d3, d4, d5, d6, d7, d8, d9, d10⟩ := k2.c11; have y1 := k1.lt; have y2 := k2.lt;go_simp; (try with_reducible rfl)
        (try simp only [cq])
        refine tkY 1 (some 35) ?_ ?_ ?_
        rotate_left
        · intro w hS0; (try dsimp only at hS0); obtain ⟨k1, k2, _⟩ := hS0; obtain ⟨c0, c1, c2, c3, c4, c5, c6, c7, c8, c9, c10⟩ := k1.c11; obtain ⟨d0, d1, d2, d3, d4, d5, d6, d7, d8, d9, d10⟩ := k2.c11; have y1 := k1.lt; have y2 := k2.lt;go_simp; (try with_reducible rfl)
        (try simp only [cq])
        refine tkY 2 (some 36) ?_ ?_ ?_
        rotate_left
        · intro w hS0; (try dsimp only at hS0); obtain ⟨k1, k2, _⟩ := hS0; obtain ⟨c0, c1, c2, c3, c4, c5, c6, c7, c8, c9, c10⟩ := k1.c11; obtain ⟨d0, d1, d2, d3, d4, d5, d6, d7, d8, d9, d10⟩ := k2.c11; have y1 := k1.lt; have y2 := k2.lt;go_simp; (try with_reducible rfl)
        (try simp only [cq])
        refine tkY 4 (some 38) ?_ ?_ ?_
        rotate_left
        · intro w _; go_simp; (try with_reducible rfl)
        (try simp only [cq])
        refine tkY 5 (some 39) ?_ ?_ ?_
        rotate_left
        · intro w _; go_simp; (try with_reducible rfl)
        (try simp only [cq])
        refine tkY 7 (some 41) ?_ ?_ ?_
        rotate_left
        · intro w _; go_simp; (try with_reducible rfl)
        (try simp only [cq])
        refine tkY 9 (some 43) ?_ ?_ ?_
        rotate_left
        · intro w _; go_simp; (try with_reducible rfl)
        (try simp only [cq])
        refine tkY 10 (some 44) ?_ ?_ ?_
        rotate_left
        · intro w _; go_simp; (try with_reducible rfl)
        (try simp only [cq])
        refine tkY 11 (some 45) ?_ ?_ ?_
        rotate_left
        · intro w _; go_simp; (try with_reducible rfl)
        (try simp only [cq])
        refine wpAnyH_ready (rs := [3, 6, 12]) (by kernel_rfl) (by simp) ?_
        refine arc (some 37) (fun K hK => ?_) ?_
        {
        have zz := hH.2.2.2.2.2.1.choose_spec.lt
        go_simp
        first | refine oA hK ?_ (fun hH hA => ?_) | refine oD hK ?_ (fun hH hA => ?_)
        · exact ⟨hH.1.alloc _, hH.2.1.alloc _, hH.2.2.1.alloc _, hH.2.2.2.1.alloc _, hH.2.2.2.2.1.alloc _, hH.2.2.2.2.2.1.imp fun _ h => h.alloc _, hH.2.2.2.2.2.2.alloc hH.2.2.2.2.2.2.size _⟩
        have kP := hA
        clear hA
        obtain ⟨bkP, hbkP⟩ : ∃ b, Blk.num kP = b := ⟨_, rfl⟩
        obtain ⟨Wn, hWn⟩ : ∃ V, Blk.wld kP = V := ⟨_, rfl⟩
        simp only [Blk.num] at hbkP
        simp only [Blk.wld] at hWn
        (try replace kT := awB hWn kT)
        (try replace kW := awB hWn kW)
        rw [hWn] at hH kP ⊢
        have zkP : bs < bkP := (by rw [← hbkP]; exact zz)
        rw [hbkP] at kP ⊢
        clear hbkP hWn zz
        clear hK K
        (try simp only [cq])
        refine wpAnyH_ready (rs := [6, 12]) (by kernel_rfl) (by simp) ?_
        refine arc (some 40) (fun K hK => ?_) ?_
        {
        go_simp
        (refine (from_in 0 1200 bs _ hH.2.2.2.2.2.1 (by decide) (by decide) (by decide) (by decide)).mono ?_; rintro e w' ⟨t, rfl, _, _, hd⟩; (try (replace kP := hd.blk kP (by omega))); (try (replace kT := hd.blk kT (by omega))); (try (replace kW := hd.blk kW (by omega))))
        refine hK.out _ _ ?_ ?_
        · (exact ⟨hd.blk hH.1 (by omega), hd.blk hH.2.1 (by omega), hd.row hH.2.2.1 (by omega), hd.row hH.2.2.2.1 (by omega), hd.row hH.2.2.2.2.1 (by omega), hd.seed, Drawn.below hH.2.2.2.2.2.2 hd zwbs⟩)
        (try clear hH); (try clear hd)
        intro hH
        clear hK K
        (try simp only [cq])
        refine tkY 13 (some 12) ?_ ?_ ?_
        rotate_left
        · intro w _; go_simp; (try with_reducible rfl)
        (try simp only [cq])
        refine wpAnyH_ready (rs := [8, 12]) (by kernel_rfl) (by simp) ?_
        refine arc (some 42) (fun K hK => ?_) ?_
        {
        have zz := hH.2.2.2.2.2.1.choose_spec.lt
        go_simp
        first | refine oA hK ?_ (fun hH hA => ?_) | refine oD hK ?_ (fun hH hA => ?_)
        · exact ⟨hH.1.alloc _, hH.2.1.alloc _, hH.2.2.1.alloc _, hH.2.2.2.1.alloc _, hH.2.2.2.2.1.alloc _, hH.2.2.2.2.2.1.imp fun _ h => h.alloc _, hH.2.2.2.2.2.2.alloc hH.2.2.2.2.2.2.size _⟩
        have kT := hA
        clear hA
        obtain ⟨bkT, hbkT⟩ : ∃ b, Blk.num kT = b := ⟨_, rfl⟩
        obtain ⟨Wn, hWn⟩ : ∃ V, Blk.wld kT = V := ⟨_, rfl⟩
        simp only [Blk.num] at hbkT
        simp only [Blk.wld] at hWn
        (try replace kP := awB hWn kP)
        (try replace kW := awB hWn kW)
        rw [hWn] at hH kT ⊢
        have zkT : bs < bkT := (by rw [← hbkT]; exact zz)
        rw [hbkT] at kT ⊢
        clear hbkT hWn zz
        clear hK K
        (try simp only [cq])
        refine tkY 14 (some 13) ?_ ?_ ?_
        rotate_left
        · intro w _; go_simp; (try with_reducible rfl)
        (try simp only [cq])
        refine wpAnyH_ready (rs := [12]) (by kernel_rfl) (by simp) ?_
        refine arc1 (some 46) fun K hK => ?_
        have zz := hH.2.2.2.2.2.1.choose_spec.lt
        go_simp
        first | refine oA hK ?_ (fun hH hA => ?_) | refine oD hK ?_ (fun hH hA => ?_)
        · exact ⟨hH.1.alloc _, hH.2.1.alloc _, hH.2.2.1.alloc _, hH.2.2.2.1.alloc _, hH.2.2.2.2.1.alloc _, hH.2.2.2.2.2.1.imp fun _ h => h.alloc _, hH.2.2.2.2.2.2.alloc hH.2.2.2.2.2.2.size _⟩
        have kW := hA
        clear hA
        obtain ⟨bkW, hbkW⟩ : ∃ b, Blk.num kW = b := ⟨_, rfl⟩
        obtain ⟨Wn, hWn⟩ : ∃ V, Blk.wld kW = V := ⟨_, rfl⟩
        simp only [Blk.num] at hbkW
        simp only [Blk.wld] at hWn
        (try replace kP := awB hWn kP)
        (try replace kT := awB hWn kT)
        rw [hWn] at hH kW ⊢
        have zkW : bs < bkW := (by rw [← hbkW]; exact zz)
        rw [hbkW] at kW ⊢
        clear hbkW hWn zz
        clear hK K
        (try simp only [cq])
        refine tkY 15 (some 14) ?_ ?_ ?_
        rotate_left
        · intro w _; go_simp; (try with_reducible rfl)
        (try simp only [cq])
        refine wpAnyH_done (by kernel_rfl) ?_ _
        (try dsimp only [Act.put])
        (try simp only [cq])
        obtain ⟨_, _, qO, qQ, qI, _, kB⟩ := hH
        have rO2 := pairs_of_row qO
        have rQ2 := pairs_of_row qQ
        have rI2 := pairs_of_row qI
        obtain ⟨qS, qC, qV⟩ := HPar.out
        clear qO qQ qI
        go_wp2_with fail
        go_meet
        exact ⟨_, _, _, rfl, rfl, rfl, fun k hk => by
          obtain rfl | rfl | rfl : k = 0 ∨ k = 1 ∨ k = 2 := by omega
          · exact ⟨p, _, _, _, _, _, _, _, ⟨⟨kP.cell (0 * 11) rfl, kP.cell (0 * 11 + 1) rfl, kP.cell (0 * 11 + 2) rfl, kP.cell (0 * 11 + 3) rfl, kP.cell (0 * 11 + 4) rfl, kP.cell (0 * 11 + 5) rfl, kP.cell (0 * 11 + 6) rfl, kP.cell (0 * 11 + 7) rfl, kP.cell (0 * 11 + 8) rfl, kP.cell (0 * 11 + 9) rfl, kP.cell (0 * 11 + 10) rfl⟩, PairsAt.later qS kB, PairsAt.later qC kB⟩, kT.cell 0 rfl, kW.cell 0 rfl, qV.later kB⟩
          · exact ⟨p2, _, _, _, _, _, _, _, ⟨⟨kP.cell (1 * 11) rfl, kP.cell (1 * 11 + 1) rfl, kP.cell (1 * 11 + 2) rfl, kP.cell (1 * 11 + 3) rfl, kP.cell (1 * 11 + 4) rfl, kP.cell (1 * 11 + 5) rfl, kP.cell (1 * 11 + 6) rfl, kP.cell (1 * 11 + 7) rfl, kP.cell (1 * 11 + 8) rfl, kP.cell (1 * 11 + 9) rfl, kP.cell (1 * 11 + 10) rfl⟩, rO2, rQ2⟩, kT.cell 1 rfl, kW.cell 1 rfl, rI2⟩
          · exact ⟨p2, _, _, _, _, _, _, _, ⟨⟨kP.cell (2 * 11) rfl, kP.cell (2 * 11 + 1) rfl, kP.cell (2 * 11 + 2) rfl, kP.cell (2 * 11 + 3) rfl, kP.cell (2 * 11 + 4) rfl, kP.cell (2 * 11 + 5) rfl, kP.cell (2 * 11 + 6) rfl, kP.cell (2 * 11 + 7) rfl, kP.cell (2 * 11 + 8) rfl, kP.cell (2 * 11 + 9) rfl, kP.cell (2 * 11 + 10) rfl⟩, rO2, rQ2⟩, kT.cell 2 rfl, kW.cell 2 rfl, rI2⟩, kB⟩
        }
        refine arc (some 46) (fun K hK => ?_) ?_
        {
        have zz := hH.2.2.2.2.2.1.choose_spec.lt
        go_simp
        first | refine oA hK ?_ (fun hH hA => ?_) | refine oD hK ?_ (fun hH hA => ?_)
        · exact ⟨hH.1.alloc _, hH.2.1.alloc _, hH.2.2.1.alloc _, hH.2.2.2.1.alloc _, hH.2.2.2.2.1.alloc _, hH.2.2.2.2.2.1.imp fun _ h => h.alloc _, hH.2.2.2.2.2.2.alloc hH.2.2.2.2.2.2.size _⟩
        have kW := hA
        clear hA
        obtain ⟨bkW, hbkW⟩ : ∃ b, Blk.num kW = b := ⟨_, rfl⟩
        obtain ⟨Wn, hWn⟩ : ∃ V, Blk.wld kW = V := ⟨_, rfl⟩
        simp only [Blk.num] at hbkW
        simp only [Blk.wld] at hWn
        (try replace kP := awB hWn kP)
        (try replace kT := awB hWn kT)
        rw [hWn] at hH kW ⊢
        have zkW : bs < bkW := (by rw [← hbkW]; exact zz)
        rw [hbkW] at kW ⊢
        clear hbkW hWn zz
        clear hK K
        (try simp only [cq])
        refine wpAnyH_ready (rs := [8]) (by kernel_rfl) (by simp) ?_
        refine arc1 (some 42) fun K hK => ?_
        have zz := hH.2.2.2.2.2.1.choose_spec.lt
        go_simp
        first | refine oA hK ?_ (fun hH hA => ?_) | refine oD hK ?_ (fun hH hA => ?_)
        · exact ⟨hH.1.alloc _, hH.2.1.alloc _, hH.2.2.1.alloc _, hH.2.2.2.1.alloc _, hH.2.2.2.2.1.alloc _, hH.2.2.2.2.2.1.imp fun _ h => h.alloc _, hH.2.2.2.2.2.2.alloc hH.2.2.2.2.2.2.size _⟩
        have kT := hA
        clear hA
        obtain ⟨bkT, hbkT⟩ : ∃ b, Blk.num kT = b := ⟨_, rfl⟩
        obtain ⟨Wn, hWn⟩ : ∃ V, Blk.wld kT = V := ⟨_, rfl⟩
        simp only [Blk.num] at hbkT
        simp only [Blk.wld] at hWn
        (try replace kP := awB hWn kP)
        (try replace kW := awB hWn kW)
        rw [hWn] at hH kT ⊢
        have zkT : bs < bkT := (by rw [← hbkT]; exact zz)
        rw [hbkT] at kT ⊢
        clear hbkT hWn zz
        clear hK K
        (try simp only [cq])
        refine tkY 14 (some 13) ?_ ?_ ?_
        rotate_left
        · intro w _; go_simp; (try with_reducible rfl)
        (try simp only [cq])
        refine tkY 15 (some 14) ?_ ?_ ?_
        rotate_left
        · intro w _; go_simp; (try with_reducible rfl)
        (try simp only [cq])
        refine wpAnyH_done (by kernel_rfl) ?_ _
        (try dsimp only [Act.put])
        (try simp only [cq])
        obtain ⟨_, _, qO, qQ, qI, _, kB⟩ := hH
        have rO2 := pairs_of_row qO
        have rQ2 := pairs_of_row qQ
        have rI2 := pairs_of_row qI
        obtain ⟨qS, qC, qV⟩ := HPar.out
        clear qO qQ qI
        go_wp2_with fail
        go_meet
        exact ⟨_, _, _, rfl, rfl, rfl, fun k hk => by
          obtain rfl | rfl | rfl : k = 0 ∨ k = 1 ∨ k = 2 := by omega
          · exact ⟨p, _, _, _, _, _, _, _, ⟨⟨kP.cell (0 * 11) rfl, kP.cell (0 * 11 + 1) rfl, kP.cell (0 * 11 + 2) rfl, kP.cell (0 * 11 + 3) rfl, kP.cell (0 * 11 + 4) rfl, kP.cell (0 * 11 + 5) rfl, kP.cell (0 * 11 + 6) rfl, kP.cell (0 * 11 + 7) rfl, kP.cell (0 * 11 + 8) rfl, kP.cell (0 * 11 + 9) rfl, kP.cell (0 * 11 + 10) rfl⟩, PairsAt.later qS kB, PairsAt.later qC kB⟩, kT.cell 0 rfl, kW.cell 0 rfl, qV.later kB⟩
          · exact ⟨p2, _, _, _, _, _, _, _, ⟨⟨kP.cell (1 * 11) rfl, kP.cell (1 * 11 + 1) rfl, kP.cell (1 * 11 + 2) rfl, kP.cell (1 * 11 + 3) rfl, kP.cell (1 * 11 + 4) rfl, kP.cell (1 * 11 + 5) rfl, kP.cell (1 * 11 + 6) rfl, kP.cell (1 * 11 + 7) rfl, kP.cell (1 * 11 + 8) rfl, kP.cell (1 * 11 + 9) rfl, kP.cell (1 * 11 + 10) rfl⟩, rO2, rQ2⟩, kT.cell 1 rfl, kW.cell 1 rfl, rI2⟩
          · exact ⟨p2, _, _, _, _, _, _, _, ⟨⟨kP.cell (2 * 11) rfl, kP.cell (2 * 11 + 1) rfl, kP.cell (2 * 11 + 2) rfl, kP.cell (2 * 11 + 3) rfl, kP.cell (2 * 11 + 4) rfl, kP.cell (2 * 11 + 5) rfl, kP.cell (2 * 11 + 6) rfl, kP.cell (2 * 11 + 7) rfl, kP.cell (2 * 11 + 8) rfl, kP.cell (2 * 11 + 9) rfl, kP.cell (2 * 11 + 10) rfl⟩, rO2, rQ2⟩, kT.cell 2 rfl, kW.cell 2 rfl, rI2⟩, kB⟩
        }
        exact AllReadyH.nil
        }
        refine arc (some 46) (fun K hK => ?_) ?_
        {
        have zz := hH.2.2.2.2.2.1.choose_spec.lt
        go_simp
        first | refine oA hK ?_ (fun hH hA => ?_) | refine oD hK ?_ (fun hH hA => ?_)
        · exact ⟨hH.1.alloc _, hH.2.1.alloc _, hH.2.2.1.alloc _, hH.2.2.2.1.alloc _, hH.2.2.2.2.1.alloc _, hH.2.2.2.2.2.1.imp fun _ h => h.alloc _, hH.2.2.2.2.2.2.alloc hH.2.2.2.2.2.2.size _⟩
        have kW := hA
        clear hA
        obtain ⟨bkW, hbkW⟩ : ∃ b, Blk.num kW = b := ⟨_, rfl⟩
        obtain ⟨Wn, hWn⟩ : ∃ V, Blk.wld kW = V := ⟨_, rfl⟩
        simp only [Blk.num] at hbkW
        simp only [Blk.wld] at hWn
        (try replace kP := awB hWn kP)
        (try replace kT := awB hWn kT)
        rw [hWn] at hH kW ⊢
        have zkW : bs < bkW := (by rw [← hbkW]; exact zz)
        rw [hbkW] at kW ⊢
        clear hbkW hWn zz
        clear hK K
        (try simp only [cq])
        refine wpAnyH_ready (rs := [6]) (by kernel_rfl) (by simp) ?_
        refine arc1 (some 40) fun K hK => ?_
        go_simp
        (refine (from_in 0 1200 bs _ hH.2.2.2.2.2.1 (by decide) (by decide) (by decide) (by decide)).mono ?_; rintro e w' ⟨t, rfl, _, _, hd⟩; (try (replace kP := hd.blk kP (by omega))); (try (replace kT := hd.blk kT (by omega))); (try (replace kW := hd.blk kW (by omega))))
        refine hK.out _ _ ?_ ?_
        · (exact ⟨hd.blk hH.1 (by omega), hd.blk hH.2.1 (by omega), hd.row hH.2.2.1 (by omega), hd.row hH.2.2.2.1 (by omega), hd.row hH.2.2.2.2.1 (by omega), hd.seed, Drawn.below hH.2.2.2.2.2.2 hd zwbs⟩)
        (try clear hH); (try clear hd)
        intro hH
        clear hK K
        (try simp only [cq])
        refine tkY 13 (some 12) ?_ ?_ ?_
        rotate_left
        · intro w _; go_simp; (try with_reducible rfl)
        (try simp only [cq])
        refine wpAnyH_ready (rs := [8]) (by kernel_rfl) (by simp) ?_
        refine arc1 (some 42) fun K hK => ?_
        have zz := hH.2.2.2.2.2.1.choose_spec.lt
        go_simp
        first | refine oA hK ?_ (fun hH hA => ?_) | refine oD hK ?_ (fun hH hA => ?_)
        · exact ⟨hH.1.alloc _, hH.2.1.alloc _, hH.2.2.1.alloc _, hH.2.2.2.1.alloc _, hH.2.2.2.2.1.alloc _, hH.2.2.2.2.2.1.imp fun _ h => h.alloc _, hH.2.2.2.2.2.2.alloc hH.2.2.2.2.2.2.size _⟩
        have kT := hA
        clear hA
        obtain ⟨bkT, hbkT⟩ : ∃ b, Blk.num kT = b := ⟨_, rfl⟩
        obtain ⟨Wn, hWn⟩ : ∃ V, Blk.wld kT = V := ⟨_, rfl⟩
        simp only [Blk.num] at hbkT
        simp only [Blk.wld] at hWn
        (try replace kP := awB hWn kP)
        (try replace kW := awB hWn kW)
        rw [hWn] at hH kT ⊢
        have zkT : bs < bkT := (by rw [← hbkT]; exact zz)
        rw [hbkT] at kT ⊢
        clear hbkT hWn zz
        clear hK K
        (try simp only [cq])
        refine tkY 14 (some 13) ?_ ?_ ?_
        rotate_left
        · intro w _; go_simp; (try with_reducible rfl)
        (try simp only [cq])
        refine tkY 15 (some 14) ?_ ?_ ?_
        rotate_left
        · intro w _; go_simp; (try with_reducible rfl)
        (try simp only [cq])
        refine wpAnyH_done (by kernel_rfl) ?_ _
        (try dsimp only [Act.put])
        (try simp only [cq])
        obtain ⟨_, _, qO, qQ, qI, _, kB⟩ := hH
        have rO2 := pairs_of_row qO
        have rQ2 := pairs_of_row qQ
        have rI2 := pairs_of_row qI
        obtain ⟨qS, qC, qV⟩ := HPar.out
        clear qO qQ qI
        go_wp2_with fail
        go_meet
        exact ⟨_, _, _, rfl, rfl, rfl, fun k hk => by
          obtain rfl | rfl | rfl : k = 0 ∨ k = 1 ∨ k = 2 := by omega
          · exact ⟨p, _, _, _, _, _, _, _, ⟨⟨kP.cell (0 * 11) rfl, kP.cell (0 * 11 + 1) rfl, kP.cell (0 * 11 + 2) rfl, kP.cell (0 * 11 + 3) rfl, kP.cell (0 * 11 + 4) rfl, kP.cell (0 * 11 + 5) rfl, kP.cell (0 * 11 + 6) rfl, kP.cell (0 * 11 + 7) rfl, kP.cell (0 * 11 + 8) rfl, kP.cell (0 * 11 + 9) rfl, kP.cell (0 * 11 + 10) rfl⟩, PairsAt.later qS kB, PairsAt.later qC kB⟩, kT.cell 0 rfl, kW.cell 0 rfl, qV.later kB⟩
          · exact ⟨p2, _, _, _, _, _, _, _, ⟨⟨kP.cell (1 * 11) rfl, kP.cell (1 * 11 + 1) rfl, kP.cell (1 * 11 + 2) rfl, kP.cell (1 * 11 + 3) rfl, kP.cell (1 * 11 + 4) rfl, kP.cell (1 * 11 + 5) rfl, kP.cell (1 * 11 + 6) rfl, kP.cell (1 * 11 + 7) rfl, kP.cell (1 * 11 + 8) rfl, kP.cell (1 * 11 + 9) rfl, kP.cell (1 * 11 + 10) rfl⟩, rO2, rQ2⟩, kT.cell 1 rfl, kW.cell 1 rfl, rI2⟩
          · exact ⟨p2, _, _, _, _, _, _, _, ⟨⟨kP.cell (2 * 11) rfl, kP.cell (2 * 11 + 1) rfl, kP.cell (2 * 11 + 2) rfl, kP.cell (2 * 11 + 3) rfl, kP.cell (2 * 11 + 4) rfl, kP.cell (2 * 11 + 5) rfl, kP.cell (2 * 11 + 6) rfl, kP.cell (2 * 11 + 7) rfl, kP.cell (2 * 11 + 8) rfl, kP.cell (2 * 11 + 9) rfl, kP.cell (2 * 11 + 10) rfl⟩, rO2, rQ2⟩, kT.cell 2 rfl, kW.cell 2 rfl, rI2⟩, kB⟩
        }
        exact AllReadyH.nil
        }
        refine arc (some 40) (fun K hK => ?_) ?_
        {
        go_simp
        (refine (from_in 0 1200 bs _ hH.2.2.2.2.2.1 (by decide) (by decide) (by decide) (by decide)).mono ?_; rintro e w' ⟨t, rfl, _, _, hd⟩; (try (replace kP := hd.blk kP (by omega))); (try (replace kT := hd.blk kT (by omega))); (try (replace kW := hd.blk kW (by omega))))
        refine hK.out _ _ ?_ ?_
        · (exact ⟨hd.blk hH.1 (by omega), hd.blk hH.2.1 (by omega), hd.row hH.2.2.1 (by omega), hd.row hH.2.2.2.1 (by omega), hd.row hH.2.2.2.2.1 (by omega), hd.seed, Drawn.below hH.2.2.2.2.2.2 hd zwbs⟩)
        (try clear hH); (try clear hd)
        intro hH
        clear hK K
        (try simp only [cq])
        refine wpAnyH_ready (rs := [3, 8, 12]) (by kernel_rfl) (by simp) ?_
        refine arc (some 37) (fun K hK => ?_) ?_
        {
        have zz := hH.2.2.2.2.2.1.choose_spec.lt
        go_simp
        first | refine oA hK ?_ (fun hH hA => ?_) | refine oD hK ?_ (fun hH hA => ?_)
        · exact ⟨hH.1.alloc _, hH.2.1.alloc _, hH.2.2.1.alloc _, hH.2.2.2.1.alloc _, hH.2.2.2.2.1.alloc _, hH.2.2.2.2.2.1.imp fun _ h => h.alloc _, hH.2.2.2.2.2.2.alloc hH.2.2.2.2.2.2.size _⟩
        have kP := hA
        clear hA
        obtain ⟨bkP, hbkP⟩ : ∃ b, Blk.num kP = b := ⟨_, rfl⟩
        obtain ⟨Wn, hWn⟩ : ∃ V, Blk.wld kP = V := ⟨_, rfl⟩
        simp only [Blk.num] at hbkP
        simp only [Blk.wld] at hWn
        (try replace kT := awB hWn kT)
        (try replace kW := awB hWn kW)
        rw [hWn] at hH kP ⊢
        have zkP : bs < bkP := (by rw [← hbkP]; exact zz)
        rw [hbkP] at kP ⊢
        clear hbkP hWn zz
        clear hK K
        (try simp only [cq])
        refine tkY 13 (some 12) ?_ ?_ ?_
        rotate_left
        · intro w _; go_simp; (try with_reducible rfl)
        (try simp only [cq])
        refine wpAnyH_ready (rs := [8, 12]) (by kernel_rfl) (by simp) ?_
        refine arc (some 42) (fun K hK => ?_) ?_
        {
        have zz := hH.2.2.2.2.2.1.choose_spec.lt
        go_simp
        first | refine oA hK ?_ (fun hH hA => ?_) | refine oD hK ?_ (fun hH hA => ?_)
        · exact ⟨hH.1.alloc _, hH.2.1.alloc _, hH.2.2.1.alloc _, hH.2.2.2.1.alloc _, hH.2.2.2.2.1.alloc _, hH.2.2.2.2.2.1.imp fun _ h => h.alloc _, hH.2.2.2.2.2.2.alloc hH.2.2.2.2.2.2.size _⟩
        have kT := hA
        clear hA
        obtain ⟨bkT, hbkT⟩ : ∃ b, Blk.num kT = b := ⟨_, rfl⟩
        obtain ⟨Wn, hWn⟩ : ∃ V, Blk.wld kT = V := ⟨_, rfl⟩
        simp only [Blk.num] at hbkT
        simp only [Blk.wld] at hWn
        (try replace kP := awB hWn kP)
        (try replace kW := awB hWn kW)
        rw [hWn] at hH kT ⊢
        have zkT : bs < bkT := (by rw [← hbkT]; exact zz)
        rw [hbkT] at kT ⊢
        clear hbkT hWn zz
        clear hK K
        (try simp only [cq])
        refine tkY 14 (some 13) ?_ ?_ ?_
        rotate_left
        · intro w _; go_simp; (try with_reducible rfl)
        (try simp only [cq])
        refine wpAnyH_ready (rs := [12]) (by kernel_rfl) (by simp) ?_
        refine arc1 (some 46) fun K hK => ?_
        have zz := hH.2.2.2.2.2.1.choose_spec.lt
        go_simp
        first | refine oA hK ?_ (fun hH hA => ?_) | refine oD hK ?_ (fun hH hA => ?_)
        · exact ⟨hH.1.alloc _, hH.2.1.alloc _, hH.2.2.1.alloc _, hH.2.2.2.1.alloc _, hH.2.2.2.2.1.alloc _, hH.2.2.2.2.2.1.imp fun _ h => h.alloc _, hH.2.2.2.2.2.2.alloc hH.2.2.2.2.2.2.size _⟩
        have kW := hA
        clear hA
        obtain ⟨bkW, hbkW⟩ : ∃ b, Blk.num kW = b := ⟨_, rfl⟩
        obtain ⟨Wn, hWn⟩ : ∃ V, Blk.wld kW = V := ⟨_, rfl⟩
        simp only [Blk.num] at hbkW
        simp only [Blk.wld] at hWn
        (try replace kP := awB hWn kP)
        (try replace kT := awB hWn kT)
        rw [hWn] at hH kW ⊢
        have zkW : bs < bkW := (by rw [← hbkW]; exact zz)
        rw [hbkW] at kW ⊢
        clear hbkW hWn zz
        clear hK K
        (try simp only [cq])
        refine tkY 15 (some 14) ?_ ?_ ?_
        rotate_left
        · intro w _; go_simp; (try with_reducible rfl)
        (try simp only [cq])
        refine wpAnyH_done (by kernel_rfl) ?_ _
        (try dsimp only [Act.put])
        (try simp only [cq])
        obtain ⟨_, _, qO, qQ, qI, _, kB⟩ := hH
        have rO2 := pairs_of_row qO
        have rQ2 := pairs_of_row qQ
        have rI2 := pairs_of_row qI
        obtain ⟨qS, qC, qV⟩ := HPar.out
        clear qO qQ qI
        go_wp2_with fail
        go_meet
        exact ⟨_, _, _, rfl, rfl, rfl, fun k hk => by
          obtain rfl | rfl | rfl : k = 0 ∨ k = 1 ∨ k = 2 := by omega
          · exact ⟨p, _, _, _, _, _, _, _, ⟨⟨kP.cell (0 * 11) rfl, kP.cell (0 * 11 + 1) rfl, kP.cell (0 * 11 + 2) rfl, kP.cell (0 * 11 + 3) rfl, kP.cell (0 * 11 + 4) rfl, kP.cell (0 * 11 + 5) rfl, kP.cell (0 * 11 + 6) rfl, kP.cell (0 * 11 + 7) rfl, kP.cell (0 * 11 + 8) rfl, kP.cell (0 * 11 + 9) rfl, kP.cell (0 * 11 + 10) rfl⟩, PairsAt.later qS kB, PairsAt.later qC kB⟩, kT.cell 0 rfl, kW.cell 0 rfl, qV.later kB⟩
          · exact ⟨p2, _, _, _, _, _, _, _, ⟨⟨kP.cell (1 * 11) rfl, kP.cell (1 * 11 + 1) rfl, kP.cell (1 * 11 + 2) rfl, kP.cell (1 * 11 + 3) rfl, kP.cell (1 * 11 + 4) rfl, kP.cell (1 * 11 + 5) rfl, kP.cell (1 * 11 + 6) rfl, kP.cell (1 * 11 + 7) rfl, kP.cell (1 * 11 + 8) rfl, kP.cell (1 * 11 + 9) rfl, kP.cell (1 * 11 + 10) rfl⟩, rO2, rQ2⟩, kT.cell 1 rfl, kW.cell 1 rfl, rI2⟩
          · exact ⟨p2, _, _, _, _, _, _, _, ⟨⟨kP.cell (2 * 11) rfl, kP.cell (2 * 11 + 1) rfl, kP.cell (2 * 11 + 2) rfl, kP.cell (2 * 11 + 3) rfl, kP.cell (2 * 11 + 4) rfl, kP.cell (2 * 11 + 5) rfl, kP.cell (2 * 11 + 6) rfl, kP.cell (2 * 11 + 7) rfl, kP.cell (2 * 11 + 8) rfl, kP.cell (2 * 11 + 9) rfl, kP.cell (2 * 11 + 10) rfl⟩, rO2, rQ2⟩, kT.cell 2 rfl, kW.cell 2 rfl, rI2⟩, kB⟩
        }
        refine arc (some 46) (fun K hK => ?_) ?_
        {
        have zz := hH.2.2.2.2.2.1.choose_spec.lt
        go_simp
        first | refine oA hK ?_ (fun hH hA => ?_) | refine oD hK ?_ (fun hH hA => ?_)
        · exact ⟨hH.1.alloc _, hH.2.1.alloc _, hH.2.2.1.alloc _, hH.2.2.2.1.alloc _, hH.2.2.2.2.1.alloc _, hH.2.2.2.2.2.1.imp fun _ h => h.alloc _, hH.2.2.2.2.2.2.alloc hH.2.2.2.2.2.2.size _⟩
        have kW := hA
        clear hA
        obtain ⟨bkW, hbkW⟩ : ∃ b, Blk.num kW = b := ⟨_, rfl⟩
        obtain ⟨Wn, hWn⟩ : ∃ V, Blk.wld kW = V := ⟨_, rfl⟩
        simp only [Blk.num] at hbkW
        simp only [Blk.wld] at hWn
        (try replace kP := awB hWn kP)
        (try replace kT := awB hWn kT)
        rw [hWn] at hH kW ⊢
        have zkW : bs < bkW := (by rw [← hbkW]; exact zz)
        rw [hbkW] at kW ⊢
        clear hbkW hWn zz
        clear hK K
        (try simp only [cq])
        refine wpAnyH_ready (rs := [8]) (by kernel_rfl) (by simp) ?_
        refine arc1 (some 42) fun K hK => ?_
        have zz := hH.2.2.2.2.2.1.choose_spec.lt
        go_simp
        first | refine oA hK ?_ (fun hH hA => ?_) | refine oD hK ?_ (fun hH hA => ?_)
        · exact ⟨hH.1.alloc _, hH.2.1.alloc _, hH.2.2.1.alloc _, hH.2.2.2.1.alloc _, hH.2.2.2.2.1.alloc _, hH.2.2.2.2.2.1.imp fun _ h => h.alloc _, hH.2.2.2.2.2.2.alloc hH.2.2.2.2.2.2.size _⟩
        have kT := hA
        clear hA
        obtain ⟨bkT, hbkT⟩ : ∃ b, Blk.num kT = b := ⟨_, rfl⟩
        obtain ⟨Wn, hWn⟩ : ∃ V, Blk.wld kT = V := ⟨_, rfl⟩
        simp only [Blk.num] at hbkT
        simp only [Blk.wld] at hWn
        (try replace kP := awB hWn kP)
        (try replace kW := awB hWn kW)
        rw [hWn] at hH kT ⊢
        have zkT : bs < bkT := (by rw [← hbkT]; exact zz)
        rw [hbkT] at kT ⊢
        clear hbkT hWn zz
        clear hK K
        (try simp only [cq])
        refine tkY 14 (some 13) ?_ ?_ ?_
        rotate_left
        · intro w _; go_simp; (try with_reducible rfl)
        (try simp only [cq])
        refine tkY 15 (some 14) ?_ ?_ ?_
        rotate_left
        · intro w _; go_simp; (try with_reducible rfl)
        (try simp only [cq])
        refine wpAnyH_done (by kernel_rfl) ?_ _
        (try dsimp only [Act.put])
        (try simp only [cq])
        obtain ⟨_, _, qO, qQ, qI, _, kB⟩ := hH
        have rO2 := pairs_of_row qO
        have rQ2 := pairs_of_row qQ
        have rI2 := pairs_of_row qI
        obtain ⟨qS, qC, qV⟩ := HPar.out
        clear qO qQ qI
        go_wp2_with fail
        go_meet
        exact ⟨_, _, _, rfl, rfl, rfl, fun k hk => by
          obtain rfl | rfl | rfl : k = 0 ∨ k = 1 ∨ k = 2 := by omega
          · exact ⟨p, _, _, _, _, _, _, _, ⟨⟨kP.cell (0 * 11) rfl, kP.cell (0 * 11 + 1) rfl, kP.cell (0 * 11 + 2) rfl, kP.cell (0 * 11 + 3) rfl, kP.cell (0 * 11 + 4) rfl, kP.cell (0 * 11 + 5) rfl, kP.cell (0 * 11 + 6) rfl, kP.cell (0 * 11 + 7) rfl, kP.cell (0 * 11 + 8) rfl, kP.cell (0 * 11 + 9) rfl, kP.cell (0 * 11 + 10) rfl⟩, PairsAt.later qS kB, PairsAt.later qC kB⟩, kT.cell 0 rfl, kW.cell 0 rfl, qV.later kB⟩
          · exact ⟨p2, _, _, _, _, _, _, _, ⟨⟨kP.cell (1 * 11) rfl, kP.cell (1 * 11 + 1) rfl, kP.cell (1 * 11 + 2) rfl, kP.cell (1 * 11 + 3) rfl, kP.cell (1 * 11 + 4) rfl, kP.cell (1 * 11 + 5) rfl, kP.cell (1 * 11 + 6) rfl, kP.cell (1 * 11 + 7) rfl, kP.cell (1 * 11 + 8) rfl, kP.cell (1 * 11 + 9) rfl, kP.cell (1 * 11 + 10) rfl⟩, rO2, rQ2⟩, kT.cell 1 rfl, kW.cell 1 rfl, rI2⟩
          · exact ⟨p2, _, _, _, _, _, _, _, ⟨⟨kP.cell (2 * 11) rfl, kP.cell (2 * 11 + 1) rfl, kP.cell (2 * 11 + 2) rfl, kP.cell (2 * 11 + 3) rfl, kP.cell (2 * 11 + 4) rfl, kP.cell (2 * 11 + 5) rfl, kP.cell (2 * 11 + 6) rfl, kP.cell (2 * 11 + 7) rfl, kP.cell (2 * 11 + 8) rfl, kP.cell (2 * 11 + 9) rfl, kP.cell (2 * 11 + 10) rfl⟩, rO2, rQ2⟩, kT.cell 2 rfl, kW.cell 2 rfl, rI2⟩, kB⟩
        }
        exact AllReadyH.nil
        }
        refine arc (some 42) (fun K hK => ?_) ?_
        {
        have zz := hH.2.2.2.2.2.1.choose_spec.lt
        go_simp
        first | refine oA hK ?_ (fun hH hA => ?_) | refine oD hK ?_ (fun hH hA => ?_)
        · exact ⟨hH.1.alloc _, hH.2.1.alloc _, hH.2.2.1.alloc _, hH.2.2.2.1.alloc _, hH.2.2.2.2.1.alloc _, hH.2.2.2.2.2.1.imp fun _ h => h.alloc _, hH.2.2.2.2.2.2.alloc hH.2.2.2.2.2.2.size _⟩
        have kT := hA
        clear hA
        obtain ⟨bkT, hbkT⟩ : ∃ b, Blk.num kT = b := ⟨_, rfl⟩
        obtain ⟨Wn, hWn⟩ : ∃ V, Blk.wld kT = V := ⟨_, rfl⟩
        simp only [Blk.num] at hbkT
        simp only [Blk.wld] at hWn
        (try replace kP := awB hWn kP)
        (try replace kW := awB hWn kW)
        rw [hWn] at hH kT ⊢
        have zkT : bs < bkT := (by rw [← hbkT]; exact zz)
        rw [hbkT] at kT ⊢
        clear hbkT hWn zz
        clear hK K
        (try simp only [cq])
        refine wpAnyH_ready (rs := [3, 12]) (by kernel_rfl) (by simp) ?_
        refine arc (some 37) (fun K hK => ?_) ?_
        {
        have zz := hH.2.2.2.2.2.1.choose_spec.lt
        go_simp
        first | refine oA hK ?_ (fun hH hA => ?_) | refine oD hK ?_ (fun hH hA => ?_)
        · exact ⟨hH.1.alloc _, hH.2.1.alloc _, hH.2.2.1.alloc _, hH.2.2.2.1.alloc _, hH.2.2.2.2.1.alloc _, hH.2.2.2.2.2.1.imp fun _ h => h.alloc _, hH.2.2.2.2.2.2.alloc hH.2.2.2.2.2.2.size _⟩
        have kP := hA
        clear hA
        obtain ⟨bkP, hbkP⟩ : ∃ b, Blk.num kP = b := ⟨_, rfl⟩
        obtain ⟨Wn, hWn⟩ : ∃ V, Blk.wld kP = V := ⟨_, rfl⟩
        simp only [Blk.num] at hbkP
        simp only [Blk.wld] at hWn
        (try replace kT := awB hWn kT)
        (try replace kW := awB hWn kW)
        rw [hWn] at hH kP ⊢
        have zkP : bs < bkP := (by rw [← hbkP]; exact zz)
        rw [hbkP] at kP ⊢
        clear hbkP hWn zz
        clear hK K
        (try simp only [cq])
        refine tkY 13 (some 12) ?_ ?_ ?_
        rotate_left
        · intro w _; go_simp; (try with_reducible rfl)
        (try simp only [cq])
        refine tkY 14 (some 13) ?_ ?_ ?_
        rotate_left
        · intro w _; go_simp; (try with_reducible rfl)
        (try simp only [cq])
        refine wpAnyH_ready (rs := [12]) (by kernel_rfl) (by simp) ?_
        refine arc1 (some 46) fun K hK => ?_
        have zz := hH.2.2.2.2.2.1.choose_spec.lt
        go_simp
        first | refine oA hK ?_ (fun hH hA => ?_) | refine oD hK ?_ (fun hH hA => ?_)
        · exact ⟨hH.1.alloc _, hH.2.1.alloc _, hH.2.2.1.alloc _, hH.2.2.2.1.alloc _, hH.2.2.2.2.1.alloc _, hH.2.2.2.2.2.1.imp fun _ h => h.alloc _, hH.2.2.2.2.2.2.alloc hH.2.2.2.2.2.2.size _⟩
        have kW := hA
        clear hA
        obtain ⟨bkW, hbkW⟩ : ∃ b, Blk.num kW = b := ⟨_, rfl⟩
        obtain ⟨Wn, hWn⟩ : ∃ V, Blk.wld kW = V := ⟨_, rfl⟩
        simp only [Blk.num] at hbkW
        simp only [Blk.wld] at hWn
        (try replace kP := awB hWn kP)
        (try replace kT := awB hWn kT)
        rw [hWn] at hH kW ⊢
        have zkW : bs < bkW := (by rw [← hbkW]; exact zz)
        rw [hbkW] at kW ⊢
        clear hbkW hWn zz
        clear hK K
        (try simp only [cq])
        refine tkY 15 (some 14) ?_ ?_ ?_
        rotate_left
        · intro w _; go_simp; (try with_reducible rfl)
        (try simp only [cq])
        refine wpAnyH_done (by kernel_rfl) ?_ _
        (try dsimp only [Act.put])
        (try simp only [cq])
        obtain ⟨_, _, qO, qQ, qI, _, kB⟩ := hH
        have rO2 := pairs_of_row qO
        have rQ2 := pairs_of_row qQ
        have rI2 := pairs_of_row qI
        obtain ⟨qS, qC, qV⟩ := HPar.out
        clear qO qQ qI
        go_wp2_with fail
        go_meet
        exact ⟨_, _, _, rfl, rfl, rfl, fun k hk => by
          obtain rfl | rfl | rfl : k = 0 ∨ k = 1 ∨ k = 2 := by omega
          · exact ⟨p, _, _, _, _, _, _, _, ⟨⟨kP.cell (0 * 11) rfl, kP.cell (0 * 11 + 1) rfl, kP.cell (0 * 11 + 2) rfl, kP.cell (0 * 11 + 3) rfl, kP.cell (0 * 11 + 4) rfl, kP.cell (0 * 11 + 5) rfl, kP.cell (0 * 11 + 6) rfl, kP.cell (0 * 11 + 7) rfl, kP.cell (0 * 11 + 8) rfl, kP.cell (0 * 11 + 9) rfl, kP.cell (0 * 11 + 10) rfl⟩, PairsAt.later qS kB, PairsAt.later qC kB⟩, kT.cell 0 rfl, kW.cell 0 rfl, qV.later kB⟩
          · exact ⟨p2, _, _, _, _, _, _, _, ⟨⟨kP.cell (1 * 11) rfl, kP.cell (1 * 11 + 1) rfl, kP.cell (1 * 11 + 2) rfl, kP.cell (1 * 11 + 3) rfl, kP.cell (1 * 11 + 4) rfl, kP.cell (1 * 11 + 5) rfl, kP.cell (1 * 11 + 6) rfl, kP.cell (1 * 11 + 7) rfl, kP.cell (1 * 11 + 8) rfl, kP.cell (1 * 11 + 9) rfl, kP.cell (1 * 11 + 10) rfl⟩, rO2, rQ2⟩, kT.cell 1 rfl, kW.cell 1 rfl, rI2⟩
          · exact ⟨p2, _, _, _, _, _, _, _, ⟨⟨kP.cell (2 * 11) rfl, kP.cell (2 * 11 + 1) rfl, kP.cell (2 * 11 + 2) rfl, kP.cell (2 * 11 + 3) rfl, kP.cell (2 * 11 + 4) rfl, kP.cell (2 * 11 + 5) rfl, kP.cell (2 * 11 + 6) rfl, kP.cell (2 * 11 + 7) rfl, kP.cell (2 * 11 + 8) rfl, kP.cell (2 * 11 + 9) rfl, kP.cell (2 * 11 + 10) rfl⟩, rO2, rQ2⟩, kT.cell 2 rfl, kW.cell 2 rfl, rI2⟩, kB⟩
        }
        refine arc (some 46) (fun K hK => ?_) ?_
        {
        have zz := hH.2.2.2.2.2.1.choose_spec.lt
        go_simp
        first | refine oA hK ?_ (fun hH hA => ?_) | refine oD hK ?_ (fun hH hA => ?_)
        · exact ⟨hH.1.alloc _, hH.2.1.alloc _, hH.2.2.1.alloc _, hH.2.2.2.1.alloc _, hH.2.2.2.2.1.alloc _, hH.2.2.2.2.2.1.imp fun _ h => h.alloc _, hH.2.2.2.2.2.2.alloc hH.2.2.2.2.2.2.size _⟩
        have kW := hA
        clear hA
        obtain ⟨bkW, hbkW⟩ : ∃ b, Blk.num kW = b := ⟨_, rfl⟩
        obtain ⟨Wn, hWn⟩ : ∃ V, Blk.wld kW = V := ⟨_, rfl⟩
        simp only [Blk.num] at hbkW
        simp only [Blk.wld] at hWn
        (try replace kP := awB hWn kP)
        (try replace kT := awB hWn kT)
        rw [hWn] at hH kW ⊢
        have zkW : bs < bkW := (by rw [← hbkW]; exact zz)
        rw [hbkW] at kW ⊢
        clear hbkW hWn zz
        clear hK K
        (try simp only [cq])
        refine wpAnyH_ready (rs := [3]) (by kernel_rfl) (by simp) ?_
        refine arc1 (some 37) fun K hK => ?_
        have zz := hH.2.2.2.2.2.1.choose_spec.lt
        go_simp
        first | refine oA hK ?_ (fun hH hA => ?_) | refine oD hK ?_ (fun hH hA => ?_)
        · exact ⟨hH.1.alloc _, hH.2.1.alloc _, hH.2.2.1.alloc _, hH.2.2.2.1.alloc _, hH.2.2.2.2.1.alloc _, hH.2.2.2.2.2.1.imp fun _ h => h.alloc _, hH.2.2.2.2.2.2.alloc hH.2.2.2.2.2.2.size _⟩
        have kP := hA
        clear hA
        obtain ⟨bkP, hbkP⟩ : ∃ b, Blk.num kP = b := ⟨_, rfl⟩
        obtain ⟨Wn, hWn⟩ : ∃ V, Blk.wld kP = V := ⟨_, rfl⟩
        simp only [Blk.num] at hbkP
        simp only [Blk.wld] at hWn
        (try replace kT := awB hWn kT)
        (try replace kW := awB hWn kW)
        rw [hWn] at hH kP ⊢
        have zkP : bs < bkP := (by rw [← hbkP]; exact zz)
        rw [hbkP] at kP ⊢
        clear hbkP hWn zz
        clear hK K
        (try simp only [cq])
        refine tkY 13 (some 12) ?_ ?_ ?_
        rotate_left
        · intro w _; go_simp; (try with_reducible rfl)
        (try simp only [cq])
        refine tkY 14 (some 13) ?_ ?_ ?_
        rotate_left
        · intro w _; go_simp; (try with_reducible rfl)
        (try simp only [cq])
        refine tkY 15 (some 14) ?_ ?_ ?_
        rotate_left
        · intro w _; go_simp; (try with_reducible rfl)
        (try simp only [cq])
        refine wpAnyH_done (by kernel_rfl) ?_ _
        (try dsimp only [Act.put])
        (try simp only [cq])
        obtain ⟨_, _, qO, qQ, qI, _, kB⟩ := hH
        have rO2 := pairs_of_row qO
        have rQ2 := pairs_of_row qQ
        have rI2 := pairs_of_row qI
        obtain ⟨qS, qC, qV⟩ := HPar.out
        clear qO qQ qI
        go_wp2_with fail
        go_meet
        exact ⟨_, _, _, rfl, rfl, rfl, fun k hk => by
          obtain rfl | rfl | rfl : k = 0 ∨ k = 1 ∨ k = 2 := by omega
          · exact ⟨p, _, _, _, _, _, _, _, ⟨⟨kP.cell (0 * 11) rfl, kP.cell (0 * 11 + 1) rfl, kP.cell (0 * 11 + 2) rfl, kP.cell (0 * 11 + 3) rfl, kP.cell (0 * 11 + 4) rfl, kP.cell (0 * 11 + 5) rfl, kP.cell (0 * 11 + 6) rfl, kP.cell (0 * 11 + 7) rfl, kP.cell (0 * 11 + 8) rfl, kP.cell (0 * 11 + 9) rfl, kP.cell (0 * 11 + 10) rfl⟩, PairsAt.later qS kB, PairsAt.later qC kB⟩, kT.cell 0 rfl, kW.cell 0 rfl, qV.later kB⟩
          · exact ⟨p2, _, _, _, _, _, _, _, ⟨⟨kP.cell (1 * 11) rfl, kP.cell (1 * 11 + 1) rfl, kP.cell (1 * 11 + 2) rfl, kP.cell (1 * 11 + 3) rfl, kP.cell (1 * 11 + 4) rfl, kP.cell (1 * 11 + 5) rfl, kP.cell (1 * 11 + 6) rfl, kP.cell (1 * 11 + 7) rfl, kP.cell (1 * 11 + 8) rfl, kP.cell (1 * 11 + 9) rfl, kP.cell (1 * 11 + 10) rfl⟩, rO2, rQ2⟩, kT.cell 1 rfl, kW.cell 1 rfl, rI2⟩
          · exact ⟨p2, _, _, _, _, _, _, _, ⟨⟨kP.cell (2 * 11) rfl, kP.cell (2 * 11 + 1) rfl, kP.cell (2 * 11 + 2) rfl, kP.cell (2 * 11 + 3) rfl, kP.cell (2 * 11 + 4) rfl, kP.cell (2 * 11 + 5) rfl, kP.cell (2 * 11 + 6) rfl, kP.cell (2 * 11 + 7) rfl, kP.cell (2 * 11 + 8) rfl, kP.cell (2 * 11 + 9) rfl, kP.cell (2 * 11 + 10) rfl⟩, rO2, rQ2⟩, kT.cell 2 rfl, kW.cell 2 rfl, rI2⟩, kB⟩
        }
        exact AllReadyH.nil
        }
        refine arc (some 46) (fun K hK => ?_) ?_
        {
        have zz := hH.2.2.2.2.2.1.choose_spec.lt
        go_simp
        first | refine oA hK ?_ (fun hH hA => ?_) | refine oD hK ?_ (fun hH hA => ?_)
        · exact ⟨hH.1.alloc _, hH.2.1.alloc _, hH.2.2.1.alloc _, hH.2.2.2.1.alloc _, hH.2.2.2.2.1.alloc _, hH.2.2.2.2.2.1.imp fun _ h => h.alloc _, hH.2.2.2.2.2.2.alloc hH.2.2.2.2.2.2.size _⟩
        have kW := hA
        clear hA
        obtain ⟨bkW, hbkW⟩ : ∃ b, Blk.num kW = b := ⟨_, rfl⟩
        obtain ⟨Wn, hWn⟩ : ∃ V, Blk.wld kW = V := ⟨_, rfl⟩
        simp only [Blk.num] at hbkW
        simp only [Blk.wld] at hWn
        (try replace kP := awB hWn kP)
        (try replace kT := awB hWn kT)
        rw [hWn] at hH kW ⊢
        have zkW : bs < bkW := (by rw [← hbkW]; exact zz)
        rw [hbkW] at kW ⊢
        clear hbkW hWn zz
        clear hK K
        (try simp only [cq])
        refine wpAnyH_ready (rs := [3, 8]) (by kernel_rfl) (by simp) ?_
        refine arc (some 37) (fun K hK => ?_) ?_
        {
        have zz := hH.2.2.2.2.2.1.choose_spec.lt
        go_simp
        first | refine oA hK ?_ (fun hH hA => ?_) | refine oD hK ?_ (fun hH hA => ?_)
        · exact ⟨hH.1.alloc _, hH.2.1.alloc _, hH.2.2.1.alloc _, hH.2.2.2.1.alloc _, hH.2.2.2.2.1.alloc _, hH.2.2.2.2.2.1.imp fun _ h => h.alloc _, hH.2.2.2.2.2.2.alloc hH.2.2.2.2.2.2.size _⟩
        have kP := hA
        clear hA
        obtain ⟨bkP, hbkP⟩ : ∃ b, Blk.num kP = b := ⟨_, rfl⟩
        obtain ⟨Wn, hWn⟩ : ∃ V, Blk.wld kP = V := ⟨_, rfl⟩
        simp only [Blk.num] at hbkP
        simp only [Blk.wld] at hWn
        (try replace kT := awB hWn kT)
        (try replace kW := awB hWn kW)
        rw [hWn] at hH kP ⊢
        have zkP : bs < bkP := (by rw [← hbkP]; exact zz)
        rw [hbkP] at kP ⊢
        clear hbkP hWn zz
        clear hK K
        (try simp only [cq])
        refine tkY 13 (some 12) ?_ ?_ ?_
        rotate_left
        · intro w _; go_simp; (try with_reducible rfl)
        (try simp only [cq])
        refine wpAnyH_ready (rs := [8]) (by kernel_rfl) (by simp) ?_
        refine arc1 (some 42) fun K hK => ?_
        have zz := hH.2.2.2.2.2.1.choose_spec.lt
        go_simp
        first | refine oA hK ?_ (fun hH hA => ?_) | refine oD hK ?_ (fun hH hA => ?_)
        · exact ⟨hH.1.alloc _, hH.2.1.alloc _, hH.2.2.1.alloc _, hH.2.2.2.1.alloc _, hH.2.2.2.2.1.alloc _, hH.2.2.2.2.2.1.imp fun _ h => h.alloc _, hH.2.2.2.2.2.2.alloc hH.2.2.2.2.2.2.size _⟩
        have kT := hA
        clear hA
        obtain ⟨bkT, hbkT⟩ : ∃ b, Blk.num kT = b := ⟨_, rfl⟩
        obtain ⟨Wn, hWn⟩ : ∃ V, Blk.wld kT = V := ⟨_, rfl⟩
        simp only [Blk.num] at hbkT
        simp only [Blk.wld] at hWn
        (try replace kP := awB hWn kP)
        (try replace kW := awB hWn kW)
        rw [hWn] at hH kT ⊢
        have zkT : bs < bkT := (by rw [← hbkT]; exact zz)
        rw [hbkT] at kT ⊢
        clear hbkT hWn zz
        clear hK K
        (try simp only [cq])
        refine tkY 14 (some 13) ?_ ?_ ?_
        rotate_left
        · intro w _; go_simp; (try with_reducible rfl)
        (try simp only [cq])
        refine tkY 15 (some 14) ?_ ?_ ?_
        rotate_left
        · intro w _; go_simp; (try with_reducible rfl)
        (try simp only [cq])
        refine wpAnyH_done (by kernel_rfl) ?_ _
        (try dsimp only [Act.put])
        (try simp only [cq])
        obtain ⟨_, _, qO, qQ, qI, _, kB⟩ := hH
        have rO2 := pairs_of_row qO
        have rQ2 := pairs_of_row qQ
        have rI2 := pairs_of_row qI
        obtain ⟨qS, qC, qV⟩ := HPar.out
        clear qO qQ qI
        go_wp2_with fail
        go_meet
        exact ⟨_, _, _, rfl, rfl, rfl, fun k hk => by
          obtain rfl | rfl | rfl : k = 0 ∨ k = 1 ∨ k = 2 := by omega
          · exact ⟨p, _, _, _, _, _, _, _, ⟨⟨kP.cell (0 * 11) rfl, kP.cell (0 * 11 + 1) rfl, kP.cell (0 * 11 + 2) rfl, kP.cell (0 * 11 + 3) rfl, kP.cell (0 * 11 + 4) rfl, kP.cell (0 * 11 + 5) rfl, kP.cell (0 * 11 + 6) rfl, kP.cell (0 * 11 + 7) rfl, kP.cell (0 * 11 + 8) rfl, kP.cell (0 * 11 + 9) rfl, kP.cell (0 * 11 + 10) rfl⟩, PairsAt.later qS kB, PairsAt.later qC kB⟩, kT.cell 0 rfl, kW.cell 0 rfl, qV.later kB⟩
          · exact ⟨p2, _, _, _, _, _, _, _, ⟨⟨kP.cell (1 * 11) rfl, kP.cell (1 * 11 + 1) rfl, kP.cell (1 * 11 + 2) rfl, kP.cell (1 * 11 + 3) rfl, kP.cell (1 * 11 + 4) rfl, kP.cell (1 * 11 + 5) rfl, kP.cell (1 * 11 + 6) rfl, kP.cell (1 * 11 + 7) rfl, kP.cell (1 * 11 + 8) rfl, kP.cell (1 * 11 + 9) rfl, kP.cell (1 * 11 + 10) rfl⟩, rO2, rQ2⟩, kT.cell 1 rfl, kW.cell 1 rfl, rI2⟩
          · exact ⟨p2, _, _, _, _, _, _, _, ⟨⟨kP.cell (2 * 11) rfl, kP.cell (2 * 11 + 1) rfl, kP.cell (2 * 11 + 2) rfl, kP.cell (2 * 11 + 3) rfl, kP.cell (2 * 11 + 4) rfl, kP.cell (2 * 11 + 5) rfl, kP.cell (2 * 11 + 6) rfl, kP.cell (2 * 11 + 7) rfl, kP.cell (2 * 11 + 8) rfl, kP.cell (2 * 11 + 9) rfl, kP.cell (2 * 11 + 10) rfl⟩, rO2, rQ2⟩, kT.cell 2 rfl, kW.cell 2 rfl, rI2⟩, kB⟩
        }
        refine arc (some 42) (fun K hK => ?_) ?_
        {
        have zz := hH.2.2.2.2.2.1.choose_spec.lt
        go_simp
        first | refine oA hK ?_ (fun hH hA => ?_) | refine oD hK ?_ (fun hH hA => ?_)
        · exact ⟨hH.1.alloc _, hH.2.1.alloc _, hH.2.2.1.alloc _, hH.2.2.2.1.alloc _, hH.2.2.2.2.1.alloc _, hH.2.2.2.2.2.1.imp fun _ h => h.alloc _, hH.2.2.2.2.2.2.alloc hH.2.2.2.2.2.2.size _⟩
        have kT := hA
        clear hA
        obtain ⟨bkT, hbkT⟩ : ∃ b, Blk.num kT = b := ⟨_, rfl⟩
        obtain ⟨Wn, hWn⟩ : ∃ V, Blk.wld kT = V := ⟨_, rfl⟩
        simp only [Blk.num] at hbkT
        simp only [Blk.wld] at hWn
        (try replace kP := awB hWn kP)
        (try replace kW := awB hWn kW)
        rw [hWn] at hH kT ⊢
        have zkT : bs < bkT := (by rw [← hbkT]; exact zz)
        rw [hbkT] at kT ⊢
        clear hbkT hWn zz
        clear hK K
        (try simp only [cq])
        refine wpAnyH_ready (rs := [3]) (by kernel_rfl) (by simp) ?_
        refine arc1 (some 37) fun K hK => ?_
        have zz := hH.2.2.2.2.2.1.choose_spec.lt
        go_simp
        first | refine oA hK ?_ (fun hH hA => ?_) | refine oD hK ?_ (fun hH hA => ?_)
        · exact ⟨hH.1.alloc _, hH.2.1.alloc _, hH.2.2.1.alloc _, hH.2.2.2.1.alloc _, hH.2.2.2.2.1.alloc _, hH.2.2.2.2.2.1.imp fun _ h => h.alloc _, hH.2.2.2.2.2.2.alloc hH.2.2.2.2.2.2.size _⟩
        have kP := hA
        clear hA
        obtain ⟨bkP, hbkP⟩ : ∃ b, Blk.num kP = b := ⟨_, rfl⟩
        obtain ⟨Wn, hWn⟩ : ∃ V, Blk.wld kP = V := ⟨_, rfl⟩
        simp only [Blk.num] at hbkP
        simp only [Blk.wld] at hWn
        (try replace kT := awB hWn kT)
        (try replace kW := awB hWn kW)
        rw [hWn] at hH kP ⊢
        have zkP : bs < bkP := (by rw [← hbkP]; exact zz)
        rw [hbkP] at kP ⊢
        clear hbkP hWn zz
        clear hK K
        (try simp only [cq])
        refine tkY 13 (some 12) ?_ ?_ ?_
        rotate_left
        · intro w _; go_simp; (try with_reducible rfl)
        (try simp only [cq])
        refine tkY 14 (some 13) ?_ ?_ ?_
        rotate_left
        · intro w _; go_simp; (try with_reducible rfl)
        (try simp only [cq])
        refine tkY 15 (some 14) ?_ ?_ ?_
        rotate_left
        · intro w _; go_simp; (try with_reducible rfl)
        (try simp only [cq])
        refine wpAnyH_done (by kernel_rfl) ?_ _
        (try dsimp only [Act.put])
        (try simp only [cq])
        obtain ⟨_, _, qO, qQ, qI, _, kB⟩ := hH
        have rO2 := pairs_of_row qO
        have rQ2 := pairs_of_row qQ
        have rI2 := pairs_of_row qI
        obtain ⟨qS, qC, qV⟩ := HPar.out
        clear qO qQ qI
        go_wp2_with fail
        go_meet
        exact ⟨_, _, _, rfl, rfl, rfl, fun k hk => by
          obtain rfl | rfl | rfl : k = 0 ∨ k = 1 ∨ k = 2 := by omega
          · exact ⟨p, _, _, _, _, _, _, _, ⟨⟨kP.cell (0 * 11) rfl, kP.cell (0 * 11 + 1) rfl, kP.cell (0 * 11 + 2) rfl, kP.cell (0 * 11 + 3) rfl, kP.cell (0 * 11 + 4) rfl, kP.cell (0 * 11 + 5) rfl, kP.cell (0 * 11 + 6) rfl, kP.cell (0 * 11 + 7) rfl, kP.cell (0 * 11 + 8) rfl, kP.cell (0 * 11 + 9) rfl, kP.cell (0 * 11 + 10) rfl⟩, PairsAt.later qS kB, PairsAt.later qC kB⟩, kT.cell 0 rfl, kW.cell 0 rfl, qV.later kB⟩
          · exact ⟨p2, _, _, _, _, _, _, _, ⟨⟨kP.cell (1 * 11) rfl, kP.cell (1 * 11 + 1) rfl, kP.cell (1 * 11 + 2) rfl, kP.cell (1 * 11 + 3) rfl, kP.cell (1 * 11 + 4) rfl, kP.cell (1 * 11 + 5) rfl, kP.cell (1 * 11 + 6) rfl, kP.cell (1 * 11 + 7) rfl, kP.cell (1 * 11 + 8) rfl, kP.cell (1 * 11 + 9) rfl, kP.cell (1 * 11 + 10) rfl⟩, rO2, rQ2⟩, kT.cell 1 rfl, kW.cell 1 rfl, rI2⟩
          · exact ⟨p2, _, _, _, _, _, _, _, ⟨⟨kP.cell (2 * 11) rfl, kP.cell (2 * 11 + 1) rfl, kP.cell (2 * 11 + 2) rfl, kP.cell (2 * 11 + 3) rfl, kP.cell (2 * 11 + 4) rfl, kP.cell (2 * 11 + 5) rfl, kP.cell (2 * 11 + 6) rfl, kP.cell (2 * 11 + 7) rfl, kP.cell (2 * 11 + 8) rfl, kP.cell (2 * 11 + 9) rfl, kP.cell (2 * 11 + 10) rfl⟩, rO2, rQ2⟩, kT.cell 2 rfl, kW.cell 2 rfl, rI2⟩, kB⟩
        }
        exact AllReadyH.nil
        }
        exact AllReadyH.nil
        }
        refine arc (some 46) (fun K hK => ?_) ?_
        {
        have zz := hH.2.2.2.2.2.1.choose_spec.lt
        go_simp
        first | refine oA hK ?_ (fun hH hA => ?_) | refine oD hK ?_ (fun hH hA => ?_)
        · exact ⟨hH.1.alloc _, hH.2.1.alloc _, hH.2.2.1.alloc _, hH.2.2.2.1.alloc _, hH.2.2.2.2.1.alloc _, hH.2.2.2.2.2.1.imp fun _ h => h.alloc _, hH.2.2.2.2.2.2.alloc hH.2.2.2.2.2.2.size _⟩
        have kW := hA
        clear hA
        obtain ⟨bkW, hbkW⟩ : ∃ b, Blk.num kW = b := ⟨_, rfl⟩
        obtain ⟨Wn, hWn⟩ : ∃ V, Blk.wld kW = V := ⟨_, rfl⟩
        simp only [Blk.num] at hbkW
        simp only [Blk.wld] at hWn
        (try replace kP := awB hWn kP)
        (try replace kT := awB hWn kT)
        rw [hWn] at hH kW ⊢
        have zkW : bs < bkW := (by rw [← hbkW]; exact zz)
        rw [hbkW] at kW ⊢
        clear hbkW hWn zz
        clear hK K
        (try simp only [cq])
        refine wpAnyH_ready (rs := [3, 6]) (by kernel_rfl) (by simp) ?_
        refine arc (some 37) (fun K hK => ?_) ?_
        {
        have zz := hH.2.2.2.2.2.1.choose_spec.lt
        go_simp
        first | refine oA hK ?_ (fun hH hA => ?_) | refine oD hK ?_ (fun hH hA => ?_)
        · exact ⟨hH.1.alloc _, hH.2.1.alloc _, hH.2.2.1.alloc _, hH.2.2.2.1.alloc _, hH.2.2.2.2.1.alloc _, hH.2.2.2.2.2.1.imp fun _ h => h.alloc _, hH.2.2.2.2.2.2.alloc hH.2.2.2.2.2.2.size _⟩
        have kP := hA
        clear hA
        obtain ⟨bkP, hbkP⟩ : ∃ b, Blk.num kP = b := ⟨_, rfl⟩
        obtain ⟨Wn, hWn⟩ : ∃ V, Blk.wld kP = V := ⟨_, rfl⟩
        simp only [Blk.num] at hbkP
        simp only [Blk.wld] at hWn
        (try replace kT := awB hWn kT)
        (try replace kW := awB hWn kW)
        rw [hWn] at hH kP ⊢
        have zkP : bs < bkP := (by rw [← hbkP]; exact zz)
        rw [hbkP] at kP ⊢
        clear hbkP hWn zz
        clear hK K
        (try simp only [cq])
        refine wpAnyH_ready (rs := [6]) (by kernel_rfl) (by simp) ?_
        refine arc1 (some 40) fun K hK => ?_
        go_simp
        (refine (from_in 0 1200 bs _ hH.2.2.2.2.2.1 (by decide) (by decide) (by decide) (by decide)).mono ?_; rintro e w' ⟨t, rfl, _, _, hd⟩; (try (replace kP := hd.blk kP (by omega))); (try (replace kT := hd.blk kT (by omega))); (try (replace kW := hd.blk kW (by omega))))
        refine hK.out _ _ ?_ ?_
        · (exact ⟨hd.blk hH.1 (by omega), hd.blk hH.2.1 (by omega), hd.row hH.2.2.1 (by omega), hd.row hH.2.2.2.1 (by omega), hd.row hH.2.2.2.2.1 (by omega), hd.seed, Drawn.below hH.2.2.2.2.2.2 hd zwbs⟩)
        (try clear hH); (try clear hd)
        intro hH
        clear hK K
        (try simp only [cq])
        refine tkY 13 (some 12) ?_ ?_ ?_
        rotate_left
        · intro w _; go_simp; (try with_reducible rfl)
        (try simp only [cq])
        refine wpAnyH_ready (rs := [8]) (by kernel_rfl) (by simp) ?_
        refine arc1 (some 42) fun K hK => ?_
        have zz := hH.2.2.2.2.2.1.choose_spec.lt
        go_simp
        first | refine oA hK ?_ (fun hH hA => ?_) | refine oD hK ?_ (fun hH hA => ?_)
        · exact ⟨hH.1.alloc _, hH.2.1.alloc _, hH.2.2.1.alloc _, hH.2.2.2.1.alloc _, hH.2.2.2.2.1.alloc _, hH.2.2.2.2.2.1.imp fun _ h => h.alloc _, hH.2.2.2.2.2.2.alloc hH.2.2.2.2.2.2.size _⟩
        have kT := hA
        clear hA
        obtain ⟨bkT, hbkT⟩ : ∃ b, Blk.num kT = b := ⟨_, rfl⟩
        obtain ⟨Wn, hWn⟩ : ∃ V, Blk.wld kT = V := ⟨_, rfl⟩
        simp only [Blk.num] at hbkT
        simp only [Blk.wld] at hWn
        (try replace kP := awB hWn kP)
        (try replace kW := awB hWn kW)
        rw [hWn] at hH kT ⊢
        have zkT : bs < bkT := (by rw [← hbkT]; exact zz)
        rw [hbkT] at kT ⊢
        clear hbkT hWn zz
        clear hK K
        (try simp only [cq])
        refine tkY 14 (some 13) ?_ ?_ ?_
        rotate_left
        · intro w _; go_simp; (try with_reducible rfl)
        (try simp only [cq])
        refine tkY 15 (some 14) ?_ ?_ ?_
        rotate_left
        · intro w _; go_simp; (try with_reducible rfl)
        (try simp only [cq])
        refine wpAnyH_done (by kernel_rfl) ?_ _
        (try dsimp only [Act.put])
        (try simp only [cq])
        obtain ⟨_, _, qO, qQ, qI, _, kB⟩ := hH
        have rO2 := pairs_of_row qO
        have rQ2 := pairs_of_row qQ
        have rI2 := pairs_of_row qI
        obtain ⟨qS, qC, qV⟩ := HPar.out
        clear qO qQ qI
        go_wp2_with fail
        go_meet
        exact ⟨_, _, _, rfl, rfl, rfl, fun k hk => by
          obtain rfl | rfl | rfl : k = 0 ∨ k = 1 ∨ k = 2 := by omega
          · exact ⟨p, _, _, _, _, _, _, _, ⟨⟨kP.cell (0 * 11) rfl, kP.cell (0 * 11 + 1) rfl, kP.cell (0 * 11 + 2) rfl, kP.cell (0 * 11 + 3) rfl, kP.cell (0 * 11 + 4) rfl, kP.cell (0 * 11 + 5) rfl, kP.cell (0 * 11 + 6) rfl, kP.cell (0 * 11 + 7) rfl, kP.cell (0 * 11 + 8) rfl, kP.cell (0 * 11 + 9) rfl, kP.cell (0 * 11 + 10) rfl⟩, PairsAt.later qS kB, PairsAt.later qC kB⟩, kT.cell 0 rfl, kW.cell 0 rfl, qV.later kB⟩
          · exact ⟨p2, _, _, _, _, _, _, _, ⟨⟨kP.cell (1 * 11) rfl, kP.cell (1 * 11 + 1) rfl, kP.cell (1 * 11 + 2) rfl, kP.cell (1 * 11 + 3) rfl, kP.cell (1 * 11 + 4) rfl, kP.cell (1 * 11 + 5) rfl, kP.cell (1 * 11 + 6) rfl, kP.cell (1 * 11 + 7) rfl, kP.cell (1 * 11 + 8) rfl, kP.cell (1 * 11 + 9) rfl, kP.cell (1 * 11 + 10) rfl⟩, rO2, rQ2⟩, kT.cell 1 rfl, kW.cell 1 rfl, rI2⟩
          · exact ⟨p2, _, _, _, _, _, _, _, ⟨⟨kP.cell (2 * 11) rfl, kP.cell (2 * 11 + 1) rfl, kP.cell (2 * 11 + 2) rfl, kP.cell (2 * 11 + 3) rfl, kP.cell (2 * 11 + 4) rfl, kP.cell (2 * 11 + 5) rfl, kP.cell (2 * 11 + 6) rfl, kP.cell (2 * 11 + 7) rfl, kP.cell (2 * 11 + 8) rfl, kP.cell (2 * 11 + 9) rfl, kP.cell (2 * 11 + 10) rfl⟩, rO2, rQ2⟩, kT.cell 2 rfl, kW.cell 2 rfl, rI2⟩, kB⟩
        }
        refine arc (some 40) (fun K hK => ?_) ?_
        {
        go_simp
        (refine (from_in 0 1200 bs _ hH.2.2.2.2.2.1 (by decide) (by decide) (by decide) (by decide)).mono ?_; rintro e w' ⟨t, rfl, _, _, hd⟩; (try (replace kP := hd.blk kP (by omega))); (try (replace kT := hd.blk kT (by omega))); (try (replace kW := hd.blk kW (by omega))))
        refine hK.out _ _ ?_ ?_
        · (exact ⟨hd.blk hH.1 (by omega), hd.blk hH.2.1 (by omega), hd.row hH.2.2.1 (by omega), hd.row hH.2.2.2.1 (by omega), hd.row hH.2.2.2.2.1 (by omega), hd.seed, Drawn.below hH.2.2.2.2.2.2 hd zwbs⟩)
        (try clear hH); (try clear hd)
        intro hH
        clear hK K
        (try simp only [cq])
        refine wpAnyH_ready (rs := [3, 8]) (by kernel_rfl) (by simp) ?_
        refine arc (some 37) (fun K hK => ?_) ?_
        {
        have zz := hH.2.2.2.2.2.1.choose_spec.lt
        go_simp
        first | refine oA hK ?_ (fun hH hA => ?_) | refine oD hK ?_ (fun hH hA => ?_)
        · exact ⟨hH.1.alloc _, hH.2.1.alloc _, hH.2.2.1.alloc _, hH.2.2.2.1.alloc _, hH.2.2.2.2.1.alloc _, hH.2.2.2.2.2.1.imp fun _ h => h.alloc _, hH.2.2.2.2.2.2.alloc hH.2.2.2.2.2.2.size _⟩
        have kP := hA
        clear hA
        obtain ⟨bkP, hbkP⟩ : ∃ b, Blk.num kP = b := ⟨_, rfl⟩
        obtain ⟨Wn, hWn⟩ : ∃ V, Blk.wld kP = V := ⟨_, rfl⟩
        simp only [Blk.num] at hbkP
        simp only [Blk.wld] at hWn
        (try replace kT := awB hWn kT)
        (try replace kW := awB hWn kW)
        rw [hWn] at hH kP ⊢
        have zkP : bs < bkP := (by rw [← hbkP]; exact zz)
        rw [hbkP] at kP ⊢
        clear hbkP hWn zz
        clear hK K
        (try simp only [cq])
        refine tkY 13 (some 12) ?_ ?_ ?_
        rotate_left
        · intro w _; go_simp; (try with_reducible rfl)
        (try simp only [cq])
        refine wpAnyH_ready (rs := [8]) (by kernel_rfl) (by simp) ?_
        refine arc1 (some 42) fun K hK => ?_
        have zz := hH.2.2.2.2.2.1.choose_spec.lt
        go_simp
        first | refine oA hK ?_ (fun hH hA => ?_) | refine oD hK ?_ (fun hH hA => ?_)
        · exact ⟨hH.1.alloc _, hH.2.1.alloc _, hH.2.2.1.alloc _, hH.2.2.2.1.alloc _, hH.2.2.2.2.1.alloc _, hH.2.2.2.2.2.1.imp fun _ h => h.alloc _, hH.2.2.2.2.2.2.alloc hH.2.2.2.2.2.2.size _⟩
        have kT := hA
        clear hA
        obtain ⟨bkT, hbkT⟩ : ∃ b, Blk.num kT = b := ⟨_, rfl⟩
        obtain ⟨Wn, hWn⟩ : ∃ V, Blk.wld kT = V := ⟨_, rfl⟩
        simp only [Blk.num] at hbkT
        simp only [Blk.wld] at hWn
        (try replace kP := awB hWn kP)
        (try replace kW := awB hWn kW)
        rw [hWn] at hH kT ⊢
        have zkT : bs < bkT := (by rw [← hbkT]; exact zz)
        rw [hbkT] at kT ⊢
        clear hbkT hWn zz
        clear hK K
        (try simp only [cq])
        refine tkY 14 (some 13) ?_ ?_ ?_
        rotate_left
        · intro w _; go_simp; (try with_reducible rfl)
        (try simp only [cq])
        refine tkY 15 (some 14) ?_ ?_ ?_
        rotate_left
        · intro w _; go_simp; (try with_reducible rfl)
        (try simp only [cq])
        refine wpAnyH_done (by kernel_rfl) ?_ _
        (try dsimp only [Act.put])
        (try simp only [cq])
        obtain ⟨_, _, qO, qQ, qI, _, kB⟩ := hH
        have rO2 := pairs_of_row qO
        have rQ2 := pairs_of_row qQ
        have rI2 := pairs_of_row qI
        obtain ⟨qS, qC, qV⟩ := HPar.out
        clear qO qQ qI
        go_wp2_with fail
        go_meet
        exact ⟨_, _, _, rfl, rfl, rfl, fun k hk => by
          obtain rfl | rfl | rfl : k = 0 ∨ k = 1 ∨ k = 2 := by omega
          · exact ⟨p, _, _, _, _, _, _, _, ⟨⟨kP.cell (0 * 11) rfl, kP.cell (0 * 11 + 1) rfl, kP.cell (0 * 11 + 2) rfl, kP.cell (0 * 11 + 3) rfl, kP.cell (0 * 11 + 4) rfl, kP.cell (0 * 11 + 5) rfl, kP.cell (0 * 11 + 6) rfl, kP.cell (0 * 11 + 7) rfl, kP.cell (0 * 11 + 8) rfl, kP.cell (0 * 11 + 9) rfl, kP.cell (0 * 11 + 10) rfl⟩, PairsAt.later qS kB, PairsAt.later qC kB⟩, kT.cell 0 rfl, kW.cell 0 rfl, qV.later kB⟩
          · exact ⟨p2, _, _, _, _, _, _, _, ⟨⟨kP.cell (1 * 11) rfl, kP.cell (1 * 11 + 1) rfl, kP.cell (1 * 11 + 2) rfl, kP.cell (1 * 11 + 3) rfl, kP.cell (1 * 11 + 4) rfl, kP.cell (1 * 11 + 5) rfl, kP.cell (1 * 11 + 6) rfl, kP.cell (1 * 11 + 7) rfl, kP.cell (1 * 11 + 8) rfl, kP.cell (1 * 11 + 9) rfl, kP.cell (1 * 11 + 10) rfl⟩, rO2, rQ2⟩, kT.cell 1 rfl, kW.cell 1 rfl, rI2⟩
          · exact ⟨p2, _, _, _, _, _, _, _, ⟨⟨kP.cell (2 * 11) rfl, kP.cell (2 * 11 + 1) rfl, kP.cell (2 * 11 + 2) rfl, kP.cell (2 * 11 + 3) rfl, kP.cell (2 * 11 + 4) rfl, kP.cell (2 * 11 + 5) rfl, kP.cell (2 * 11 + 6) rfl, kP.cell (2 * 11 + 7) rfl, kP.cell (2 * 11 + 8) rfl, kP.cell (2 * 11 + 9) rfl, kP.cell (2 * 11 + 10) rfl⟩, rO2, rQ2⟩, kT.cell 2 rfl, kW.cell 2 rfl, rI2⟩, kB⟩
        }
        refine arc (some 42) (fun K hK => ?_) ?_
        {
        have zz := hH.2.2.2.2.2.1.choose_spec.lt
        go_simp
        first | refine oA hK ?_ (fun hH hA => ?_) | refine oD hK ?_ (fun hH hA => ?_)
        · exact ⟨hH.1.alloc _, hH.2.1.alloc _, hH.2.2.1.alloc _, hH.2.2.2.1.alloc _, hH.2.2.2.2.1.alloc _, hH.2.2.2.2.2.1.imp fun _ h => h.alloc _, hH.2.2.2.2.2.2.alloc hH.2.2.2.2.2.2.size _⟩
        have kT := hA
        clear hA
        obtain ⟨bkT, hbkT⟩ : ∃ b, Blk.num kT = b := ⟨_, rfl⟩
        obtain ⟨Wn, hWn⟩ : ∃ V, Blk.wld kT = V := ⟨_, rfl⟩
        simp only [Blk.num] at hbkT
        simp only [Blk.wld] at hWn
        (try replace kP := awB hWn kP)
        (try replace kW := awB hWn kW)
        rw [hWn] at hH kT ⊢
        have zkT : bs < bkT := (by rw [← hbkT]; exact zz)
        rw [hbkT] at kT ⊢
        clear hbkT hWn zz
        clear hK K
        (try simp only [cq])
        refine wpAnyH_ready (rs := [3]) (by kernel_rfl) (by simp) ?_
        refine arc1 (some 37) fun K hK => ?_
        have zz := hH.2.2.2.2.2.1.choose_spec.lt
        go_simp
        first | refine oA hK ?_ (fun hH hA => ?_) | refine oD hK ?_ (fun hH hA => ?_)
        · exact ⟨hH.1.alloc _, hH.2.1.alloc _, hH.2.2.1.alloc _, hH.2.2.2.1.alloc _, hH.2.2.2.2.1.alloc _, hH.2.2.2.2.2.1.imp fun _ h => h.alloc _, hH.2.2.2.2.2.2.alloc hH.2.2.2.2.2.2.size _⟩
        have kP := hA
        clear hA
        obtain ⟨bkP, hbkP⟩ : ∃ b, Blk.num kP = b := ⟨_, rfl⟩
        obtain ⟨Wn, hWn⟩ : ∃ V, Blk.wld kP = V := ⟨_, rfl⟩
        simp only [Blk.num] at hbkP
        simp only [Blk.wld] at hWn
        (try replace kT := awB hWn kT)
        (try replace kW := awB hWn kW)
        rw [hWn] at hH kP ⊢
        have zkP : bs < bkP := (by rw [← hbkP]; exact zz)
        rw [hbkP] at kP ⊢
        clear hbkP hWn zz
        clear hK K
        (try simp only [cq])
        refine tkY 13 (some 12) ?_ ?_ ?_
        rotate_left
        · intro w _; go_simp; (try with_reducible rfl)
        (try simp only [cq])
        refine tkY 14 (some 13) ?_ ?_ ?_
        rotate_left
        · intro w _; go_simp; (try with_reducible rfl)
        (try simp only [cq])
        refine tkY 15 (some 14) ?_ ?_ ?_
        rotate_left
        · intro w _; go_simp; (try with_reducible rfl)
        (try simp only [cq])
        refine wpAnyH_done (by kernel_rfl) ?_ _
        (try dsimp only [Act.put])
        (try simp only [cq])
        obtain ⟨_, _, qO, qQ, qI, _, kB⟩ := hH
        have rO2 := pairs_of_row qO
        have rQ2 := pairs_of_row qQ
        have rI2 := pairs_of_row qI
        obtain ⟨qS, qC, qV⟩ := HPar.out
        clear qO qQ qI
        go_wp2_with fail
        go_meet
        exact ⟨_, _, _, rfl, rfl, rfl, fun k hk => by
          obtain rfl | rfl | rfl : k = 0 ∨ k = 1 ∨ k = 2 := by omega
          · exact ⟨p, _, _, _, _, _, _, _, ⟨⟨kP.cell (0 * 11) rfl, kP.cell (0 * 11 + 1) rfl, kP.cell (0 * 11 + 2) rfl, kP.cell (0 * 11 + 3) rfl, kP.cell (0 * 11 + 4) rfl, kP.cell (0 * 11 + 5) rfl, kP.cell (0 * 11 + 6) rfl, kP.cell (0 * 11 + 7) rfl, kP.cell (0 * 11 + 8) rfl, kP.cell (0 * 11 + 9) rfl, kP.cell (0 * 11 + 10) rfl⟩, PairsAt.later qS kB, PairsAt.later qC kB⟩, kT.cell 0 rfl, kW.cell 0 rfl, qV.later kB⟩
          · exact ⟨p2, _, _, _, _, _, _, _, ⟨⟨kP.cell (1 * 11) rfl, kP.cell (1 * 11 + 1) rfl, kP.cell (1 * 11 + 2) rfl, kP.cell (1 * 11 + 3) rfl, kP.cell (1 * 11 + 4) rfl, kP.cell (1 * 11 + 5) rfl, kP.cell (1 * 11 + 6) rfl, kP.cell (1 * 11 + 7) rfl, kP.cell (1 * 11 + 8) rfl, kP.cell (1 * 11 + 9) rfl, kP.cell (1 * 11 + 10) rfl⟩, rO2, rQ2⟩, kT.cell 1 rfl, kW.cell 1 rfl, rI2⟩
          · exact ⟨p2, _, _, _, _, _, _, _, ⟨⟨kP.cell (2 * 11) rfl, kP.cell (2 * 11 + 1) rfl, kP.cell (2 * 11 + 2) rfl, kP.cell (2 * 11 + 3) rfl, kP.cell (2 * 11 + 4) rfl, kP.cell (2 * 11 + 5) rfl, kP.cell (2 * 11 + 6) rfl, kP.cell (2 * 11 + 7) rfl, kP.cell (2 * 11 + 8) rfl, kP.cell (2 * 11 + 9) rfl, kP.cell (2 * 11 + 10) rfl⟩, rO2, rQ2⟩, kT.cell 2 rfl, kW.cell 2 rfl, rI2⟩, kB⟩
        }
        exact AllReadyH.nil
        }
        exact AllReadyH.nil
        }
        exact AllReadyH.nil
      case rest =>
        clear jA jO rO rQ rI hS jB HPar HNm
        obtain ⟨b1, b2, b3, rfl, rfl, rfl, hk, jB⟩ := hcut
        obtain ⟨V, hVV⟩ : ∃ V, V = wc := ⟨_, rfl⟩
        subst hVV
        have HRd := Lib.hid hk
        have HB := Lib.hid jB
        have HF := Below.refl V.heap.size V
        clear hk jB
        go_wp2_with fail
        go_loopw [15] (fun i wr => ∃ k : Nat, k ≤ 3 ∧ i = .int .i64 k ∧ Below V.heap.size V wr) (fun i _ => 3 - (intOf i).toNat)
        case atStart => exact ⟨0, by omega, rfl, HF⟩
        case round =>
          clear HF
          obtain ⟨k, hk, rfl, hB⟩ := hrel
          by_cases hlt2 : k < 3
          · obtain ⟨x, uS, uC, uV, q, k1, M0, M1, hP, hT, hU, hM⟩ := HRd.out k hlt2
            have hk3 : (k : Int) < 3 := by omega
            have HP := Lib.hid hP
            have HT := Lib.hid hT
            have HU := Lib.hid hU
            have HG1 : Hid (∀ W, Below V.heap.size V W → Calls Try.prog 42 #[.agg #[.int .i64 x.s0, .int .i64 x.s1, uS, uC, .int .i64 x.ne, .int .i64 x.ed, .int .i64 x.gr, .int .i64 x.lo, .int .i64 x.hi, .int .i64 x.sh, .int .i64 x.wi], .int .i64 q, uV] W fun e w' => e = .returned (.tuple #[.int .i64 (gapR x q k1 M0 M1), .int .i64 (eGap x q k1 M0 M1)]) ∧ Below W.heap.size W w') := fun W hW => gap_any x uS uC uV q k1 M0 M1 W (PairsAt.later hP.S hW) (PairsAt.later hP.C hW) (hM.later hW)
            have HG2 : Hid (∀ W, Below V.heap.size V W → Calls Try.prog 43 #[.agg #[.int .i64 x.s0, .int .i64 x.s1, uS, uC, .int .i64 x.ne, .int .i64 x.ed, .int .i64 x.gr, .int .i64 x.lo, .int .i64 x.hi, .int .i64 x.sh, .int .i64 x.wi], .int .i64 q, uV] W fun e w' => e = .returned (.tuple #[.int .i64 (gapR x q k1 M0 M1), .int .i64 (eGap x q k1 M0 M1)]) ∧ Below W.heap.size W w') := fun W hW => rgap_any x uS uC uV q k1 M0 M1 W (PairsAt.later hP.S hW) (PairsAt.later hP.C hW) (hM.later hW)
            generalize gapR x q k1 M0 M1 = r1 at HG1 HG2
            generalize eGap x q k1 M0 M1 = r2 at HG1 HG2
            clear hP hT hU hM HRd
            go_upto_region 9 with fail
            refine wp_region_held_drew (S := (fun v => Below V.heap.size V v)) (by kernel_rfl) ?_ (fun hH => ?_)
            · (try dsimp only); (exact hB.drew)
            refine tkY 0 (some 54) ?_ ?_ ?_
            rotate_left
            · intro w _; go_simp; (try with_reducible rfl)
            (try simp only [cq])
            refine tkY 1 (some 55) ?_ ?_ ?_
            rotate_left
            · intro w _; go_simp; (try with_reducible rfl)
            (try simp only [cq])
            refine tkY 2 (some 56) ?_ ?_ ?_
            rotate_left
            · intro w hS0; (try dsimp only at hS0); have kB := hS0; have c0 := cell_later kB HP.out.c.1; have c1 := cell_later kB HP.out.c.2.1; have c2 := cell_later kB HP.out.c.2.2.1; have c3 := cell_later kB HP.out.c.2.2.2.1; have c4 := cell_later kB HP.out.c.2.2.2.2.1; have c5 := cell_later kB HP.out.c.2.2.2.2.2.1; have c6 := cell_later kB HP.out.c.2.2.2.2.2.2.1; have c7 := cell_later kB HP.out.c.2.2.2.2.2.2.2.1; have c8 := cell_later kB HP.out.c.2.2.2.2.2.2.2.2.1; have c9 := cell_later kB HP.out.c.2.2.2.2.2.2.2.2.2.1; have c10 := cell_later kB HP.out.c.2.2.2.2.2.2.2.2.2.2; have t0 := cell_later kB HT.out; have u0 := cell_later kB HU.out; have y1 := World.block_lt_of_cell? _ _ c0; have y2 := World.block_lt_of_cell? _ _ t0; have y3 := World.block_lt_of_cell? _ _ u0;go_simp; (try with_reducible rfl)
            (try simp only [cq])
            refine tkY 3 (some 57) ?_ ?_ ?_
            rotate_left
            · intro w hS0; (try dsimp only at hS0); have kB := hS0; have c0 := cell_later kB HP.out.c.1; have c1 := cell_later kB HP.out.c.2.1; have c2 := cell_later kB HP.out.c.2.2.1; have c3 := cell_later kB HP.out.c.2.2.2.1; have c4 := cell_later kB HP.out.c.2.2.2.2.1; have c5 := cell_later kB HP.out.c.2.2.2.2.2.1; have c6 := cell_later kB HP.out.c.2.2.2.2.2.2.1; have c7 := cell_later kB HP.out.c.2.2.2.2.2.2.2.1; have c8 := cell_later kB HP.out.c.2.2.2.2.2.2.2.2.1; have c9 := cell_later kB HP.out.c.2.2.2.2.2.2.2.2.2.1; have c10 := cell_later kB HP.out.c.2.2.2.2.2.2.2.2.2.2; have t0 := cell_later kB HT.out; have u0 := cell_later kB HU.out; have y1 := World.block_lt_of_cell? _ _ c0; have y2 := World.block_lt_of_cell? _ _ t0; have y3 := World.block_lt_of_cell? _ _ u0;go_simp; (try with_reducible rfl)
            (try simp only [cq])
            refine tkY 4 (some 58) ?_ ?_ ?_
            rotate_left
            · intro w _; go_simp; (try with_reducible rfl)
            (try simp only [cq])
            refine tkY 5 (some 59) ?_ ?_ ?_
            rotate_left
            · intro w _; go_simp; (try with_reducible rfl)
            (try simp only [cq])
            refine tkY 6 (some 60) ?_ ?_ ?_
            rotate_left
            · intro w hS0; (try dsimp only at hS0); have kB := hS0; have c0 := cell_later kB HP.out.c.1; have c1 := cell_later kB HP.out.c.2.1; have c2 := cell_later kB HP.out.c.2.2.1; have c3 := cell_later kB HP.out.c.2.2.2.1; have c4 := cell_later kB HP.out.c.2.2.2.2.1; have c5 := cell_later kB HP.out.c.2.2.2.2.2.1; have c6 := cell_later kB HP.out.c.2.2.2.2.2.2.1; have c7 := cell_later kB HP.out.c.2.2.2.2.2.2.2.1; have c8 := cell_later kB HP.out.c.2.2.2.2.2.2.2.2.1; have c9 := cell_later kB HP.out.c.2.2.2.2.2.2.2.2.2.1; have c10 := cell_later kB HP.out.c.2.2.2.2.2.2.2.2.2.2; have t0 := cell_later kB HT.out; have u0 := cell_later kB HU.out; have y1 := World.block_lt_of_cell? _ _ c0; have y2 := World.block_lt_of_cell? _ _ t0; have y3 := World.block_lt_of_cell? _ _ u0;go_simp; (try with_reducible rfl)
            (try simp only [cq])
            refine tkY 7 (some 61) ?_ ?_ ?_
            rotate_left
            · intro w hS0; (try dsimp only at hS0); have kB := hS0; have c0 := cell_later kB HP.out.c.1; have c1 := cell_later kB HP.out.c.2.1; have c2 := cell_later kB HP.out.c.2.2.1; have c3 := cell_later kB HP.out.c.2.2.2.1; have c4 := cell_later kB HP.out.c.2.2.2.2.1; have c5 := cell_later kB HP.out.c.2.2.2.2.2.1; have c6 := cell_later kB HP.out.c.2.2.2.2.2.2.1; have c7 := cell_later kB HP.out.c.2.2.2.2.2.2.2.1; have c8 := cell_later kB HP.out.c.2.2.2.2.2.2.2.2.1; have c9 := cell_later kB HP.out.c.2.2.2.2.2.2.2.2.2.1; have c10 := cell_later kB HP.out.c.2.2.2.2.2.2.2.2.2.2; have t0 := cell_later kB HT.out; have u0 := cell_later kB HU.out; have y1 := World.block_lt_of_cell? _ _ c0; have y2 := World.block_lt_of_cell? _ _ t0; have y3 := World.block_lt_of_cell? _ _ u0;go_simp; (try with_reducible rfl)
            (try simp only [cq])
            refine tkY 8 (some 62) ?_ ?_ ?_
            rotate_left
            · intro w _; go_simp; (try with_reducible rfl)
            (try simp only [cq])
            refine tkY 9 (some 63) ?_ ?_ ?_
            rotate_left
            · intro w _; go_simp; (try with_reducible rfl)
            (try simp only [cq])
            refine tkY 10 (some 64) ?_ ?_ ?_
            rotate_left
            · intro w hS0; (try dsimp only at hS0); have kB := hS0; have c0 := cell_later kB HP.out.c.1; have c1 := cell_later kB HP.out.c.2.1; have c2 := cell_later kB HP.out.c.2.2.1; have c3 := cell_later kB HP.out.c.2.2.2.1; have c4 := cell_later kB HP.out.c.2.2.2.2.1; have c5 := cell_later kB HP.out.c.2.2.2.2.2.1; have c6 := cell_later kB HP.out.c.2.2.2.2.2.2.1; have c7 := cell_later kB HP.out.c.2.2.2.2.2.2.2.1; have c8 := cell_later kB HP.out.c.2.2.2.2.2.2.2.2.1; have c9 := cell_later kB HP.out.c.2.2.2.2.2.2.2.2.2.1; have c10 := cell_later kB HP.out.c.2.2.2.2.2.2.2.2.2.2; have t0 := cell_later kB HT.out; have u0 := cell_later kB HU.out; have y1 := World.block_lt_of_cell? _ _ c0; have y2 := World.block_lt_of_cell? _ _ t0; have y3 := World.block_lt_of_cell? _ _ u0;go_simp; (try with_reducible rfl)
            (try simp only [cq])
            refine tkY 11 (some 65) ?_ ?_ ?_
            rotate_left
            · intro w hS0; (try dsimp only at hS0); have kB := hS0; have c0 := cell_later kB HP.out.c.1; have c1 := cell_later kB HP.out.c.2.1; have c2 := cell_later kB HP.out.c.2.2.1; have c3 := cell_later kB HP.out.c.2.2.2.1; have c4 := cell_later kB HP.out.c.2.2.2.2.1; have c5 := cell_later kB HP.out.c.2.2.2.2.2.1; have c6 := cell_later kB HP.out.c.2.2.2.2.2.2.1; have c7 := cell_later kB HP.out.c.2.2.2.2.2.2.2.1; have c8 := cell_later kB HP.out.c.2.2.2.2.2.2.2.2.1; have c9 := cell_later kB HP.out.c.2.2.2.2.2.2.2.2.2.1; have c10 := cell_later kB HP.out.c.2.2.2.2.2.2.2.2.2.2; have t0 := cell_later kB HT.out; have u0 := cell_later kB HU.out; have y1 := World.block_lt_of_cell? _ _ c0; have y2 := World.block_lt_of_cell? _ _ t0; have y3 := World.block_lt_of_cell? _ _ u0;go_simp; (try with_reducible rfl)
            (try simp only [cq])
            refine wpAnyH_ready (rs := [12]) (by kernel_rfl) (by simp) ?_
            refine arc1 (some 66) fun K hK => ?_
            go_simp
            (refine (HG1.out _ hH).mono ?_; rintro e w' ⟨rfl, hb⟩)
            refine hK.out _ _ ?_ ?_
            · (exact bwS hH (Nat.le_refl _) hb)
            (try clear hH); (try clear hb)
            intro hH
            clear hK K
            (try simp only [cq])
            refine tkY 13 (some 53) ?_ ?_ ?_
            rotate_left
            · intro w _; go_simp; (try with_reducible rfl)
            (try simp only [cq])
            refine tkY 14 (some 67) ?_ ?_ ?_
            rotate_left
            · intro w _; go_simp; (try with_reducible rfl)
            (try simp only [cq])
            refine tkY 15 (some 68) ?_ ?_ ?_
            rotate_left
            · intro w _; go_simp; (try with_reducible rfl)
            (try simp only [cq])
            refine tkY 16 (some 16) ?_ ?_ ?_
            rotate_left
            · intro w _; go_simp; (try with_reducible rfl)
            (try simp only [cq])
            refine tkY 17 (some 17) ?_ ?_ ?_
            rotate_left
            · intro w _; go_simp; (try with_reducible rfl)
            (try simp only [cq])
            refine wpAnyH_done (by kernel_rfl) ?_ _
            (try dsimp only [Act.put])
            (try simp only [cq])
            clear hB HG1
            have hB := hH
            clear hH
            go_upto_region 10 with fail
            refine wp_region_held_drew (S := (fun v => Below V.heap.size V v)) (by kernel_rfl) ?_ (fun hH => ?_)
            · (try dsimp only); (exact hB.drew)
            refine tkY 0 (some 70) ?_ ?_ ?_
            rotate_left
            · intro w _; go_simp; (try with_reducible rfl)
            (try simp only [cq])
            refine tkY 1 (some 71) ?_ ?_ ?_
            rotate_left
            · intro w _; go_simp; (try with_reducible rfl)
            (try simp only [cq])
            refine tkY 2 (some 72) ?_ ?_ ?_
            rotate_left
            · intro w hS0; (try dsimp only at hS0); have kB := hS0; have c0 := cell_later kB HP.out.c.1; have c1 := cell_later kB HP.out.c.2.1; have c2 := cell_later kB HP.out.c.2.2.1; have c3 := cell_later kB HP.out.c.2.2.2.1; have c4 := cell_later kB HP.out.c.2.2.2.2.1; have c5 := cell_later kB HP.out.c.2.2.2.2.2.1; have c6 := cell_later kB HP.out.c.2.2.2.2.2.2.1; have c7 := cell_later kB HP.out.c.2.2.2.2.2.2.2.1; have c8 := cell_later kB HP.out.c.2.2.2.2.2.2.2.2.1; have c9 := cell_later kB HP.out.c.2.2.2.2.2.2.2.2.2.1; have c10 := cell_later kB HP.out.c.2.2.2.2.2.2.2.2.2.2; have t0 := cell_later kB HT.out; have u0 := cell_later kB HU.out; have y1 := World.block_lt_of_cell? _ _ c0; have y2 := World.block_lt_of_cell? _ _ t0; have y3 := World.block_lt_of_cell? _ _ u0;go_simp; (try with_reducible rfl)
            (try simp only [cq])
            refine tkY 3 (some 73) ?_ ?_ ?_
            rotate_left
            · intro w hS0; (try dsimp only at hS0); have kB := hS0; have c0 := cell_later kB HP.out.c.1; have c1 := cell_later kB HP.out.c.2.1; have c2 := cell_later kB HP.out.c.2.2.1; have c3 := cell_later kB HP.out.c.2.2.2.1; have c4 := cell_later kB HP.out.c.2.2.2.2.1; have c5 := cell_later kB HP.out.c.2.2.2.2.2.1; have c6 := cell_later kB HP.out.c.2.2.2.2.2.2.1; have c7 := cell_later kB HP.out.c.2.2.2.2.2.2.2.1; have c8 := cell_later kB HP.out.c.2.2.2.2.2.2.2.2.1; have c9 := cell_later kB HP.out.c.2.2.2.2.2.2.2.2.2.1; have c10 := cell_later kB HP.out.c.2.2.2.2.2.2.2.2.2.2; have t0 := cell_later kB HT.out; have u0 := cell_later kB HU.out; have y1 := World.block_lt_of_cell? _ _ c0; have y2 := World.block_lt_of_cell? _ _ t0; have y3 := World.block_lt_of_cell? _ _ u0;go_simp; (try with_reducible rfl)
            (try simp only [cq])
            refine tkY 4 (some 74) ?_ ?_ ?_
            rotate_left
            · intro w _; go_simp; (try with_reducible rfl)
            (try simp only [cq])
            refine tkY 5 (some 75) ?_ ?_ ?_
            rotate_left
            · intro w _; go_simp; (try with_reducible rfl)
            (try simp only [cq])
            refine tkY 6 (some 76) ?_ ?_ ?_
            rotate_left
            · intro w hS0; (try dsimp only at hS0); have kB := hS0; have c0 := cell_later kB HP.out.c.1; have c1 := cell_later kB HP.out.c.2.1; have c2 := cell_later kB HP.out.c.2.2.1; have c3 := cell_later kB HP.out.c.2.2.2.1; have c4 := cell_later kB HP.out.c.2.2.2.2.1; have c5 := cell_later kB HP.out.c.2.2.2.2.2.1; have c6 := cell_later kB HP.out.c.2.2.2.2.2.2.1; have c7 := cell_later kB HP.out.c.2.2.2.2.2.2.2.1; have c8 := cell_later kB HP.out.c.2.2.2.2.2.2.2.2.1; have c9 := cell_later kB HP.out.c.2.2.2.2.2.2.2.2.2.1; have c10 := cell_later kB HP.out.c.2.2.2.2.2.2.2.2.2.2; have t0 := cell_later kB HT.out; have u0 := cell_later kB HU.out; have y1 := World.block_lt_of_cell? _ _ c0; have y2 := World.block_lt_of_cell? _ _ t0; have y3 := World.block_lt_of_cell? _ _ u0;go_simp; (try with_reducible rfl)
            (try simp only [cq])
            refine tkY 7 (some 77) ?_ ?_ ?_
            rotate_left
            · intro w hS0; (try dsimp only at hS0); have kB := hS0; have c0 := cell_later kB HP.out.c.1; have c1 := cell_later kB HP.out.c.2.1; have c2 := cell_later kB HP.out.c.2.2.1; have c3 := cell_later kB HP.out.c.2.2.2.1; have c4 := cell_later kB HP.out.c.2.2.2.2.1; have c5 := cell_later kB HP.out.c.2.2.2.2.2.1; have c6 := cell_later kB HP.out.c.2.2.2.2.2.2.1; have c7 := cell_later kB HP.out.c.2.2.2.2.2.2.2.1; have c8 := cell_later kB HP.out.c.2.2.2.2.2.2.2.2.1; have c9 := cell_later kB HP.out.c.2.2.2.2.2.2.2.2.2.1; have c10 := cell_later kB HP.out.c.2.2.2.2.2.2.2.2.2.2; have t0 := cell_later kB HT.out; have u0 := cell_later kB HU.out; have y1 := World.block_lt_of_cell? _ _ c0; have y2 := World.block_lt_of_cell? _ _ t0; have y3 := World.block_lt_of_cell? _ _ u0;go_simp; (try with_reducible rfl)
            (try simp only [cq])
            refine tkY 8 (some 78) ?_ ?_ ?_
            rotate_left
            · intro w _; go_simp; (try with_reducible rfl)
            (try simp only [cq])
            refine tkY 9 (some 79) ?_ ?_ ?_
            rotate_left
            · intro w _; go_simp; (try with_reducible rfl)
            (try simp only [cq])
            refine tkY 10 (some 80) ?_ ?_ ?_
            rotate_left
            · intro w hS0; (try dsimp only at hS0); have kB := hS0; have c0 := cell_later kB HP.out.c.1; have c1 := cell_later kB HP.out.c.2.1; have c2 := cell_later kB HP.out.c.2.2.1; have c3 := cell_later kB HP.out.c.2.2.2.1; have c4 := cell_later kB HP.out.c.2.2.2.2.1; have c5 := cell_later kB HP.out.c.2.2.2.2.2.1; have c6 := cell_later kB HP.out.c.2.2.2.2.2.2.1; have c7 := cell_later kB HP.out.c.2.2.2.2.2.2.2.1; have c8 := cell_later kB HP.out.c.2.2.2.2.2.2.2.2.1; have c9 := cell_later kB HP.out.c.2.2.2.2.2.2.2.2.2.1; have c10 := cell_later kB HP.out.c.2.2.2.2.2.2.2.2.2.2; have t0 := cell_later kB HT.out; have u0 := cell_later kB HU.out; have y1 := World.block_lt_of_cell? _ _ c0; have y2 := World.block_lt_of_cell? _ _ t0; have y3 := World.block_lt_of_cell? _ _ u0;go_simp; (try with_reducible rfl)
            (try simp only [cq])
            refine tkY 11 (some 81) ?_ ?_ ?_
            rotate_left
            · intro w hS0; (try dsimp only at hS0); have kB := hS0; have c0 := cell_later kB HP.out.c.1; have c1 := cell_later kB HP.out.c.2.1; have c2 := cell_later kB HP.out.c.2.2.1; have c3 := cell_later kB HP.out.c.2.2.2.1; have c4 := cell_later kB HP.out.c.2.2.2.2.1; have c5 := cell_later kB HP.out.c.2.2.2.2.2.1; have c6 := cell_later kB HP.out.c.2.2.2.2.2.2.1; have c7 := cell_later kB HP.out.c.2.2.2.2.2.2.2.1; have c8 := cell_later kB HP.out.c.2.2.2.2.2.2.2.2.1; have c9 := cell_later kB HP.out.c.2.2.2.2.2.2.2.2.2.1; have c10 := cell_later kB HP.out.c.2.2.2.2.2.2.2.2.2.2; have t0 := cell_later kB HT.out; have u0 := cell_later kB HU.out; have y1 := World.block_lt_of_cell? _ _ c0; have y2 := World.block_lt_of_cell? _ _ t0; have y3 := World.block_lt_of_cell? _ _ u0;go_simp; (try with_reducible rfl)
            (try simp only [cq])
            refine wpAnyH_ready (rs := [12]) (by kernel_rfl) (by simp) ?_
            refine arc1 (some 82) fun K hK => ?_
            go_simp
            (refine (HG2.out _ hH).mono ?_; rintro e w' ⟨rfl, hb⟩)
            refine hK.out _ _ ?_ ?_
            · (exact bwS hH (Nat.le_refl _) hb)
            (try clear hH); (try clear hb)
            intro hH
            clear hK K
            (try simp only [cq])
            refine tkY 13 (some 69) ?_ ?_ ?_
            rotate_left
            · intro w _; go_simp; (try with_reducible rfl)
            (try simp only [cq])
            refine tkY 14 (some 83) ?_ ?_ ?_
            rotate_left
            · intro w _; go_simp; (try with_reducible rfl)
            (try simp only [cq])
            refine tkY 15 (some 84) ?_ ?_ ?_
            rotate_left
            · intro w _; go_simp; (try with_reducible rfl)
            (try simp only [cq])
            refine tkY 16 (some 18) ?_ ?_ ?_
            rotate_left
            · intro w _; go_simp; (try with_reducible rfl)
            (try simp only [cq])
            refine tkY 17 (some 19) ?_ ?_ ?_
            rotate_left
            · intro w _; go_simp; (try with_reducible rfl)
            (try simp only [cq])
            refine wpAnyH_done (by kernel_rfl) ?_ _
            (try dsimp only [Act.put])
            (try simp only [cq])
            clear hB HG2
            have hB := hH
            clear hH
            go_wp2
            go_roundw
            case rel => exact ⟨k + 1, by omega, by go_num, hB⟩
            case measure => simp [intOf]; omega
          · have jB := bwS HB.out (by have := HB.out.size; omega) hB
            clear hB HRd
            go_wp2_with fail
            refine (awake_any _).mono ?_
            rintro e w9 ⟨rfl, hb⟩
            replace jB := bwS jB (Nat.le_refl _) hb
            go_wp2
            go_ret
            exact ⟨rfl, jB⟩
end Go.Proofs.Ytfakmggabicdjaa
