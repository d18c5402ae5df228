/-
  BearPlaces says yes.
-/
import Derived.Test.YtfakmggabicdjaaTail
import Derived.Test.YtfakmggabicdjaaLane
import Derived.Test.YtfakmggabicdjaaMade
import Derived.Test.YtfakmggabicdjaaAwk2
set_option linter.unusedVariables false
set_option linter.unusedSimpArgs false
namespace Go.Proofs.Ytfakmggabicdjaa
open Go.RowKit

def cntV (f : Nat → Int) (v : Int) : Nat → Nat
  | 0 => 0
  | n + 1 => if f n = v then cntV f v n + 1 else cntV f v n
theorem cntV_le (f : Nat → Int) (v : Int) : ∀ n, cntV f v n ≤ n
  | 0 => Nat.le_refl _
  | n + 1 => by
    rw [cntV]
    have := cntV_le f v n
    split <;> omega
theorem cntV_all (f : Nat → Int) (v : Int) : ∀ n, cntV f v n = n ↔ ∀ i, i < n → f i = v
  | 0 => by simp [cntV]
  | n + 1 => by
    have h := cntV_all f v n
    have hle := cntV_le f v n
    rw [cntV]
    by_cases e : f n = v
    · rw [if_pos e]
      constructor
      · intro q i hi
        by_cases e2 : i = n
        · subst e2; exact e
        · exact h.1 (by omega) i (by omega)
      · intro q
        have := h.2 (fun i hi => q i (by omega))
        omega
    · rw [if_neg e]
      constructor
      · intro q; omega
      · intro q; exact absurd (q n (by omega)) e
theorem comm_cnt (f : Nat → Int) (n : Nat) (hn : 0 < n) (v : Int) (hv : v ≠ 3) : commV f n = v ↔ cntV f v n = n := by
  rw [cntV_all]
  constructor
  · intro h
    by_cases e : ∀ i, i < n → f i = f 0
    · rw [commV_same e] at h
      exact fun i hi => (e i hi).trans h
    · have : commV f n = 3 := if_neg (fun q => e ((eqAll_iff f n).1 q))
      omega
  · intro h
    have h0 := h 0 hn
    rw [commV_same (fun i hi => by rw [h i hi, h0]), h0]
theorem ints1 {W : World} {b : Nat} {t : TypeId} {a : Int} (h : Blk W b #[.int .i64 a] t) : IntsAt W (.slice (some ⟨b, 0, none⟩) 1 1) 1 (fun _ => a) :=
  ⟨_, 1, rfl, by decide, by decide, fun _ => ⟨b, 0, rfl, fun i hi => by
    obtain rfl : i = 0 := by omega
    exact h.cell 0 rfl⟩⟩
theorem verd_in {p : Pl} {I0 I1 : Nat → Int} {nc : Nat} {C0 C1 : Nat → Int} {n : Nat} {L : Nat → Ld} (x : Ld) : verdV p I0 I1 nc C0 C1 n L x = 1 ∨ verdV p I0 I1 nc C0 C1 n L x = 2 ∨ verdV p I0 I1 nc C0 C1 n L x = 3 := by
  unfold verdV
  cases bearsV p false I0 I1 nc C0 C1 n L x <;> cases bearsV p true I0 I1 nc C0 C1 n L x <;> simp

set_option maxRecDepth 100000 in
set_option maxHeartbeats 16000000 in
theorem bplaces_any (a : Option Addr) (len cap : Nat) (w : World) (hn : NumsAt w a len) :
    Calls Try.prog 16 #[.slice a len cap] w fun e w' => e = .returned (.bool true) ∧ Below w.heap.size w w' := by
  go_enter Try.func16, Try.ntmps16
  go_wp2_with fail
  refine (newseed_at a len cap _ hn).mono ?_
  rintro e wa ⟨rfl, hS, jB⟩
  clear hn
  obtain ⟨bs, hbs⟩ : ∃ b, w.heap.size = b := ⟨_, rfl⟩
  have zwbs : w.heap.size ≤ bs := by omega
  rw [hbs] at hS ⊢
  have hb1 : bs < wa.heap.size := hS.choose_spec.lt
  have HBS := Lib.hid hbs
  clear hbs
  go_wp2_with fail
  refine (plateof_in bs wa hS).mono ?_
  rintro e w2 ⟨p, vS, vC, rfl, hp, rS, rC, hd⟩
  replace jB := Drawn.below jB hd zwbs
  replace hS := hd.seed
  replace rS := ownsRow_base (b1 := bs + 1) rS (by omega)
  replace rC := ownsRow_base (b1 := bs + 1) rC (by omega)
  clear hd hb1
  obtain ⟨aS, cS, rfl, _, _, _⟩ := pairs_of_row rS
  obtain ⟨aC, cC, rfl, _, _, _⟩ := pairs_of_row rC
  have HP := Lib.hid hp
  clear hp
  go_wp2_with fail
  refine (bedsof_in 2 (by decide) bs _ hS).mono ?_
  rintro e w3 ⟨ni, I0, I1, vI, rfl, ni1, ni2', hI, rI, hd⟩
  have ni2 : ni ≤ 2 := by omega
  clear ni2'
  have zz := hS.choose_spec.lt
  replace rI := ownsRow_base (b1 := bs + 1) rI (by omega)
  clear zz
  replace rS := hd.row rS (by omega)
  replace rC := hd.row rC (by omega)
  replace jB := Drawn.below jB hd zwbs
  replace hS := hd.seed
  clear hd
  obtain ⟨aI, cI, rfl, _, _, _⟩ := pairs_of_row rI
  have HI := Lib.hid hI
  clear hI
  have jP := Blk.new w3 #[.int .i64 p.s0, .int .i64 p.s1, (.slice aS p.S.n cS), (.slice aC p.C.n cC), .int .i64 p.ne, .int .i64 p.ed, .int .i64 p.gr, .int .i64 p.lo, .int .i64 p.hi, .int .i64 p.sh, .int .i64 p.wi] 26
  go_upto_region 3 with fail
  obtain ⟨bP, hbP⟩ : ∃ b, w3.heap.size = b := ⟨_, rfl⟩
  have zsP : bs < bP := by rw [← hbP]; exact hS.choose_spec.lt
  rw [hbP] at jP
  (try rw [hbP])
  clear hbP
  replace rS := rS.alloc (.cells #[.int .i64 p.s0, .int .i64 p.s1, (.slice aS p.S.n cS), (.slice aC p.C.n cC), .int .i64 p.ne, .int .i64 p.ed, .int .i64 p.gr, .int .i64 p.lo, .int .i64 p.hi, .int .i64 p.sh, .int .i64 p.wi] 26)
  replace rC := rC.alloc (.cells #[.int .i64 p.s0, .int .i64 p.s1, (.slice aS p.S.n cS), (.slice aC p.C.n cC), .int .i64 p.ne, .int .i64 p.ed, .int .i64 p.gr, .int .i64 p.lo, .int .i64 p.hi, .int .i64 p.sh, .int .i64 p.wi] 26)
  replace rI := rI.alloc (.cells #[.int .i64 p.s0, .int .i64 p.s1, (.slice aS p.S.n cS), (.slice aC p.C.n cC), .int .i64 p.ne, .int .i64 p.ed, .int .i64 p.gr, .int .i64 p.lo, .int .i64 p.hi, .int .i64 p.sh, .int .i64 p.wi] 26)
  replace hS : SeedAt bs _ := hS.imp fun _ h => h.alloc (.cells #[.int .i64 p.s0, .int .i64 p.s1, (.slice aS p.S.n cS), (.slice aC p.C.n cC), .int .i64 p.ne, .int .i64 p.ed, .int .i64 p.gr, .int .i64 p.lo, .int .i64 p.hi, .int .i64 p.sh, .int .i64 p.wi] 26)
  replace jB := bwA jB (Nat.le_refl _) (.cells #[.int .i64 p.s0, .int .i64 p.s1, (.slice aS p.S.n cS), (.slice aC p.C.n cC), .int .i64 p.ne, .int .i64 p.ed, .int .i64 p.gr, .int .i64 p.lo, .int .i64 p.hi, .int .i64 p.sh, .int .i64 p.wi] 26)
  generalize w3.alloc (.cells #[.int .i64 p.s0, .int .i64 p.s1, (.slice aS p.S.n cS), (.slice aC p.C.n cC), .int .i64 p.ne, .int .i64 p.ed, .int .i64 p.gr, .int .i64 p.lo, .int .i64 p.hi, .int .i64 p.sh, .int .i64 p.wi] 26) = V at jP rS rC rI hS jB ⊢
  go_wp2_with fail
  refine (cracksof_in ni 2 (by omega) (by decide) bs _ hS).mono ?_
  rintro e w4 ⟨nc, C0, C1, vK, rfl, nc2', hC, rK, hd⟩
  have nc2 : nc ≤ 2 := by omega
  clear nc2'
  have zz := hS.choose_spec.lt
  replace rK := ownsRow_base (b1 := bs + 1) rK (by omega)
  clear zz
  replace rS := hd.row rS (by omega)
  replace rC := hd.row rC (by omega)
  replace rI := hd.row rI (by omega)
  replace jP := hd.blk jP (by omega)
  replace jB := Drawn.below jB hd zwbs
  replace hS := hd.seed
  clear hd
  obtain ⟨aK, cK, rfl, _, _, _⟩ := pairs_of_row rK
  have HC := Lib.hid hC
  clear hC
  go_wp2_with fail
  refine (of2_in 10000 40000 10000 40000 bs _ _ (by simp) hS (by decide) (by decide) (by decide) (by decide)).mono ?_
  rintro e w5 ⟨hi5, rfl, h50, h51, hd⟩
  replace rS := hd.row (rS.alloc (.cells #[.int .i64 10000, .int .i64 40000] 3)) (by omega)
  replace rC := hd.row (rC.alloc (.cells #[.int .i64 10000, .int .i64 40000] 3)) (by omega)
  replace rI := hd.row (rI.alloc (.cells #[.int .i64 10000, .int .i64 40000] 3)) (by omega)
  replace rK := hd.row (rK.alloc (.cells #[.int .i64 10000, .int .i64 40000] 3)) (by omega)
  replace jP := hd.blk (jP.alloc (.cells #[.int .i64 10000, .int .i64 40000] 3)) (by omega)
  replace jB := Drawn.below (bwA jB (Nat.le_refl _) (.cells #[.int .i64 10000, .int .i64 40000] 3)) hd zwbs
  replace hS := hd.seed
  clear hd
  go_wp2_with fail
  refine (kspan_in 0 hi5 bs _ hS (by decide) (by omega) (by omega)).mono ?_
  rintro e w6 ⟨w0, w1, rfl, w00, w01, w11, hd⟩
  have w12 : w1 ≤ 40000 := by omega
  clear w11 h50 h51
  replace rS := hd.row rS (by omega)
  replace rC := hd.row rC (by omega)
  replace rI := hd.row rI (by omega)
  replace rK := hd.row rK (by omega)
  replace jP := hd.blk jP (by omega)
  replace jB := Drawn.below jB hd zwbs
  clear hd hS
  have jW := Blk.new w6 #[.int .i64 w0, .int .i64 w1] 23
  go_upto_region 4 with fail
  obtain ⟨bW, hbW⟩ : ∃ b, w6.heap.size = b := ⟨_, rfl⟩
  have zPW : bP < bW := by rw [← hbW]; exact jP.lt
  have zwW : w.heap.size ≤ bW := by rw [← hbW]; exact jB.size
  rw [hbW] at jW
  (try rw [hbW])
  clear hbW
  replace rS := pairs_of_row (rS.alloc (.cells #[.int .i64 w0, .int .i64 w1] 23))
  replace rC := pairs_of_row (rC.alloc (.cells #[.int .i64 w0, .int .i64 w1] 23))
  replace rI := pairs_of_row (rI.alloc (.cells #[.int .i64 w0, .int .i64 w1] 23))
  replace rK := pairs_of_row (rK.alloc (.cells #[.int .i64 w0, .int .i64 w1] 23))
  replace jP := jP.alloc (.cells #[.int .i64 w0, .int .i64 w1] 23)
  replace jB := bwA jB (Nat.le_refl _) (.cells #[.int .i64 w0, .int .i64 w1] 23)
  generalize w6.alloc (.cells #[.int .i64 w0, .int .i64 w1] 23) = V4 at jP jW rS rC rI rK jB ⊢
  obtain ⟨c0, c1, c2, c3, c4, c5, c6, c7, c8, c9, c10⟩ := jP.c11
  obtain ⟨x0, x1⟩ := jW.c2
  have y1 := jP.lt
  have y2 := jW.lt
  go_wp2_with fail
  clear c0 c1 c2 c3 c4 c5 c6 c7 c8 c9 c10 x0 x1 y1 y2
  refine (lane_valid HP.out (by omega) (fun i hi => by have := HI.out i hi; omega) (by omega) (fun i hi => by have := HC.out i hi; omega) ⟨w00, w01, by omega⟩ _ _ _ _ _ rS rC rI rK).mono ?_
  rintro e W0 ⟨vR, rfl, rR, hb⟩
  replace rR := ints_of_row rR
  replace rS := PairsAt.later rS hb
  replace rC := PairsAt.later rC hb
  replace rI := rI.later hb
  replace rK := rK.later hb
  replace jP := jP.call hb
  replace jW := jW.call hb
  replace jB := bwS jB (Nat.le_refl _) hb
  clear hb
  obtain ⟨aR, cR, rfl, _, _, _⟩ := id rR
  obtain ⟨X, hX⟩ : ∃ X : Nat → Int, X = fun pl => commV (laneV p I0 I1 nc C0 C1 w0 w1 pl) 100 := ⟨_, rfl⟩
  rw [← hX] at rR
  have HX := Lib.hid hX
  clear hX
  have RX := Lib.hid rR
  have HB := Lib.hid jB
  have HK := Lib.hid (And.intro jP jW)
  have HHo : Hid (∀ (k j : Nat), k < ni → j < 100 → ∀ W v, Below W0.heap.size W0 W → LoadsAt W v 1 (fun _ => laneX w0 w1 k j) → Calls Try.prog 35 #[.agg #[.int .i64 p.s0, .int .i64 p.s1, (.slice aS p.S.n cS), (.slice aC p.C.n cC), .int .i64 p.ne, .int .i64 p.ed, .int .i64 p.gr, .int .i64 p.lo, .int .i64 p.hi, .int .i64 p.sh, .int .i64 p.wi], (.slice aI ni cI), (.slice aK nc cK), v] W fun e w' => ∃ u, e = .returned (.tuple #[u, .int .i64 0]) ∧ IntsAt w' u 1 (fun _ => laneV p I0 I1 nc C0 C1 w0 w1 k j) ∧ Below W.heap.size W w') := fun k j hk hj W v hW hL =>
    (holds_valid HP.out (by omega) (fun i hi => by have := HI.out i hi; omega) (by omega) (fun i hi => by have := HC.out i hi; omega) (by decide) (fun i hi => ⟨by simp only [laneX]; omega, by simp only [laneX]; omega, w00, w01, by simp only [laneX]; omega, by simp only [laneX]; omega, by simp only [laneX]; omega⟩) _ _ _ _ v W (PairsAt.later rS hW) (PairsAt.later rC hW) (rI.later hW) (rK.later hW) hL).mono fun e w' ⟨u, he, hr, hb⟩ => ⟨u, he, ints_of_row hr, hb⟩
  clear rS rC rI rK jP jW jB rR HI HC HP
  have hmk : ∀ W : World, (Instr.makeSlice 27 (.int .i64 4) (.int .i64 4)).run Try.prog W = .ok (.slice (some ⟨W.heap.size, 0, none⟩) 4 4) (W.alloc (.cells #[.int .i64 0, .int .i64 0, .int .i64 0, .int .i64 0] 3)) := fun _ => by kernel_rfl
  have zW0 : bP < W0.heap.size ∧ bW < W0.heap.size := ⟨HK.out.1.lt, HK.out.2.lt⟩
  go_wp2_with fail
  go_loopw [10] (fun i wr => ∃ k : Nat, k ≤ ni ∧ i = .int .i64 k ∧ Below W0.heap.size W0 wr) (fun i _ => ni - (intOf i).toNat)
  case atStart => exact ⟨0, Nat.zero_le _, rfl, Below.refl _ _⟩
  case round =>
    obtain ⟨k, hk, rfl, hB⟩ := hrel
    by_cases hlt2 : k < ni
    · have ek1 : IntKind.i64.wrap (100 * (k : Int)) = 100 * (k : Int) := IntWalk.i64_in _ (by omega)
      have ek2 : IntKind.i64.wrap (100 * (k : Int) + 100) = 100 * (k : Int) + 100 := IntWalk.i64_in _ (by omega)
      obtain ⟨f, hf⟩ : ∃ f : Nat → Int, f = laneV p I0 I1 nc C0 C1 w0 w1 k := ⟨_, rfl⟩
      have HH : Hid (∀ j, j < 100 → ∀ W v, Below W0.heap.size W0 W → LoadsAt W v 1 (fun _ => laneX w0 w1 k j) → Calls Try.prog 35 #[.agg #[.int .i64 p.s0, .int .i64 p.s1, (.slice aS p.S.n cS), (.slice aC p.C.n cC), .int .i64 p.ne, .int .i64 p.ed, .int .i64 p.gr, .int .i64 p.lo, .int .i64 p.hi, .int .i64 p.sh, .int .i64 p.wi], (.slice aI ni cI), (.slice aK nc cK), v] W fun e w' => ∃ u, e = .returned (.tuple #[u, .int .i64 0]) ∧ IntsAt w' u 1 (fun _ => f j) ∧ Below W.heap.size W w') := fun j hj => by rw [hf]; exact HHo.out k j hlt2 hj
      have Hf3 : Hid (∀ j, f j = 1 ∨ f j = 2 ∨ f j = 3) := fun j => by rw [hf]; exact verd_in _
      have hxk : X k = commV f 100 := by rw [HX.out, hf]
      have HXk := Lib.hid hxk
      clear hxk
      clear hf
      have jC := Blk.new wr #[.int .i64 0, .int .i64 0, .int .i64 0, .int .i64 0] 3
      go_upto_region 11 with fail
      obtain ⟨bC, hbC⟩ : ∃ b, wr.heap.size = b := ⟨_, rfl⟩
      have zC0 : W0.heap.size ≤ bC := by rw [← hbC]; exact hB.size
      rw [hbC] at jC
      (try rw [hbC])
      clear hbC
      replace hB := bwA hB (Nat.le_refl _) (.cells #[.int .i64 0, .int .i64 0, .int .i64 0, .int .i64 0] 3)
      generalize wr.alloc (.cells #[.int .i64 0, .int .i64 0, .int .i64 0, .int .i64 0] 3) = V5 at jC hB ⊢
      go_wp2_with fail
      go_loopw [12] (fun i wx => ∃ j : Nat, j ≤ 100 ∧ i = .int .i64 (100 * (k : Int) + (j : Int)) ∧ Blk wx bC #[.int .i64 0, .int .i64 (cntV f 1 j : Nat), .int .i64 (cntV f 2 j : Nat), .int .i64 (cntV f 3 j : Nat)] 3 ∧ Below W0.heap.size W0 wx) (fun i _ => 100 - ((intOf i).toNat - 100 * k))
      case atStart => exact ⟨0, by omega, by simp, jC, hB⟩
      case round =>
        clear jC hB
        obtain ⟨j, hj, rfl, jC, jB⟩ := hrel
        by_cases hlt3 : j < 100
        · have em : IntKind.i64.wrap (100 * (k : Int) + (j : Int) + 1) = 100 * (k : Int) + ((j + 1 : Nat) : Int) := by rw [IntWalk.i64_in _ (by omega)]; omega
          have hm1 : 100 * (k : Int) + (j : Int) < 100 * (k : Int) + 100 := by omega
          have hm2 : ¬ 100 * (k : Int) + 100 ≤ 100 * (k : Int) + (j : Int) := by omega
          have HHj := Lib.hid (HH.out j hlt3)
          have HF3 := Hf3.out j
          obtain ⟨fv, hfv⟩ : ∃ x, f j = x := ⟨_, rfl⟩
          rw [hfv] at HHj HF3
          have HFj := Lib.hid hfv
          have HF3 := Lib.hid HF3
          clear hfv
          go_upto_region 14 with fail
          refine wp_region_held_drew (S := (fun w' => Blk w' bC #[.int .i64 0, .int .i64 (cntV f 1 j : Nat), .int .i64 (cntV f 2 j : Nat), .int .i64 (cntV f 3 j : Nat)] 3 ∧ Below W0.heap.size W0 w')) (by kernel_rfl) ?_ (fun hH => ?_)
          · (try dsimp only); (exact ⟨jC.drew, jB.drew⟩)
          refine tkY 0 (some 64) ?_ ?_ ?_
          rotate_left
          · intro w hS0; (try dsimp only at hS0); obtain ⟨_, q9⟩ := hS0; have kP := HK.out.1.call q9; have kW := HK.out.2.call q9; obtain ⟨c0, c1, c2, c3, c4, c5, c6, c7, c8, c9, c10⟩ := kP.c11; obtain ⟨g0, g1⟩ := kW.c2; have y1 := kP.lt; have y2 := kW.lt;go_simp; (try with_reducible rfl)
          (try simp only [cq])
          refine tkY 1 (some 65) ?_ ?_ ?_
          rotate_left
          · intro w _; go_simp; (try with_reducible rfl)
          (try simp only [cq])
          refine tkY 2 (some 66) ?_ ?_ ?_
          rotate_left
          · intro w _; go_simp; (try with_reducible rfl)
          (try simp only [cq])
          refine tkY 3 (some 67) ?_ ?_ ?_
          rotate_left
          · intro w hS0; (try dsimp only at hS0); obtain ⟨_, q9⟩ := hS0; have kP := HK.out.1.call q9; have kW := HK.out.2.call q9; obtain ⟨c0, c1, c2, c3, c4, c5, c6, c7, c8, c9, c10⟩ := kP.c11; obtain ⟨g0, g1⟩ := kW.c2; have y1 := kP.lt; have y2 := kW.lt;go_simp; (try with_reducible rfl)
          (try simp only [cq])
          refine tkY 4 (some 68) ?_ ?_ ?_
          rotate_left
          · intro w _; go_simp; (try with_reducible rfl)
          (try simp only [cq])
          refine wpAnyH_ready (rs := [5]) (by kernel_rfl) (by simp) ?_
          refine arc1 (some 69) fun K hK => ?_
          go_simp
          first | refine oA hK ?_ (fun hH hA => ?_) | refine oD hK ?_ (fun hH hA => ?_)
          · exact ⟨hH.1.alloc _, bwA hH.2 (Nat.le_refl _) _⟩
          have kN := hA
          clear hA
          obtain ⟨bN, hbN⟩ : ∃ b, Blk.num kN = b := ⟨_, rfl⟩
          obtain ⟨Wn, hWn⟩ : ∃ V, Blk.wld kN = V := ⟨_, rfl⟩
          simp only [Blk.num] at hbN
          simp only [Blk.wld] at hWn
          rw [hWn] at hH kN ⊢
          rw [hbN] at kN ⊢
          clear hbN hWn
          clear hK K
          (try simp only [cq])
          refine wpAnyH_ready (rs := [6]) (by kernel_rfl) (by simp) ?_
          refine arc1 (some 70) fun K hK => ?_
          go_simp
          (refine (kloads_any w0 w1 1 _ (fun _ => 100 * (k : Int) + (j : Int)) (by decide) _ (ints1 kN)).mono ?_; rintro e w' ⟨u, rfl, hL, hb⟩; clear kN)
          refine hK.out _ _ ?_ ?_
          · (exact ⟨hH.1.call hb, bwS hH.2 (Nat.le_refl _) hb⟩)
          (try clear hH); (try clear hb)
          intro hH
          clear hK K
          (try simp only [cq])
          refine wpAnyH_ready (rs := [7]) (by kernel_rfl) (by simp) ?_
          refine arc1 (some 71) fun K hK => ?_
          go_simp
          (refine (HHj.out _ _ hH.2 hL).mono ?_; rintro e w' ⟨v, rfl, rv, hb⟩; clear hL)
          refine hK.out _ _ ?_ ?_
          · (exact ⟨hH.1.call hb, bwS hH.2 (Nat.le_refl _) hb⟩)
          (try clear hH); (try clear hb)
          intro hH
          clear hK K
          (try simp only [cq])
          refine tkY 8 (some 63) ?_ ?_ ?_
          rotate_left
          · intro w _; go_simp; (try with_reducible rfl)
          (try simp only [cq])
          refine tkY 9 (some 72) ?_ ?_ ?_
          rotate_left
          · intro w _; go_simp; (try with_reducible rfl)
          (try simp only [cq])
          refine tkY 10 (some 73) ?_ ?_ ?_
          rotate_left
          · intro w _; go_simp; (try with_reducible rfl)
          (try simp only [cq])
          refine tkY 11 (some 13) ?_ ?_ ?_
          rotate_left
          · intro w _; go_simp; (try with_reducible rfl)
          (try simp only [cq])
          refine tkY 12 (some 14) ?_ ?_ ?_
          rotate_left
          · intro w _; go_simp; (try with_reducible rfl)
          (try simp only [cq])
          refine wpAnyH_done (by kernel_rfl) ?_ _
          (try dsimp only [Act.put])
          (try simp only [cq])
          clear jC jB HHj
          obtain ⟨jC, jB⟩ := hH
          obtain ⟨av, cv, rfl, _, _, hv⟩ := rv
          obtain ⟨bv, ov, rfl, hc⟩ := hv (by decide)
          have v0 := hc 0 (by decide)
          simp only [Nat.add_zero] at v0
          clear hv hc
          have zv := World.block_lt_of_cell? _ _ v0
          rcases HF3.out with hv | hv | hv
          · subst hv
            have E1 : Hid (cntV f 1 (j + 1) = cntV f 1 j + 1 ∧ ∀ v, v ≠ 1 → cntV f v (j + 1) = cntV f v j) := ⟨by rw [cntV, if_pos HFj.out], fun v h => by rw [cntV, if_neg (by rw [HFj.out]; exact h.symm)]⟩
            clear HFj
            obtain ⟨t0, t1, t2, t3⟩ := jC.c4
            obtain ⟨d, hd⟩ : ∃ d : Nat, cntV f 1 j = d := ⟨_, rfl⟩
            have hd100 : d ≤ 100 := by have := cntV_le f 1 j; omega
            have ewd : IntKind.i64.wrap ((d : Int) + 1) = (d : Int) + 1 := IntWalk.i64_in _ (by omega)
            rw [hd] at t1
            have f1 := jC.free 1
            have zC := jC.lt
            have kC := jC.set 1 (.int .i64 ((d : Int) + 1))
            have kB := jB.setCell (p := ⟨bC, 1, none⟩) (by simp; omega) (.int .i64 ((d : Int) + 1))
            have HD := Lib.hid hd
            clear hd jC jB
            go_wp2
            go_roundw
            case rel => exact ⟨j + 1, by omega, by go_num, kC.eq (by
                have e1 := E1.out.1
                have e2 := E1.out.2
                rw [HD.out] at e1
                simp [e1, e2 2 (by decide), e2 3 (by decide)]), kB⟩
            case measure => simp [intOf]; omega
          · subst hv
            have E1 : Hid (cntV f 2 (j + 1) = cntV f 2 j + 1 ∧ ∀ v, v ≠ 2 → cntV f v (j + 1) = cntV f v j) := ⟨by rw [cntV, if_pos HFj.out], fun v h => by rw [cntV, if_neg (by rw [HFj.out]; exact h.symm)]⟩
            clear HFj
            obtain ⟨t0, t1, t2, t3⟩ := jC.c4
            obtain ⟨d, hd⟩ : ∃ d : Nat, cntV f 2 j = d := ⟨_, rfl⟩
            have hd100 : d ≤ 100 := by have := cntV_le f 2 j; omega
            have ewd : IntKind.i64.wrap ((d : Int) + 1) = (d : Int) + 1 := IntWalk.i64_in _ (by omega)
            rw [hd] at t2
            have f1 := jC.free 2
            have zC := jC.lt
            have kC := jC.set 2 (.int .i64 ((d : Int) + 1))
            have kB := jB.setCell (p := ⟨bC, 2, none⟩) (by simp; omega) (.int .i64 ((d : Int) + 1))
            have HD := Lib.hid hd
            clear hd jC jB
            go_wp2
            go_roundw
            case rel => exact ⟨j + 1, by omega, by go_num, kC.eq (by
                have e1 := E1.out.1
                have e2 := E1.out.2
                rw [HD.out] at e1
                simp [e1, e2 1 (by decide), e2 3 (by decide)]), kB⟩
            case measure => simp [intOf]; omega
          · subst hv
            have E1 : Hid (cntV f 3 (j + 1) = cntV f 3 j + 1 ∧ ∀ v, v ≠ 3 → cntV f v (j + 1) = cntV f v j) := ⟨by rw [cntV, if_pos HFj.out], fun v h => by rw [cntV, if_neg (by rw [HFj.out]; exact h.symm)]⟩
            clear HFj
            obtain ⟨t0, t1, t2, t3⟩ := jC.c4
            obtain ⟨d, hd⟩ : ∃ d : Nat, cntV f 3 j = d := ⟨_, rfl⟩
            have hd100 : d ≤ 100 := by have := cntV_le f 3 j; omega
            have ewd : IntKind.i64.wrap ((d : Int) + 1) = (d : Int) + 1 := IntWalk.i64_in _ (by omega)
            rw [hd] at t3
            have f1 := jC.free 3
            have zC := jC.lt
            have kC := jC.set 3 (.int .i64 ((d : Int) + 1))
            have kB := jB.setCell (p := ⟨bC, 3, none⟩) (by simp; omega) (.int .i64 ((d : Int) + 1))
            have HD := Lib.hid hd
            clear hd jC jB
            go_wp2
            go_roundw
            case rel => exact ⟨j + 1, by omega, by go_num, kC.eq (by
                have e1 := E1.out.1
                have e2 := E1.out.2
                rw [HD.out] at e1
                simp [e1, e2 1 (by decide), e2 2 (by decide)]), kB⟩
            case measure => simp [intOf]; omega
        · obtain rfl : j = 100 := by omega
          obtain ⟨d1, hd1⟩ : ∃ d : Int, ((cntV f 1 100 : Nat) : Int) = d := ⟨_, rfl⟩
          obtain ⟨d2, hd2⟩ : ∃ d : Int, ((cntV f 2 100 : Nat) : Int) = d := ⟨_, rfl⟩
          have n1 := comm_cnt f 100 (by decide) 1 (by decide)
          have n2 := comm_cnt f 100 (by decide) 2 (by decide)
          rw [← HXk.out] at n1 n2
          have HX1 : Hid (X k = 1 → d1 = 100 ∧ d2 ≠ 100) := fun h => by
            have := n1.1 h
            refine ⟨by omega, fun q => ?_⟩
            have := n2.2 (by omega)
            omega
          have HX2 : Hid (X k = 2 → d1 ≠ 100 ∧ d2 = 100) := fun h => by
            have := n2.1 h
            refine ⟨fun q => ?_, by omega⟩
            have := n1.2 (by omega)
            omega
          have HX3 : Hid (X k = 3 → d1 ≠ 100 ∧ d2 ≠ 100) := fun h => by
            refine ⟨fun q => ?_, fun q => ?_⟩
            · have := n1.2 (by omega)
              omega
            · have := n2.2 (by omega)
              omega
          have HXv : X k = 1 ∨ X k = 2 ∨ X k = 3 := by
            by_cases e1 : X k = 1
            · exact .inl e1
            · by_cases e2 : X k = 2
              · exact .inr (.inl e2)
              · refine .inr (.inr ?_)
                rw [HXk.out] at e1 e2 ⊢
                unfold commV at e1 e2 ⊢
                rcases Hf3.out 0 with g | g | g <;> by_cases q : eqAll f 100 = true <;> simp_all
          clear n1 n2
          rw [hd1, hd2] at jC
          obtain ⟨_, t1, t2, _⟩ := jC.c4
          clear hd1 hd2 jC HH Hf3 HXk
          obtain ⟨a1, c1, hv1, _, _, h1⟩ := RX.out
          simp only [Value.slice.injEq] at hv1
          obtain ⟨rfl, _, rfl⟩ := hv1
          obtain ⟨b1, o1, rfl, hc1⟩ := h1 (by omega)
          have r1 := cell_later jB (hc1 k hlt2)
          clear h1 hc1
          obtain ⟨xv, hxv⟩ : ∃ x, X k = x := ⟨_, rfl⟩
          rw [hxv] at r1 HX1 HX2 HX3 HXv
          clear hxv
          have z1 := World.block_lt_of_cell? _ _ r1
          rcases HXv with hx | hx | hx
          · subst hx
            obtain ⟨h1, h2⟩ := HX1.out rfl
            have e2 : (d2 == 100) = false := by simpa using h2
            subst h1
            clear h2
            clear HX1 HX2 HX3
            go_upto_region 18 with fail
            refine wp_region_held_drew (S := (fun v => v.cell? ⟨b1, o1 + k, none⟩ = some (.int .i64 1) ∧ v.cell? ⟨bC, 1, none⟩ = some (.int .i64 100) ∧ v.cell? ⟨bC, 2, none⟩ = some (.int .i64 d2) ∧ Below W0.heap.size W0 v)) (by kernel_rfl) ?_ (fun hH => ?_)
            · (try dsimp only); (exact ⟨r1, t1, t2, jB.drew⟩)
            refine tkY 0 (some 101) ?_ ?_ ?_
            rotate_left
            · intro w _; go_simp; (try with_reducible rfl)
            (try simp only [cq])
            refine tkY 1 (some 102) ?_ ?_ ?_
            rotate_left
            · intro w _; go_simp; (try with_reducible rfl)
            (try simp only [cq])
            refine tkY 2 (some 103) ?_ ?_ ?_
            rotate_left
            · intro w hS0; (try dsimp only at hS0); obtain ⟨g1, g2, g3, _⟩ := hS0; have y1 := World.block_lt_of_cell? _ _ g1; have y2 := World.block_lt_of_cell? _ _ g2; have y3 := World.block_lt_of_cell? _ _ g3;go_simp; (try with_reducible rfl)
            (try simp only [cq])
            refine tkY 3 (some 104) ?_ ?_ ?_
            rotate_left
            · intro w hS0; (try dsimp only at hS0); obtain ⟨g1, g2, g3, _⟩ := hS0; have y1 := World.block_lt_of_cell? _ _ g1; have y2 := World.block_lt_of_cell? _ _ g2; have y3 := World.block_lt_of_cell? _ _ g3;go_simp; (try with_reducible rfl)
            (try simp only [cq])
            refine tkY 4 (some 105) ?_ ?_ ?_
            rotate_left
            · intro w _; go_simp; (try with_reducible rfl)
            (try simp only [cq])
            refine tkY 5 (some 106) ?_ ?_ ?_
            rotate_left
            · intro w _; go_simp; (try with_reducible rfl)
            (try simp only [cq])
            refine tkY 6 (some 107) ?_ ?_ ?_
            rotate_left
            · intro w hS0; (try dsimp only at hS0); obtain ⟨g1, g2, g3, _⟩ := hS0; have y1 := World.block_lt_of_cell? _ _ g1; have y2 := World.block_lt_of_cell? _ _ g2; have y3 := World.block_lt_of_cell? _ _ g3;go_simp; (try with_reducible rfl)
            (try simp only [cq])
            refine tkY 7 (some 108) ?_ ?_ ?_
            rotate_left
            · intro w hS0; (try dsimp only at hS0); obtain ⟨g1, g2, g3, _⟩ := hS0; have y1 := World.block_lt_of_cell? _ _ g1; have y2 := World.block_lt_of_cell? _ _ g2; have y3 := World.block_lt_of_cell? _ _ g3;go_simp; (try with_reducible rfl)
            (try simp only [cq])
            refine tkY 8 (some 109) ?_ ?_ ?_
            rotate_left
            · intro w _; go_simp; (try with_reducible rfl)
            (try simp only [cq])
            refine tkY 9 (some 110) ?_ ?_ ?_
            rotate_left
            · intro w _; go_simp; (try with_reducible rfl)
            (try simp only [cq])
            refine tkY 10 (some 111) ?_ ?_ ?_
            rotate_left
            · intro w _; go_simp; (try with_reducible rfl)
            (try simp only [cq])
            refine tkY 11 (some 112) ?_ ?_ ?_
            rotate_left
            · intro w _; go_simp; (try with_reducible rfl)
            (try simp only [cq])
            refine tkY 12 (some 113) ?_ ?_ ?_
            rotate_left
            · intro w _; go_simp; (try with_reducible rfl)
            (try simp only [cq])
            refine tkY 13 (some 114) ?_ ?_ ?_
            rotate_left
            · intro w hS0; (try dsimp only at hS0); obtain ⟨g1, g2, g3, _⟩ := hS0; have y1 := World.block_lt_of_cell? _ _ g1; have y2 := World.block_lt_of_cell? _ _ g2; have y3 := World.block_lt_of_cell? _ _ g3;go_simp; (try with_reducible rfl)
            (try simp only [cq])
            refine tkY 14 (some 115) ?_ ?_ ?_
            rotate_left
            · intro w hS0; (try dsimp only at hS0); obtain ⟨g1, g2, g3, _⟩ := hS0; have y1 := World.block_lt_of_cell? _ _ g1; have y2 := World.block_lt_of_cell? _ _ g2; have y3 := World.block_lt_of_cell? _ _ g3;go_simp; (try with_reducible rfl)
            (try simp only [cq])
            refine tkY 15 (some 116) ?_ ?_ ?_
            rotate_left
            · intro w _; go_simp; (try with_reducible rfl)
            (try simp only [cq])
            refine tkY 16 (some 117) ?_ ?_ ?_
            rotate_left
            · intro w _; go_simp; (try with_reducible rfl)
            (try simp only [cq])
            refine tkY 17 (some 118) ?_ ?_ ?_
            rotate_left
            · intro w hS0; (try dsimp only at hS0); obtain ⟨g1, g2, g3, _⟩ := hS0; have y1 := World.block_lt_of_cell? _ _ g1; have y2 := World.block_lt_of_cell? _ _ g2; have y3 := World.block_lt_of_cell? _ _ g3;go_simp; (try with_reducible rfl)
            (try simp only [cq])
            refine tkY 18 (some 119) ?_ ?_ ?_
            rotate_left
            · intro w hS0; (try dsimp only at hS0); obtain ⟨g1, g2, g3, _⟩ := hS0; have y1 := World.block_lt_of_cell? _ _ g1; have y2 := World.block_lt_of_cell? _ _ g2; have y3 := World.block_lt_of_cell? _ _ g3;go_simp; (try with_reducible rfl)
            (try simp only [cq])
            refine tkY 19 (some 120) ?_ ?_ ?_
            rotate_left
            · intro w _; go_simp; (try with_reducible rfl)
            (try simp only [cq])
            refine tkY 20 (some 121) ?_ ?_ ?_
            rotate_left
            · intro w _; go_simp; (try with_reducible rfl)
            (try simp only [cq])
            refine tkY 21 (some 122) ?_ ?_ ?_
            rotate_left
            · intro w _; go_simp; (try with_reducible rfl)
            (try simp only [cq])
            refine tkY 22 (some 123) ?_ ?_ ?_
            rotate_left
            · intro w _; go_simp; (try with_reducible rfl)
            (try simp only [cq])
            refine tkY 23 (some 124) ?_ ?_ ?_
            rotate_left
            · intro w _; go_simp; (try with_reducible rfl)
            (try simp only [cq])
            refine tkY 24 (some 125) ?_ ?_ ?_
            rotate_left
            · intro w _; go_simp; (try with_reducible rfl)
            (try simp only [cq])
            refine tkY 25 (some 126) ?_ ?_ ?_
            rotate_left
            · intro w hS0; (try dsimp only at hS0); obtain ⟨g1, g2, g3, _⟩ := hS0; have y1 := World.block_lt_of_cell? _ _ g1; have y2 := World.block_lt_of_cell? _ _ g2; have y3 := World.block_lt_of_cell? _ _ g3;go_simp; (try with_reducible rfl)
            (try simp only [cq])
            refine tkY 26 (some 127) ?_ ?_ ?_
            rotate_left
            · intro w hS0; (try dsimp only at hS0); obtain ⟨g1, g2, g3, _⟩ := hS0; have y1 := World.block_lt_of_cell? _ _ g1; have y2 := World.block_lt_of_cell? _ _ g2; have y3 := World.block_lt_of_cell? _ _ g3;go_simp; (try with_reducible rfl)
            (try simp only [cq])
            refine tkY 27 (some 128) ?_ ?_ ?_
            rotate_left
            · intro w _; go_simp; (try with_reducible rfl)
            (try simp only [cq])
            refine tkY 28 (some 129) ?_ ?_ ?_
            rotate_left
            · intro w _; go_simp; (try with_reducible rfl)
            (try simp only [cq])
            refine tkY 29 (some 130) ?_ ?_ ?_
            rotate_left
            · intro w _; go_simp; (try with_reducible rfl)
            (try simp only [cq])
            refine tkY 30 (some 131) ?_ ?_ ?_
            rotate_left
            · intro w _; go_simp; (try with_reducible rfl)
            (try simp only [cq])
            refine tkY 31 (some 132) ?_ ?_ ?_
            rotate_left
            · intro w _; go_simp; (try with_reducible rfl)
            (try simp only [cq])
            refine tkY 32 (some 133) ?_ ?_ ?_
            rotate_left
            · intro w hS0; (try dsimp only at hS0); obtain ⟨g1, g2, g3, _⟩ := hS0; have y1 := World.block_lt_of_cell? _ _ g1; have y2 := World.block_lt_of_cell? _ _ g2; have y3 := World.block_lt_of_cell? _ _ g3;go_simp; (try with_reducible rfl)
            (try simp only [cq])
            refine tkY 33 (some 134) ?_ ?_ ?_
            rotate_left
            · intro w hS0; (try dsimp only at hS0); obtain ⟨g1, g2, g3, _⟩ := hS0; have y1 := World.block_lt_of_cell? _ _ g1; have y2 := World.block_lt_of_cell? _ _ g2; have y3 := World.block_lt_of_cell? _ _ g3;go_simp; (try with_reducible rfl)
            (try simp only [cq])
            refine tkY 34 (some 135) ?_ ?_ ?_
            rotate_left
            · intro w _; go_simp; (try with_reducible rfl)
            (try simp only [cq])
            refine tkY 35 (some 136) ?_ ?_ ?_
            rotate_left
            · intro w _; go_simp; (try with_reducible rfl)
            (try simp only [cq])
            refine wpAnyH_done (by kernel_rfl) ?_ _
            (try dsimp only [Act.put])
            (try simp only [cq])
            have hB2 := hH.2.2.2
            clear hH r1 t1 t2 z1 jB
            go_wp2
            go_roundw
            case rel => exact ⟨k + 1, by omega, by go_num, hB2⟩
            case measure => simp [intOf]; omega
          · subst hx
            obtain ⟨h1, h2⟩ := HX2.out rfl
            have e1 : (d1 == 100) = false := by simpa using h1
            subst h2
            clear h1
            clear HX1 HX2 HX3
            go_upto_region 18 with fail
            refine wp_region_held_drew (S := (fun v => v.cell? ⟨b1, o1 + k, none⟩ = some (.int .i64 2) ∧ v.cell? ⟨bC, 1, none⟩ = some (.int .i64 d1) ∧ v.cell? ⟨bC, 2, none⟩ = some (.int .i64 100) ∧ Below W0.heap.size W0 v)) (by kernel_rfl) ?_ (fun hH => ?_)
            · (try dsimp only); (exact ⟨r1, t1, t2, jB.drew⟩)
            refine tkY 0 (some 101) ?_ ?_ ?_
            rotate_left
            · intro w _; go_simp; (try with_reducible rfl)
            (try simp only [cq])
            refine tkY 1 (some 102) ?_ ?_ ?_
            rotate_left
            · intro w _; go_simp; (try with_reducible rfl)
            (try simp only [cq])
            refine tkY 2 (some 103) ?_ ?_ ?_
            rotate_left
            · intro w hS0; (try dsimp only at hS0); obtain ⟨g1, g2, g3, _⟩ := hS0; have y1 := World.block_lt_of_cell? _ _ g1; have y2 := World.block_lt_of_cell? _ _ g2; have y3 := World.block_lt_of_cell? _ _ g3;go_simp; (try with_reducible rfl)
            (try simp only [cq])
            refine tkY 3 (some 104) ?_ ?_ ?_
            rotate_left
            · intro w hS0; (try dsimp only at hS0); obtain ⟨g1, g2, g3, _⟩ := hS0; have y1 := World.block_lt_of_cell? _ _ g1; have y2 := World.block_lt_of_cell? _ _ g2; have y3 := World.block_lt_of_cell? _ _ g3;go_simp; (try with_reducible rfl)
            (try simp only [cq])
            refine tkY 4 (some 105) ?_ ?_ ?_
            rotate_left
            · intro w _; go_simp; (try with_reducible rfl)
            (try simp only [cq])
            refine tkY 5 (some 106) ?_ ?_ ?_
            rotate_left
            · intro w _; go_simp; (try with_reducible rfl)
            (try simp only [cq])
            refine tkY 6 (some 107) ?_ ?_ ?_
            rotate_left
            · intro w hS0; (try dsimp only at hS0); obtain ⟨g1, g2, g3, _⟩ := hS0; have y1 := World.block_lt_of_cell? _ _ g1; have y2 := World.block_lt_of_cell? _ _ g2; have y3 := World.block_lt_of_cell? _ _ g3;go_simp; (try with_reducible rfl)
            (try simp only [cq])
            refine tkY 7 (some 108) ?_ ?_ ?_
            rotate_left
            · intro w hS0; (try dsimp only at hS0); obtain ⟨g1, g2, g3, _⟩ := hS0; have y1 := World.block_lt_of_cell? _ _ g1; have y2 := World.block_lt_of_cell? _ _ g2; have y3 := World.block_lt_of_cell? _ _ g3;go_simp; (try with_reducible rfl)
            (try simp only [cq])
            refine tkY 8 (some 109) ?_ ?_ ?_
            rotate_left
            · intro w _; go_simp; (try with_reducible rfl)
            (try simp only [cq])
            refine tkY 9 (some 110) ?_ ?_ ?_
            rotate_left
            · intro w _; go_simp; (try with_reducible rfl)
            (try simp only [cq])
            refine tkY 10 (some 111) ?_ ?_ ?_
            rotate_left
            · intro w _; go_simp; (try with_reducible rfl)
            (try simp only [cq])
            refine tkY 11 (some 112) ?_ ?_ ?_
            rotate_left
            · intro w _; go_simp; (try with_reducible rfl)
            (try simp only [cq])
            refine tkY 12 (some 113) ?_ ?_ ?_
            rotate_left
            · intro w _; go_simp; (try with_reducible rfl)
            (try simp only [cq])
            refine tkY 13 (some 114) ?_ ?_ ?_
            rotate_left
            · intro w hS0; (try dsimp only at hS0); obtain ⟨g1, g2, g3, _⟩ := hS0; have y1 := World.block_lt_of_cell? _ _ g1; have y2 := World.block_lt_of_cell? _ _ g2; have y3 := World.block_lt_of_cell? _ _ g3;go_simp; (try with_reducible rfl)
            (try simp only [cq])
            refine tkY 14 (some 115) ?_ ?_ ?_
            rotate_left
            · intro w hS0; (try dsimp only at hS0); obtain ⟨g1, g2, g3, _⟩ := hS0; have y1 := World.block_lt_of_cell? _ _ g1; have y2 := World.block_lt_of_cell? _ _ g2; have y3 := World.block_lt_of_cell? _ _ g3;go_simp; (try with_reducible rfl)
            (try simp only [cq])
            refine tkY 15 (some 116) ?_ ?_ ?_
            rotate_left
            · intro w _; go_simp; (try with_reducible rfl)
            (try simp only [cq])
            refine tkY 16 (some 117) ?_ ?_ ?_
            rotate_left
            · intro w _; go_simp; (try with_reducible rfl)
            (try simp only [cq])
            refine tkY 17 (some 118) ?_ ?_ ?_
            rotate_left
            · intro w hS0; (try dsimp only at hS0); obtain ⟨g1, g2, g3, _⟩ := hS0; have y1 := World.block_lt_of_cell? _ _ g1; have y2 := World.block_lt_of_cell? _ _ g2; have y3 := World.block_lt_of_cell? _ _ g3;go_simp; (try with_reducible rfl)
            (try simp only [cq])
            refine tkY 18 (some 119) ?_ ?_ ?_
            rotate_left
            · intro w hS0; (try dsimp only at hS0); obtain ⟨g1, g2, g3, _⟩ := hS0; have y1 := World.block_lt_of_cell? _ _ g1; have y2 := World.block_lt_of_cell? _ _ g2; have y3 := World.block_lt_of_cell? _ _ g3;go_simp; (try with_reducible rfl)
            (try simp only [cq])
            refine tkY 19 (some 120) ?_ ?_ ?_
            rotate_left
            · intro w _; go_simp; (try with_reducible rfl)
            (try simp only [cq])
            refine tkY 20 (some 121) ?_ ?_ ?_
            rotate_left
            · intro w _; go_simp; (try with_reducible rfl)
            (try simp only [cq])
            refine tkY 21 (some 122) ?_ ?_ ?_
            rotate_left
            · intro w _; go_simp; (try with_reducible rfl)
            (try simp only [cq])
            refine tkY 22 (some 123) ?_ ?_ ?_
            rotate_left
            · intro w _; go_simp; (try with_reducible rfl)
            (try simp only [cq])
            refine tkY 23 (some 124) ?_ ?_ ?_
            rotate_left
            · intro w _; go_simp; (try with_reducible rfl)
            (try simp only [cq])
            refine tkY 24 (some 125) ?_ ?_ ?_
            rotate_left
            · intro w _; go_simp; (try with_reducible rfl)
            (try simp only [cq])
            refine tkY 25 (some 126) ?_ ?_ ?_
            rotate_left
            · intro w hS0; (try dsimp only at hS0); obtain ⟨g1, g2, g3, _⟩ := hS0; have y1 := World.block_lt_of_cell? _ _ g1; have y2 := World.block_lt_of_cell? _ _ g2; have y3 := World.block_lt_of_cell? _ _ g3;go_simp; (try with_reducible rfl)
            (try simp only [cq])
            refine tkY 26 (some 127) ?_ ?_ ?_
            rotate_left
            · intro w hS0; (try dsimp only at hS0); obtain ⟨g1, g2, g3, _⟩ := hS0; have y1 := World.block_lt_of_cell? _ _ g1; have y2 := World.block_lt_of_cell? _ _ g2; have y3 := World.block_lt_of_cell? _ _ g3;go_simp; (try with_reducible rfl)
            (try simp only [cq])
            refine tkY 27 (some 128) ?_ ?_ ?_
            rotate_left
            · intro w _; go_simp; (try with_reducible rfl)
            (try simp only [cq])
            refine tkY 28 (some 129) ?_ ?_ ?_
            rotate_left
            · intro w _; go_simp; (try with_reducible rfl)
            (try simp only [cq])
            refine tkY 29 (some 130) ?_ ?_ ?_
            rotate_left
            · intro w _; go_simp; (try with_reducible rfl)
            (try simp only [cq])
            refine tkY 30 (some 131) ?_ ?_ ?_
            rotate_left
            · intro w _; go_simp; (try with_reducible rfl)
            (try simp only [cq])
            refine tkY 31 (some 132) ?_ ?_ ?_
            rotate_left
            · intro w _; go_simp; (try with_reducible rfl)
            (try simp only [cq])
            refine tkY 32 (some 133) ?_ ?_ ?_
            rotate_left
            · intro w hS0; (try dsimp only at hS0); obtain ⟨g1, g2, g3, _⟩ := hS0; have y1 := World.block_lt_of_cell? _ _ g1; have y2 := World.block_lt_of_cell? _ _ g2; have y3 := World.block_lt_of_cell? _ _ g3;go_simp; (try with_reducible rfl)
            (try simp only [cq])
            refine tkY 33 (some 134) ?_ ?_ ?_
            rotate_left
            · intro w hS0; (try dsimp only at hS0); obtain ⟨g1, g2, g3, _⟩ := hS0; have y1 := World.block_lt_of_cell? _ _ g1; have y2 := World.block_lt_of_cell? _ _ g2; have y3 := World.block_lt_of_cell? _ _ g3;go_simp; (try with_reducible rfl)
            (try simp only [cq])
            refine tkY 34 (some 135) ?_ ?_ ?_
            rotate_left
            · intro w _; go_simp; (try with_reducible rfl)
            (try simp only [cq])
            refine tkY 35 (some 136) ?_ ?_ ?_
            rotate_left
            · intro w _; go_simp; (try with_reducible rfl)
            (try simp only [cq])
            refine wpAnyH_done (by kernel_rfl) ?_ _
            (try dsimp only [Act.put])
            (try simp only [cq])
            have hB2 := hH.2.2.2
            clear hH r1 t1 t2 z1 jB
            go_wp2
            go_roundw
            case rel => exact ⟨k + 1, by omega, by go_num, hB2⟩
            case measure => simp [intOf]; omega
          · subst hx
            obtain ⟨h1, h2⟩ := HX3.out rfl
            have e1 : (d1 == 100) = false := by simpa using h1
            have e2 : (d2 == 100) = false := by simpa using h2
            clear h1 h2
            clear HX1 HX2 HX3
            go_upto_region 18 with fail
            refine wp_region_held_drew (S := (fun v => v.cell? ⟨b1, o1 + k, none⟩ = some (.int .i64 3) ∧ v.cell? ⟨bC, 1, none⟩ = some (.int .i64 d1) ∧ v.cell? ⟨bC, 2, none⟩ = some (.int .i64 d2) ∧ Below W0.heap.size W0 v)) (by kernel_rfl) ?_ (fun hH => ?_)
            · (try dsimp only); (exact ⟨r1, t1, t2, jB.drew⟩)
            refine tkY 0 (some 101) ?_ ?_ ?_
            rotate_left
            · intro w _; go_simp; (try with_reducible rfl)
            (try simp only [cq])
            refine tkY 1 (some 102) ?_ ?_ ?_
            rotate_left
            · intro w _; go_simp; (try with_reducible rfl)
            (try simp only [cq])
            refine tkY 2 (some 103) ?_ ?_ ?_
            rotate_left
            · intro w hS0; (try dsimp only at hS0); obtain ⟨g1, g2, g3, _⟩ := hS0; have y1 := World.block_lt_of_cell? _ _ g1; have y2 := World.block_lt_of_cell? _ _ g2; have y3 := World.block_lt_of_cell? _ _ g3;go_simp; (try with_reducible rfl)
            (try simp only [cq])
            refine tkY 3 (some 104) ?_ ?_ ?_
            rotate_left
            · intro w hS0; (try dsimp only at hS0); obtain ⟨g1, g2, g3, _⟩ := hS0; have y1 := World.block_lt_of_cell? _ _ g1; have y2 := World.block_lt_of_cell? _ _ g2; have y3 := World.block_lt_of_cell? _ _ g3;go_simp; (try with_reducible rfl)
            (try simp only [cq])
            refine tkY 4 (some 105) ?_ ?_ ?_
            rotate_left
            · intro w _; go_simp; (try with_reducible rfl)
            (try simp only [cq])
            refine tkY 5 (some 106) ?_ ?_ ?_
            rotate_left
            · intro w _; go_simp; (try with_reducible rfl)
            (try simp only [cq])
            refine tkY 6 (some 107) ?_ ?_ ?_
            rotate_left
            · intro w hS0; (try dsimp only at hS0); obtain ⟨g1, g2, g3, _⟩ := hS0; have y1 := World.block_lt_of_cell? _ _ g1; have y2 := World.block_lt_of_cell? _ _ g2; have y3 := World.block_lt_of_cell? _ _ g3;go_simp; (try with_reducible rfl)
            (try simp only [cq])
            refine tkY 7 (some 108) ?_ ?_ ?_
            rotate_left
            · intro w hS0; (try dsimp only at hS0); obtain ⟨g1, g2, g3, _⟩ := hS0; have y1 := World.block_lt_of_cell? _ _ g1; have y2 := World.block_lt_of_cell? _ _ g2; have y3 := World.block_lt_of_cell? _ _ g3;go_simp; (try with_reducible rfl)
            (try simp only [cq])
            refine tkY 8 (some 109) ?_ ?_ ?_
            rotate_left
            · intro w _; go_simp; (try with_reducible rfl)
            (try simp only [cq])
            refine tkY 9 (some 110) ?_ ?_ ?_
            rotate_left
            · intro w _; go_simp; (try with_reducible rfl)
            (try simp only [cq])
            refine tkY 10 (some 111) ?_ ?_ ?_
            rotate_left
            · intro w _; go_simp; (try with_reducible rfl)
            (try simp only [cq])
            refine tkY 11 (some 112) ?_ ?_ ?_
            rotate_left
            · intro w _; go_simp; (try with_reducible rfl)
            (try simp only [cq])
            refine tkY 12 (some 113) ?_ ?_ ?_
            rotate_left
            · intro w _; go_simp; (try with_reducible rfl)
            (try simp only [cq])
            refine tkY 13 (some 114) ?_ ?_ ?_
            rotate_left
            · intro w hS0; (try dsimp only at hS0); obtain ⟨g1, g2, g3, _⟩ := hS0; have y1 := World.block_lt_of_cell? _ _ g1; have y2 := World.block_lt_of_cell? _ _ g2; have y3 := World.block_lt_of_cell? _ _ g3;go_simp; (try with_reducible rfl)
            (try simp only [cq])
            refine tkY 14 (some 115) ?_ ?_ ?_
            rotate_left
            · intro w hS0; (try dsimp only at hS0); obtain ⟨g1, g2, g3, _⟩ := hS0; have y1 := World.block_lt_of_cell? _ _ g1; have y2 := World.block_lt_of_cell? _ _ g2; have y3 := World.block_lt_of_cell? _ _ g3;go_simp; (try with_reducible rfl)
            (try simp only [cq])
            refine tkY 15 (some 116) ?_ ?_ ?_
            rotate_left
            · intro w _; go_simp; (try with_reducible rfl)
            (try simp only [cq])
            refine tkY 16 (some 117) ?_ ?_ ?_
            rotate_left
            · intro w _; go_simp; (try with_reducible rfl)
            (try simp only [cq])
            refine tkY 17 (some 118) ?_ ?_ ?_
            rotate_left
            · intro w hS0; (try dsimp only at hS0); obtain ⟨g1, g2, g3, _⟩ := hS0; have y1 := World.block_lt_of_cell? _ _ g1; have y2 := World.block_lt_of_cell? _ _ g2; have y3 := World.block_lt_of_cell? _ _ g3;go_simp; (try with_reducible rfl)
            (try simp only [cq])
            refine tkY 18 (some 119) ?_ ?_ ?_
            rotate_left
            · intro w hS0; (try dsimp only at hS0); obtain ⟨g1, g2, g3, _⟩ := hS0; have y1 := World.block_lt_of_cell? _ _ g1; have y2 := World.block_lt_of_cell? _ _ g2; have y3 := World.block_lt_of_cell? _ _ g3;go_simp; (try with_reducible rfl)
            (try simp only [cq])
            refine tkY 19 (some 120) ?_ ?_ ?_
            rotate_left
            · intro w _; go_simp; (try with_reducible rfl)
            (try simp only [cq])
            refine tkY 20 (some 121) ?_ ?_ ?_
            rotate_left
            · intro w _; go_simp; (try with_reducible rfl)
            (try simp only [cq])
            refine tkY 21 (some 122) ?_ ?_ ?_
            rotate_left
            · intro w _; go_simp; (try with_reducible rfl)
            (try simp only [cq])
            refine tkY 22 (some 123) ?_ ?_ ?_
            rotate_left
            · intro w _; go_simp; (try with_reducible rfl)
            (try simp only [cq])
            refine tkY 23 (some 124) ?_ ?_ ?_
            rotate_left
            · intro w _; go_simp; (try with_reducible rfl)
            (try simp only [cq])
            refine tkY 24 (some 125) ?_ ?_ ?_
            rotate_left
            · intro w _; go_simp; (try with_reducible rfl)
            (try simp only [cq])
            refine tkY 25 (some 126) ?_ ?_ ?_
            rotate_left
            · intro w hS0; (try dsimp only at hS0); obtain ⟨g1, g2, g3, _⟩ := hS0; have y1 := World.block_lt_of_cell? _ _ g1; have y2 := World.block_lt_of_cell? _ _ g2; have y3 := World.block_lt_of_cell? _ _ g3;go_simp; (try with_reducible rfl)
            (try simp only [cq])
            refine tkY 26 (some 127) ?_ ?_ ?_
            rotate_left
            · intro w hS0; (try dsimp only at hS0); obtain ⟨g1, g2, g3, _⟩ := hS0; have y1 := World.block_lt_of_cell? _ _ g1; have y2 := World.block_lt_of_cell? _ _ g2; have y3 := World.block_lt_of_cell? _ _ g3;go_simp; (try with_reducible rfl)
            (try simp only [cq])
            refine tkY 27 (some 128) ?_ ?_ ?_
            rotate_left
            · intro w _; go_simp; (try with_reducible rfl)
            (try simp only [cq])
            refine tkY 28 (some 129) ?_ ?_ ?_
            rotate_left
            · intro w _; go_simp; (try with_reducible rfl)
            (try simp only [cq])
            refine tkY 29 (some 130) ?_ ?_ ?_
            rotate_left
            · intro w _; go_simp; (try with_reducible rfl)
            (try simp only [cq])
            refine tkY 30 (some 131) ?_ ?_ ?_
            rotate_left
            · intro w _; go_simp; (try with_reducible rfl)
            (try simp only [cq])
            refine tkY 31 (some 132) ?_ ?_ ?_
            rotate_left
            · intro w _; go_simp; (try with_reducible rfl)
            (try simp only [cq])
            refine tkY 32 (some 133) ?_ ?_ ?_
            rotate_left
            · intro w hS0; (try dsimp only at hS0); obtain ⟨g1, g2, g3, _⟩ := hS0; have y1 := World.block_lt_of_cell? _ _ g1; have y2 := World.block_lt_of_cell? _ _ g2; have y3 := World.block_lt_of_cell? _ _ g3;go_simp; (try with_reducible rfl)
            (try simp only [cq])
            refine tkY 33 (some 134) ?_ ?_ ?_
            rotate_left
            · intro w hS0; (try dsimp only at hS0); obtain ⟨g1, g2, g3, _⟩ := hS0; have y1 := World.block_lt_of_cell? _ _ g1; have y2 := World.block_lt_of_cell? _ _ g2; have y3 := World.block_lt_of_cell? _ _ g3;go_simp; (try with_reducible rfl)
            (try simp only [cq])
            refine tkY 34 (some 135) ?_ ?_ ?_
            rotate_left
            · intro w _; go_simp; (try with_reducible rfl)
            (try simp only [cq])
            refine tkY 35 (some 136) ?_ ?_ ?_
            rotate_left
            · intro w _; go_simp; (try with_reducible rfl)
            (try simp only [cq])
            refine wpAnyH_done (by kernel_rfl) ?_ _
            (try dsimp only [Act.put])
            (try simp only [cq])
            have hB2 := hH.2.2.2
            clear hH r1 t1 t2 z1 jB
            go_wp2
            go_roundw
            case rel => exact ⟨k + 1, by omega, by go_num, hB2⟩
            case measure => simp [intOf]; omega
    · have jB := bwS HB.out (by have := HB.out.size; omega) hB
      clear hB
      go_wp2_with fail
      refine (awake_any _).mono ?_
      rintro e w9 ⟨rfl, hb⟩
      replace jB := bwS jB (Nat.le_refl _) hb
      go_wp2
      go_ret
      exact ⟨rfl, jB⟩
end Go.Proofs.Ytfakmggabicdjaa
