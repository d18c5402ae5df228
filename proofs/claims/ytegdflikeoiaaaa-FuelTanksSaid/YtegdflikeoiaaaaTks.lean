/-
  FuelTanks: what is in tanks, standard litres.
-/
import Derived.Test.YtegdflikeoiaaaaTail
import Derived.Test.YtegdflikeoiaaaaRvo
import Derived.Test.YtegdflikeoiaaaaTko
import Derived.Test.YtegdflikeoiaaaaAwk
set_option linter.unusedVariables false
set_option linter.unusedSimpArgs false
namespace Go.Proofs.Ytegdflikeoiaaaa
open Go.RowKit

theorem NumsAt.later2 {w W : World} {a : Option Addr} {n : Nat} (h4 : NumsAt w a n) (hb : Below w.heap.size w W) : NumsAt W a n := ⟨h4.1, fun h => by
    obtain ⟨b, o, ha, hl, hc⟩ := h4.2 h
    exact ⟨b, o, ha, Nat.lt_of_lt_of_le hl hb.size, fun i hi => by
      obtain ⟨x, hx⟩ := hc i hi
      exact ⟨x, cell_later hb hx⟩⟩⟩
set_option maxRecDepth 100000 in
set_option maxHeartbeats 16000000 in
theorem tanks_any (n m : Nat) (H L : Nat → Int) (vH vL : Value) (d0 d1 l0 l1 b0 b1 t0 t1 : Int) (a5 : Option Addr) (n5 c5 : Nat) (w : World) (hH : IntsAt w vH n H) (hL : IntsAt w vL m L) (h5 : NumsAt w a5 n5) :
    Calls Try.prog 3 #[.agg #[vH, vL], .agg #[.int .i64 d0, .int .i64 d1], .agg #[.int .i64 l0, .int .i64 l1], .agg #[.int .i64 b0, .int .i64 b1], .agg #[.int .i64 t0, .int .i64 t1], .slice a5 n5 c5] w fun e w' => e = .returned (.bool true) ∧ Below w.heap.size w w' := by
  have HH := Lib.hid (fun (W : World) (h : Below w.heap.size w W) => hH.later h)
  have HL := Lib.hid (fun (W : World) (h : Below w.heap.size w W) => hL.later h)
  have H5 := Lib.hid (fun (W : World) (h : Below w.heap.size w W) => h5.later2 h)
  obtain ⟨aH, cH, rfl, -, -, -⟩ := hH
  obtain ⟨aL, cL, rfl, -, -, -⟩ := hL
  clear h5
  have HAw := Lib.hid (fun (W : World) => awake_any W)
  have kB : Below w.heap.size w (((((w.alloc (.cells #[.slice aH n cH, .slice aL m cL] 24)).alloc (.cells #[.int .i64 d0, .int .i64 d1] 26)).alloc (.cells #[.int .i64 l0, .int .i64 l1] 26)).alloc (.cells #[.int .i64 b0, .int .i64 b1] 26)).alloc (.cells #[.int .i64 t0, .int .i64 t1] 26)) := by (repeat (first | exact Below.refl _ _ | assumption | refine Below.drew ?_ | refine Below.drewN ?_ _ | refine blT ?_ | refine blU ?_))
  by_cases hbig : 60 < n
  · have e1 : (60 : Int) < n := by omega
    go_enter Try.func3, Try.ntmps3
    go_wp2_with fail
    refine (HAw.out _).mono ?_
    rintro e w2 ⟨rfl, hb⟩
    replace kB := bwS kB (Nat.le_refl _) hb
    clear hb
    go_wp2
    go_ret
    exact ⟨rfl, kB⟩
  by_cases hbig2 : 60 < m
  · have e1 : ¬ (60 : Int) < n := by omega
    have e2 : (60 : Int) < m := by omega
    have kT := ((((Blk.new w #[.slice aH n cH, .slice aL m cL] 24).alloc (.cells #[.int .i64 d0, .int .i64 d1] 26)).alloc (.cells #[.int .i64 l0, .int .i64 l1] 26)).alloc (.cells #[.int .i64 b0, .int .i64 b1] 26)).alloc (.cells #[.int .i64 t0, .int .i64 t1] 26)
    obtain ⟨c0, c1⟩ := kT.c2
    go_enter Try.func3, Try.ntmps3
    go_wp2_with fail
    refine (HAw.out _).mono ?_
    rintro e w2 ⟨rfl, hb⟩
    replace kB := bwS kB (Nat.le_refl _) hb
    clear hb
    go_wp2
    go_ret
    exact ⟨rfl, kB⟩
  have e1 : ¬ (60 : Int) < n := by omega
  have e2 : ¬ (60 : Int) < m := by omega
  have kT := ((((Blk.new w #[.slice aH n cH, .slice aL m cL] 24).alloc (.cells #[.int .i64 d0, .int .i64 d1] 26)).alloc (.cells #[.int .i64 l0, .int .i64 l1] 26)).alloc (.cells #[.int .i64 b0, .int .i64 b1] 26)).alloc (.cells #[.int .i64 t0, .int .i64 t1] 26)
  have kD := (((Blk.new1 w (.cells #[.slice aH n cH, .slice aL m cL] 24) #[.int .i64 d0, .int .i64 d1] 26).alloc (.cells #[.int .i64 l0, .int .i64 l1] 26)).alloc (.cells #[.int .i64 b0, .int .i64 b1] 26)).alloc (.cells #[.int .i64 t0, .int .i64 t1] 26)
  have kL := (((Blk.new2 w (.cells #[.slice aH n cH, .slice aL m cL] 24) (.cells #[.int .i64 d0, .int .i64 d1] 26) #[.int .i64 l0, .int .i64 l1] 26).alloc (.cells #[.int .i64 b0, .int .i64 b1] 26))).alloc (.cells #[.int .i64 t0, .int .i64 t1] 26)
  have kX := (Blk.new2 (w.alloc (.cells #[.slice aH n cH, .slice aL m cL] 24)) (.cells #[.int .i64 d0, .int .i64 d1] 26) (.cells #[.int .i64 l0, .int .i64 l1] 26) #[.int .i64 b0, .int .i64 b1] 26).alloc (.cells #[.int .i64 t0, .int .i64 t1] 26)
  have kY := Blk.new2 ((w.alloc (.cells #[.slice aH n cH, .slice aL m cL] 24)).alloc (.cells #[.int .i64 d0, .int .i64 d1] 26)) (.cells #[.int .i64 l0, .int .i64 l1] 26) (.cells #[.int .i64 b0, .int .i64 b1] 26) #[.int .i64 t0, .int .i64 t1] 26
  simp only [World.size_alloc] at kX kY
  obtain ⟨c0, c1⟩ := kT.c2
  go_enter Try.func3, Try.ntmps3
  go_wp2_with fail
  clear c0 c1
  obtain ⟨V, hV⟩ : ∃ V, Blk.wld kT = V := ⟨_, rfl⟩
  simp only [Blk.wld] at hV
  rw [hV] at kT kD kL kX kY kB ⊢
  clear hV
  refine (newseed_at a5 n5 c5 _ (H5.out _ kB)).mono ?_
  rintro e w1 ⟨rfl, hS, hb⟩
  obtain ⟨bs, hbs⟩ : ∃ x, V.heap.size = x := ⟨_, rfl⟩
  have zbs := kY.lt
  rw [hbs] at hS zbs ⊢
  replace kT := kT.call hb
  replace kD := kD.call hb
  replace kL := kL.call hb
  replace kX := kX.call hb
  replace kY := kY.call hb
  replace kB := bwS kB (Nat.le_refl _) hb
  clear hb hbs H5
  go_wp2_with fail
  refine (tankof_in bs _ hS).mono ?_
  rintro e w2 ⟨q, gH, cH', gL, cL', X, Y, rfl, q1, q5, rH, rL, hUp, hd⟩
  have zw1 : w.heap.size ≤ w1.heap.size := kB.size
  have zs1 : bs < w1.heap.size := hS.choose_spec.lt
  replace kT := hd.blk kT (by omega)
  replace kD := hd.blk kD (by omega)
  replace kL := hd.blk kL (by omega)
  replace kX := hd.blk kX (by omega)
  replace kY := hd.blk kY (by omega)
  replace kB := Drawn.below kB hd (by omega)
  have hS2 := hd.seed
  have zbM : bs < w2.heap.size := hS2.choose_spec.lt
  clear hd hS
  have HX := Lib.hid (And.intro (row_int rH (i := 0) (by omega)) (row_int rH (i := q) (by omega)))
  have hU0 := hUp.h 0 (by omega)
  have hUq := hUp.h q (by omega)
  have hU : X 0 ≤ X q := hUp.mono q (by omega)
  clear hUp
  generalize X 0 = x0 at HX hU0 hU
  generalize X q = xq at HX hUq hU
  obtain ⟨g1, g2⟩ := HX.out
  have yH := World.block_lt_of_cell? _ _ g1
  have e3 : IntKind.i64.wrap (((q + 1 : Nat) : Int) - 1) = (q : Int) := by rw [show ((q + 1 : Nat) : Int) - 1 = (q : Int) by omega]; exact IntWalk.i64_in _ (by omega)
  have e4 : (q : Int) < (q : Int) + 1 := by omega
  have e5 : q < q + 1 := by omega
  have e6 : (0 : Int) < (q : Int) + 1 := by omega
  have e7 : 0 < q + 1 := by omega
  have kM := Blk.new w2 #[.slice (some ⟨gH, 0, none⟩) (q + 1) cH', .slice (some ⟨gL, 0, none⟩) (q + 1) cL'] 24
  replace kT := kT.alloc (.cells #[.slice (some ⟨gH, 0, none⟩) (q + 1) cH', .slice (some ⟨gL, 0, none⟩) (q + 1) cL'] 24)
  replace kD := kD.alloc (.cells #[.slice (some ⟨gH, 0, none⟩) (q + 1) cH', .slice (some ⟨gL, 0, none⟩) (q + 1) cL'] 24)
  replace kL := kL.alloc (.cells #[.slice (some ⟨gH, 0, none⟩) (q + 1) cH', .slice (some ⟨gL, 0, none⟩) (q + 1) cL'] 24)
  replace kX := kX.alloc (.cells #[.slice (some ⟨gH, 0, none⟩) (q + 1) cH', .slice (some ⟨gL, 0, none⟩) (q + 1) cL'] 24)
  replace kY := kY.alloc (.cells #[.slice (some ⟨gH, 0, none⟩) (q + 1) cH', .slice (some ⟨gL, 0, none⟩) (q + 1) cL'] 24)
  replace kB := bwA kB (Nat.le_refl _) (.cells #[.slice (some ⟨gH, 0, none⟩) (q + 1) cH', .slice (some ⟨gL, 0, none⟩) (q + 1) cL'] 24)
  have zgH := (rH.lt gH rfl).1
  have zgL := (rL.lt gL rfl).1
  have rH' := rH.alloc (.cells #[.slice (some ⟨gH, 0, none⟩) (q + 1) cH', .slice (some ⟨gL, 0, none⟩) (q + 1) cL'] 24)
  have rL' := rL.alloc (.cells #[.slice (some ⟨gH, 0, none⟩) (q + 1) cH', .slice (some ⟨gL, 0, none⟩) (q + 1) cL'] 24)
  have hS3 : SeedAt bs (w2.alloc (.cells #[.slice (some ⟨gH, 0, none⟩) (q + 1) cH', .slice (some ⟨gL, 0, none⟩) (q + 1) cL'] 24)) := hS2.imp fun _ h => h.alloc _
  have h1 : (w2.alloc (.cells #[.slice (some ⟨gH, 0, none⟩) (q + 1) cH', .slice (some ⟨gL, 0, none⟩) (q + 1) cL'] 24)).cell? ⟨gH, 0, none⟩ = some (.int .i64 x0) := cell_later (bwA (Below.refl _ _) (Nat.le_refl _) _) g1
  go_upto_region 6 with fail
  clear g1 g2 HX rH rL hS2 e3 e4 e5 e6 e7
  obtain ⟨V, hV⟩ : ∃ V, Blk.wld kM = V := ⟨_, rfl⟩
  simp only [Blk.wld] at hV
  rw [hV] at kT kD kL kX kY kM kB rH' rL' h1 hS3 ⊢
  clear hV
  obtain ⟨bM, hbM⟩ : ∃ b, w2.heap.size = b := ⟨_, rfl⟩
  rw [hbM] at kM zbM yH ⊢
  clear hbM
  have HF := Lib.hid (fun (W : World) (h : Drawn bs V W) => And.intro (h.blk kT (by omega)) (And.intro (h.blk kD (by omega)) (And.intro (h.blk kM (by omega)) (h.cell h1 (by show gH ≠ bs; omega)))))
  have HG := Lib.hid (fun (W : World) (h : Drawn bs V W) => And.intro (h.row rH' zs1) (And.intro (h.row rL' zs1) (And.intro (h.blk kL (by omega)) (And.intro (h.blk kX (by omega)) (And.intro (h.blk kY (by omega)) (Drawn.below kB h (by omega)))))))
  have h0 := Drawn.refl hS3
  have e7 : (0 : Int) < (q : Int) + 1 := by omega
  have e8 : 0 < q + 1 := by omega
  have HU := Lib.hid (And.intro hU (And.intro hU0 hUq))
  clear kT kD kL kX kY kM kB rH' rL' h1 hS3 hU hU0 hUq
  go_cut [16, 17] (fun s16 s17 V => ∃ (bA bD : Nat), s16 = .slice (some ⟨bA, 0, none⟩) 3 3 ∧ s17 = .slice (some ⟨bD, 0, none⟩) 3 3 ∧ (∀ k, k < 3 → ∃ (aH aL : Option Addr) (n cH m cL : Nat) (H L : Nat → Int) (x y : Int), n ≤ 60 ∧ m ≤ 60 ∧ V.cell? ⟨bA, k * 2, none⟩ = some (.slice aH n cH) ∧ V.cell? ⟨bA, k * 2 + 1, none⟩ = some (.slice aL m cL) ∧ IntsAt V (.slice aH n cH) n H ∧ IntsAt V (.slice aL m cL) m L ∧ V.cell? ⟨bD, k * 2, none⟩ = some (.int .i64 x) ∧ V.cell? ⟨bD, k * 2 + 1, none⟩ = some (.int .i64 y)) ∧ (Blk V (w.heap.size + 1 + 1) #[.int .i64 l0, .int .i64 l1] 26 ∧ Blk V (w.heap.size + 1 + 1 + 1) #[.int .i64 b0, .int .i64 b1] 26 ∧ Blk V (w.heap.size + 1 + 1 + 1 + 1) #[.int .i64 t0, .int .i64 t1] 26) ∧ Below w.heap.size w V)
  case first =>
    refine wp_region_held_drew (S := (fun wx => Drawn bs V wx)) (by kernel_rfl) ?_ (fun hH => ?_)
    · (try dsimp only); (exact Drawn.drew h0.seed)
    refine tkY 0 (some 51) ?_ ?_ ?_
    rotate_left
    · intro w hS0; (try dsimp only at hS0); obtain ⟨kT, kD, kM, cM⟩ := HF.out _ hS0; obtain ⟨t0', t1'⟩ := kT.c2; obtain ⟨p0, p1⟩ := kD.c2; obtain ⟨m0, m1⟩ := kM.c2; have y1 := kT.lt; have y2 := kD.lt; have y3 := kM.lt; have y4 := World.block_lt_of_cell? _ _ cM;go_simp; (try with_reducible rfl)
    (try simp only [cq])
    refine tkY 1 (some 52) ?_ ?_ ?_
    rotate_left
    · intro w hS0; (try dsimp only at hS0); obtain ⟨kT, kD, kM, cM⟩ := HF.out _ hS0; obtain ⟨t0', t1'⟩ := kT.c2; obtain ⟨p0, p1⟩ := kD.c2; obtain ⟨m0, m1⟩ := kM.c2; have y1 := kT.lt; have y2 := kD.lt; have y3 := kM.lt; have y4 := World.block_lt_of_cell? _ _ cM;go_simp; (try with_reducible rfl)
    (try simp only [cq])
    refine tkY 2 (some 53) ?_ ?_ ?_
    rotate_left
    · intro w hS0; (try dsimp only at hS0); obtain ⟨kT, kD, kM, cM⟩ := HF.out _ hS0; obtain ⟨t0', t1'⟩ := kT.c2; obtain ⟨p0, p1⟩ := kD.c2; obtain ⟨m0, m1⟩ := kM.c2; have y1 := kT.lt; have y2 := kD.lt; have y3 := kM.lt; have y4 := World.block_lt_of_cell? _ _ cM;go_simp; (try with_reducible rfl)
    (try simp only [cq])
    refine tkY 4 (some 55) ?_ ?_ ?_
    rotate_left
    · intro w hS0; (try dsimp only at hS0); obtain ⟨kT, kD, kM, cM⟩ := HF.out _ hS0; obtain ⟨t0', t1'⟩ := kT.c2; obtain ⟨p0, p1⟩ := kD.c2; obtain ⟨m0, m1⟩ := kM.c2; have y1 := kT.lt; have y2 := kD.lt; have y3 := kM.lt; have y4 := World.block_lt_of_cell? _ _ cM;go_simp; (try with_reducible rfl)
    (try simp only [cq])
    refine tkY 5 (some 56) ?_ ?_ ?_
    rotate_left
    · intro w _; go_simp; (try with_reducible rfl)
    (try simp only [cq])
    refine tkY 6 (some 57) ?_ ?_ ?_
    rotate_left
    · intro w hS0; (try dsimp only at hS0); obtain ⟨kT, kD, kM, cM⟩ := HF.out _ hS0; obtain ⟨t0', t1'⟩ := kT.c2; obtain ⟨p0, p1⟩ := kD.c2; obtain ⟨m0, m1⟩ := kM.c2; have y1 := kT.lt; have y2 := kD.lt; have y3 := kM.lt; have y4 := World.block_lt_of_cell? _ _ cM;go_simp; (try with_reducible rfl)
    (try simp only [cq])
    refine tkY 7 (some 58) ?_ ?_ ?_
    rotate_left
    · intro w hS0; (try dsimp only at hS0); obtain ⟨kT, kD, kM, cM⟩ := HF.out _ hS0; obtain ⟨t0', t1'⟩ := kT.c2; obtain ⟨p0, p1⟩ := kD.c2; obtain ⟨m0, m1⟩ := kM.c2; have y1 := kT.lt; have y2 := kD.lt; have y3 := kM.lt; have y4 := World.block_lt_of_cell? _ _ cM;go_simp; (try with_reducible rfl)
    (try simp only [cq])
    refine tkY 8 (some 59) ?_ ?_ ?_
    rotate_left
    · intro w hS0; (try dsimp only at hS0); obtain ⟨kT, kD, kM, cM⟩ := HF.out _ hS0; obtain ⟨t0', t1'⟩ := kT.c2; obtain ⟨p0, p1⟩ := kD.c2; obtain ⟨m0, m1⟩ := kM.c2; have y1 := kT.lt; have y2 := kD.lt; have y3 := kM.lt; have y4 := World.block_lt_of_cell? _ _ cM;go_simp; (try with_reducible rfl)
    (try simp only [cq])
    refine tkY 9 (some 60) ?_ ?_ ?_
    rotate_left
    · intro w hS0; (try dsimp only at hS0); obtain ⟨kT, kD, kM, cM⟩ := HF.out _ hS0; obtain ⟨t0', t1'⟩ := kT.c2; obtain ⟨p0, p1⟩ := kD.c2; obtain ⟨m0, m1⟩ := kM.c2; have y1 := kT.lt; have y2 := kD.lt; have y3 := kM.lt; have y4 := World.block_lt_of_cell? _ _ cM;go_simp; (try with_reducible rfl)
    (try simp only [cq])
    refine tkY 10 (some 61) ?_ ?_ ?_
    rotate_left
    · intro w _; go_simp; (try with_reducible rfl)
    (try simp only [cq])
    refine tkY 12 (some 63) ?_ ?_ ?_
    rotate_left
    · intro w hS0; (try dsimp only at hS0); obtain ⟨kT, kD, kM, cM⟩ := HF.out _ hS0; obtain ⟨t0', t1'⟩ := kT.c2; obtain ⟨p0, p1⟩ := kD.c2; obtain ⟨m0, m1⟩ := kM.c2; have y1 := kT.lt; have y2 := kD.lt; have y3 := kM.lt; have y4 := World.block_lt_of_cell? _ _ cM;go_simp; (try with_reducible rfl)
    (try simp only [cq])
    refine wpAnyH_ready (rs := [3, 11]) (by kernel_rfl) (by simp) ?_
    refine arc (some 54) (fun K hK => ?_) ?_
    {
    have zA := hH.seed.choose_spec.lt
    go_simp
    first | refine oA hK ?_ (fun hH hA => ?_) | refine oD hK ?_ (fun hH hA => ?_)
    · exact hH.new _
    obtain ⟨bA, hbA⟩ : ∃ b, Blk.num hA = b := ⟨_, rfl⟩
    obtain ⟨Vn, hV⟩ : ∃ V, Blk.wld hA = V := ⟨_, rfl⟩
    simp only [Blk.num] at hbA
    simp only [Blk.wld] at hV
    (try (first | replace kD := awB hV kD | replace kD := awD hV kD))
    rw [hV] at hH hA ⊢
    rw [hbA] at hA ⊢
    replace zA : bs < bA := (by rw [← hbA]; exact zA)
    clear hV hbA
    have kA := hA
    clear hA
    clear hK K
    (try simp only [cq])
    refine wpAnyH_ready (rs := [11]) (by kernel_rfl) (by simp) ?_
    refine arc1 (some 62) fun K hK => ?_
    go_simp
    (refine (kspan_in x0 xq bs _ hH.seed (by have := HU.out; omega) (by have := HU.out; omega) HU.out.1).mono ?_; rintro e w' ⟨x, y, rfl, _, _, _, hd⟩; (try replace kA := hd.blk kA (by omega)))
    refine hK.out _ _ ?_ ?_
    · (exact hH.trans hd)
    (try clear hH); (try clear hd)
    intro hH
    clear hK K
    (try simp only [cq])
    refine tkY 14 (some 16) ?_ ?_ ?_
    rotate_left
    · intro w _; go_simp; (try with_reducible rfl)
    (try simp only [cq])
    refine wpAnyH_ready (rs := [13]) (by kernel_rfl) (by simp) ?_
    refine arc1 (some 64) fun K hK => ?_
    have zD := hH.seed.choose_spec.lt
    go_simp
    first | refine oA hK ?_ (fun hH hA => ?_) | refine oD hK ?_ (fun hH hA => ?_)
    · exact hH.new _
    obtain ⟨bD, hbA⟩ : ∃ b, Blk.num hA = b := ⟨_, rfl⟩
    obtain ⟨Vn, hV⟩ : ∃ V, Blk.wld hA = V := ⟨_, rfl⟩
    simp only [Blk.num] at hbA
    simp only [Blk.wld] at hV
    (try (first | replace kA := awB hV kA | replace kA := awD hV kA))
    rw [hV] at hH hA ⊢
    rw [hbA] at hA ⊢
    clear hV hbA
    have kD := hA
    clear hA
    clear hK K
    (try simp only [cq])
    refine tkY 15 (some 17) ?_ ?_ ?_
    rotate_left
    · intro w _; go_simp; (try with_reducible rfl)
    (try simp only [cq])
    refine wpAnyH_done (by kernel_rfl) ?_ _
    (try dsimp only [Act.put])
    (try simp only [cq])
    obtain ⟨rH, rL, kL, kX, kY, kB⟩ := HG.out _ hH
    clear hH
    go_wp2_with fail
    go_meet
    exact ⟨bA, bD, rfl, rfl, fun k hk => by
      obtain rfl | rfl | rfl : k = 0 ∨ k = 1 ∨ k = 2 := by omega
      · exact ⟨aH, aL, n, cH, m, cL, H, L, d0, d1, by omega, by omega, kA.cell 0 rfl, kA.cell 1 rfl, HH.out _ kB, HL.out _ kB, kD.cell 0 rfl, kD.cell 1 rfl⟩
      · exact ⟨some ⟨gH, 0, none⟩, some ⟨gL, 0, none⟩, q + 1, cH', q + 1, cL', X, Y, x, y, by omega, by omega, kA.cell 2 rfl, kA.cell 3 rfl, lat_of_row rH (by omega) (fun _ _ => rfl), lat_of_row rL (by omega) (fun _ _ => rfl), kD.cell 2 rfl, kD.cell 3 rfl⟩
      · exact ⟨some ⟨gH, 0, none⟩, some ⟨gL, 0, none⟩, q + 1, cH', q + 1, cL', X, Y, d0, d1, by omega, by omega, kA.cell 4 rfl, kA.cell 5 rfl, lat_of_row rH (by omega) (fun _ _ => rfl), lat_of_row rL (by omega) (fun _ _ => rfl), kD.cell 4 rfl, kD.cell 5 rfl⟩, ⟨kL, kX, kY⟩, kB⟩
    }
    refine arc (some 62) (fun K hK => ?_) ?_
    {
    go_simp
    (refine (kspan_in x0 xq bs _ hH.seed (by have := HU.out; omega) (by have := HU.out; omega) HU.out.1).mono ?_; rintro e w' ⟨x, y, rfl, _, _, _, hd⟩; (try replace kA := hd.blk kA (by omega)))
    refine hK.out _ _ ?_ ?_
    · (exact hH.trans hd)
    (try clear hH); (try clear hd)
    intro hH
    clear hK K
    (try simp only [cq])
    refine wpAnyH_ready (rs := [3, 13]) (by kernel_rfl) (by simp) ?_
    refine arc (some 54) (fun K hK => ?_) ?_
    {
    have zA := hH.seed.choose_spec.lt
    go_simp
    first | refine oA hK ?_ (fun hH hA => ?_) | refine oD hK ?_ (fun hH hA => ?_)
    · exact hH.new _
    obtain ⟨bA, hbA⟩ : ∃ b, Blk.num hA = b := ⟨_, rfl⟩
    obtain ⟨Vn, hV⟩ : ∃ V, Blk.wld hA = V := ⟨_, rfl⟩
    simp only [Blk.num] at hbA
    simp only [Blk.wld] at hV
    (try (first | replace kD := awB hV kD | replace kD := awD hV kD))
    rw [hV] at hH hA ⊢
    rw [hbA] at hA ⊢
    replace zA : bs < bA := (by rw [← hbA]; exact zA)
    clear hV hbA
    have kA := hA
    clear hA
    clear hK K
    (try simp only [cq])
    refine tkY 14 (some 16) ?_ ?_ ?_
    rotate_left
    · intro w _; go_simp; (try with_reducible rfl)
    (try simp only [cq])
    refine wpAnyH_ready (rs := [13]) (by kernel_rfl) (by simp) ?_
    refine arc1 (some 64) fun K hK => ?_
    have zD := hH.seed.choose_spec.lt
    go_simp
    first | refine oA hK ?_ (fun hH hA => ?_) | refine oD hK ?_ (fun hH hA => ?_)
    · exact hH.new _
    obtain ⟨bD, hbA⟩ : ∃ b, Blk.num hA = b := ⟨_, rfl⟩
    obtain ⟨Vn, hV⟩ : ∃ V, Blk.wld hA = V := ⟨_, rfl⟩
    simp only [Blk.num] at hbA
    simp only [Blk.wld] at hV
    (try (first | replace kA := awB hV kA | replace kA := awD hV kA))
    rw [hV] at hH hA ⊢
    rw [hbA] at hA ⊢
    clear hV hbA
    have kD := hA
    clear hA
    clear hK K
    (try simp only [cq])
    refine tkY 15 (some 17) ?_ ?_ ?_
    rotate_left
    · intro w _; go_simp; (try with_reducible rfl)
    (try simp only [cq])
    refine wpAnyH_done (by kernel_rfl) ?_ _
    (try dsimp only [Act.put])
    (try simp only [cq])
    obtain ⟨rH, rL, kL, kX, kY, kB⟩ := HG.out _ hH
    clear hH
    go_wp2_with fail
    go_meet
    exact ⟨bA, bD, rfl, rfl, fun k hk => by
      obtain rfl | rfl | rfl : k = 0 ∨ k = 1 ∨ k = 2 := by omega
      · exact ⟨aH, aL, n, cH, m, cL, H, L, d0, d1, by omega, by omega, kA.cell 0 rfl, kA.cell 1 rfl, HH.out _ kB, HL.out _ kB, kD.cell 0 rfl, kD.cell 1 rfl⟩
      · exact ⟨some ⟨gH, 0, none⟩, some ⟨gL, 0, none⟩, q + 1, cH', q + 1, cL', X, Y, x, y, by omega, by omega, kA.cell 2 rfl, kA.cell 3 rfl, lat_of_row rH (by omega) (fun _ _ => rfl), lat_of_row rL (by omega) (fun _ _ => rfl), kD.cell 2 rfl, kD.cell 3 rfl⟩
      · exact ⟨some ⟨gH, 0, none⟩, some ⟨gL, 0, none⟩, q + 1, cH', q + 1, cL', X, Y, d0, d1, by omega, by omega, kA.cell 4 rfl, kA.cell 5 rfl, lat_of_row rH (by omega) (fun _ _ => rfl), lat_of_row rL (by omega) (fun _ _ => rfl), kD.cell 4 rfl, kD.cell 5 rfl⟩, ⟨kL, kX, kY⟩, kB⟩
    }
    refine arc (some 64) (fun K hK => ?_) ?_
    {
    have zD := hH.seed.choose_spec.lt
    go_simp
    first | refine oA hK ?_ (fun hH hA => ?_) | refine oD hK ?_ (fun hH hA => ?_)
    · exact hH.new _
    obtain ⟨bD, hbA⟩ : ∃ b, Blk.num hA = b := ⟨_, rfl⟩
    obtain ⟨Vn, hV⟩ : ∃ V, Blk.wld hA = V := ⟨_, rfl⟩
    simp only [Blk.num] at hbA
    simp only [Blk.wld] at hV
    (try (first | replace kA := awB hV kA | replace kA := awD hV kA))
    rw [hV] at hH hA ⊢
    rw [hbA] at hA ⊢
    clear hV hbA
    have kD := hA
    clear hA
    clear hK K
    (try simp only [cq])
    refine wpAnyH_ready (rs := [3]) (by kernel_rfl) (by simp) ?_
    refine arc1 (some 54) fun K hK => ?_
    have zA := hH.seed.choose_spec.lt
    go_simp
    first | refine oA hK ?_ (fun hH hA => ?_) | refine oD hK ?_ (fun hH hA => ?_)
    · exact hH.new _
    obtain ⟨bA, hbA⟩ : ∃ b, Blk.num hA = b := ⟨_, rfl⟩
    obtain ⟨Vn, hV⟩ : ∃ V, Blk.wld hA = V := ⟨_, rfl⟩
    simp only [Blk.num] at hbA
    simp only [Blk.wld] at hV
    (try (first | replace kD := awB hV kD | replace kD := awD hV kD))
    rw [hV] at hH hA ⊢
    rw [hbA] at hA ⊢
    replace zA : bs < bA := (by rw [← hbA]; exact zA)
    clear hV hbA
    have kA := hA
    clear hA
    clear hK K
    (try simp only [cq])
    refine tkY 14 (some 16) ?_ ?_ ?_
    rotate_left
    · intro w _; go_simp; (try with_reducible rfl)
    (try simp only [cq])
    refine tkY 15 (some 17) ?_ ?_ ?_
    rotate_left
    · intro w _; go_simp; (try with_reducible rfl)
    (try simp only [cq])
    refine wpAnyH_done (by kernel_rfl) ?_ _
    (try dsimp only [Act.put])
    (try simp only [cq])
    obtain ⟨rH, rL, kL, kX, kY, kB⟩ := HG.out _ hH
    clear hH
    go_wp2_with fail
    go_meet
    exact ⟨bA, bD, rfl, rfl, fun k hk => by
      obtain rfl | rfl | rfl : k = 0 ∨ k = 1 ∨ k = 2 := by omega
      · exact ⟨aH, aL, n, cH, m, cL, H, L, d0, d1, by omega, by omega, kA.cell 0 rfl, kA.cell 1 rfl, HH.out _ kB, HL.out _ kB, kD.cell 0 rfl, kD.cell 1 rfl⟩
      · exact ⟨some ⟨gH, 0, none⟩, some ⟨gL, 0, none⟩, q + 1, cH', q + 1, cL', X, Y, x, y, by omega, by omega, kA.cell 2 rfl, kA.cell 3 rfl, lat_of_row rH (by omega) (fun _ _ => rfl), lat_of_row rL (by omega) (fun _ _ => rfl), kD.cell 2 rfl, kD.cell 3 rfl⟩
      · exact ⟨some ⟨gH, 0, none⟩, some ⟨gL, 0, none⟩, q + 1, cH', q + 1, cL', X, Y, d0, d1, by omega, by omega, kA.cell 4 rfl, kA.cell 5 rfl, lat_of_row rH (by omega) (fun _ _ => rfl), lat_of_row rL (by omega) (fun _ _ => rfl), kD.cell 4 rfl, kD.cell 5 rfl⟩, ⟨kL, kX, kY⟩, kB⟩
    }
    exact AllReadyH.nil
    }
    exact AllReadyH.nil
  case rest =>
    clear HF HG h0 HU HH HL
    obtain ⟨bA, bD, rfl, rfl, hG, ⟨kL, kX, kY⟩, jB⟩ := hcut
    obtain ⟨V, hV⟩ : ∃ V, Blk.wld kL = V := ⟨_, rfl⟩
    simp only [Blk.wld] at hV
    rw [hV] at hG jB kL kX kY ⊢
    clear hV
    have HG := Lib.hid hG
    clear hG
    have HB0 := Lib.hid jB
    have HS := Lib.hid (And.intro kL (And.intro kX kY))
    clear jB kL kX kY
    go_wp2_with fail
    go_loopw [18] (fun i wr => ∃ k : Nat, k ≤ 3 ∧ i = .int .i64 k ∧ Below V.heap.size V wr) (fun i _ => 3 - (intOf i).toNat)
    case atStart => exact ⟨0, by omega, rfl, Below.refl _ _⟩
    case round =>
      obtain ⟨k, hk, rfl, hB⟩ := hrel
      by_cases hlt : k < 3
      · obtain ⟨aH, aL, n, cH, m, cL, H, L, x, y, n60, m60, g1, g2, g3, g4, g5, g6⟩ := HG.out k hlt
        have hltI : (k : Int) < 3 := by omega
        have HV := Lib.hid (fun (W : World) (h : Below V.heap.size V W) => And.intro (cell_later h g1) (And.intro (cell_later h g2) (And.intro (cell_later h g5) (cell_later h g6))))
        have O1 := Lib.hid (fun (W : World) (h : Below V.heap.size V W) => own_any n (by omega) H _ W (g3.later h))
        have O2 := Lib.hid (fun (W : World) (h : Below V.heap.size V W) => own_any m (by omega) L _ W (g4.later h))
        have KR := Lib.hid (fun (W : World) (h : Below V.heap.size V W) => rvolume_any n m H L x y _ _ W (g3.later h) (g4.later h))
        have KV := Lib.hid (fun (W : World) (v1 v2 : Value) (h1 : IntsAt W v1 n H) (h2 : IntsAt W v2 m L) => volume_any n m H L x y v1 v2 W h1 h2)
        have KS := Lib.hid (fun (W : World) (h : Below V.heap.size V W) (v1 : Value) (h1 : IntsAt W v1 n H) => samei_ok n H H (fun _ _ => rfl) v1 _ W h1 (g3.later h))
        have KT := Lib.hid (fun (W : World) (h : Below V.heap.size V W) (v1 : Value) (h1 : IntsAt W v1 m L) => samei_ok m L L (fun _ _ => rfl) v1 _ W h1 (g4.later h))
        clear g1 g2 g3 g4 g5 g6 HG HB0 HS
        unfold volV at KR KV
        generalize volA n m H L x y = P at KR KV
        generalize volB n m H L x y = Q at KR KV
        generalize volE n m H L x y = E at KR KV
        go_upto_region 10 with fail
        go_cut [19] from 69 to 134 (fun s19 wx => ∃ (bO : Nat) (a1 a2 : Option Addr) (c1 c2 : Nat), s19 = .pointer (some ⟨bO, 0, none⟩) ∧ Blk wx bO #[.slice a1 n c1, .slice a2 m c2] 24 ∧ IntsAt wx (.slice a1 n c1) n H ∧ IntsAt wx (.slice a2 m c2) m L ∧ Below V.heap.size V wx)
        case first =>
          as_aux_lemma =>
          (
 refine wp_region_held_drew (S := (fun wx => Below V.heap.size V wx)) (by kernel_rfl) ?_ (fun hH => ?_)
 · (try dsimp only); (exact hB.drew)
 refine tkY 0 (some 71) ?_ ?_ ?_
 rotate_left
 · intro w _; go_simp; (try with_reducible rfl)
 (try simp only [cq])
 refine tkY 1 (some 72) ?_ ?_ ?_
 rotate_left
 · intro w _; go_simp; (try with_reducible rfl)
 (try simp only [cq])
 refine tkY 2 (some 73) ?_ ?_ ?_
 rotate_left
 · intro w hS0; (try dsimp only at hS0); have hSb := hS0; obtain ⟨r1, r2, r3, r4⟩ := HV.out _ hSb; have y1 := World.block_lt_of_cell? _ _ r1;go_simp; (try with_reducible rfl)
 (try simp only [cq])
 refine tkY 3 (some 74) ?_ ?_ ?_
 rotate_left
 · intro w hS0; (try dsimp only at hS0); have hSb := hS0; obtain ⟨r1, r2, r3, r4⟩ := HV.out _ hSb; have y1 := World.block_lt_of_cell? _ _ r1;go_simp; (try with_reducible rfl)
 (try simp only [cq])
 refine tkY 4 (some 75) ?_ ?_ ?_
 rotate_left
 · intro w hS0; (try dsimp only at hS0); have hSb := hS0; obtain ⟨r1, r2, r3, r4⟩ := HV.out _ hSb; have y1 := World.block_lt_of_cell? _ _ r1;go_simp; (try with_reducible rfl)
 (try simp only [cq])
 refine tkY 6 (some 77) ?_ ?_ ?_
 rotate_left
 · intro w _; go_simp; (try with_reducible rfl)
 (try simp only [cq])
 refine tkY 7 (some 78) ?_ ?_ ?_
 rotate_left
 · intro w _; go_simp; (try with_reducible rfl)
 (try simp only [cq])
 refine tkY 8 (some 79) ?_ ?_ ?_
 rotate_left
 · intro w hS0; (try dsimp only at hS0); have hSb := hS0; obtain ⟨r1, r2, r3, r4⟩ := HV.out _ hSb; have y1 := World.block_lt_of_cell? _ _ r1;go_simp; (try with_reducible rfl)
 (try simp only [cq])
 refine tkY 9 (some 80) ?_ ?_ ?_
 rotate_left
 · intro w hS0; (try dsimp only at hS0); have hSb := hS0; obtain ⟨r1, r2, r3, r4⟩ := HV.out _ hSb; have y1 := World.block_lt_of_cell? _ _ r1;go_simp; (try with_reducible rfl)
 (try simp only [cq])
 refine tkY 10 (some 81) ?_ ?_ ?_
 rotate_left
 · intro w hS0; (try dsimp only at hS0); have hSb := hS0; obtain ⟨r1, r2, r3, r4⟩ := HV.out _ hSb; have y1 := World.block_lt_of_cell? _ _ r1;go_simp; (try with_reducible rfl)
 (try simp only [cq])
 refine wpAnyH_ready (rs := [5, 13]) (by kernel_rfl) (by simp) ?_
 refine arc (some 76) (fun K hK => ?_) ?_
 {
 go_simp
 (have zc := hH.size; refine (O1.out _ hH).mono ?_; rintro e w' ⟨v1, rfl, _, r1, hbc⟩; replace r1 := ownsRow_base (b1 := V.heap.size) r1 (by simpa using zc); clear zc; (try replace kO := kO.call hbc); obtain ⟨a1, c1, hv1, -, -, -⟩ := row_at r1 (by omega); subst hv1)
 refine hK.out _ _ ?_ ?_
 · (exact hH.trans (hbc.mono hH.size))
 (try clear hH); (try clear hbc)
 intro hH
 clear hK K
 (try simp only [cq])
 refine wpAnyH_ready (rs := [11, 13]) (by kernel_rfl) (by simp) ?_
 refine arc (some 82) (fun K hK => ?_) ?_
 {
 go_simp
 (have zc := hH.size; refine (O2.out _ hH).mono ?_; rintro e w' ⟨v2, rfl, _, r2, hbc⟩; replace r2 := ownsRow_base (b1 := V.heap.size) r2 (by simpa using zc); clear zc; (try replace kO := kO.call hbc); replace r1 := row_call r1 hbc; obtain ⟨a2, c2, hv2, -, -, -⟩ := row_at r2 (by omega); subst hv2)
 refine hK.out _ _ ?_ ?_
 · (exact hH.trans (hbc.mono hH.size))
 (try clear hH); (try clear hbc)
 intro hH
 clear hK K
 (try simp only [cq])
 refine tkY 12 (some 83) ?_ ?_ ?_
 rotate_left
 · intro w _; go_simp; (try with_reducible rfl)
 (try simp only [cq])
 refine wpAnyH_ready (rs := [13]) (by kernel_rfl) (by simp) ?_
 refine arc1 (some 19) fun K hK => ?_
 have zO := hH.size
 go_simp
 first | refine oA hK ?_ (fun hH hA => ?_) | refine oD hK ?_ (fun hH hA => ?_)
 · exact hH.alloc hH.size _
 obtain ⟨bO, hbA⟩ : ∃ b, Blk.num hA = b := ⟨_, rfl⟩
 obtain ⟨Vn, hV⟩ : ∃ V, Blk.wld hA = V := ⟨_, rfl⟩
 simp only [Blk.num] at hbA
 simp only [Blk.wld] at hV
 rw [hV] at hH hA ⊢
 rw [hbA] at hA ⊢
 (try first | replace r1 := awR hV r1 | replace r1 := awR3 hV r1)
 (try first | replace r2 := awR hV r2 | replace r2 := awR3 hV r2)
 replace zO : V.heap.size ≤ bO := (by rw [← hbA]; exact zO)
 clear hV hbA
 have kO := hA
 clear hA
 clear hK K
 (try simp only [cq])
 refine wpAnyH_ready (rs := [14]) (by kernel_rfl) (by simp) ?_
 refine arc1 none fun K hK => ?_
 obtain ⟨q0, q1⟩ := kO.c2
 have fr0 := kO.free 0
 have fr1 := kO.free 1
 have zR := kO.lt
 have n1 := blk_row_ne2 kO r1 (by decide)
 have n2 := blk_row_ne2 kO r2 (by decide)
 have HQ := Lib.hid (And.intro ((kO.set 0 (.slice a1 n c1)).set 1 (.slice a2 m c2)) (And.intro (row_store (row_store r1 (b := bO) (o := 0) (u := .slice a1 n c1) (fun e => n1 bO e rfl)) (b := bO) (o := 1) (u := .slice a2 m c2) (fun e => n1 bO e rfl)) (And.intro (row_store (row_store r2 (b := bO) (o := 0) (u := .slice a1 n c1) (fun e => n2 bO e rfl)) (b := bO) (o := 1) (u := .slice a2 m c2) (fun e => n2 bO e rfl)) (below_set2 (c := bO) (j := 0) (k := 1) hH zO (.slice a1 n c1) (.slice a2 m c2)))))
 clear n1 n2
 go_simp
 refine hK.out _ _ ?_ ?_
 · exact HQ.out.2.2.2
 (try clear hH); (try clear hbc)
 intro hH
 clear hK K
 (try simp only [cq])
 refine wpAnyH_done (by kernel_rfl) ?_ _
 (try dsimp only [Act.put])
 (try simp only [cq])
 clear kO q0 q1 fr0 fr1 zR r1 r2
 go_wp2_with fail
 go_meet
 exact ⟨_, _, _, _, _, rfl, HQ.out.1, lat_of_row HQ.out.2.1 (by omega) (fun _ _ => rfl), lat_of_row HQ.out.2.2.1 (by omega) (fun _ _ => rfl), HQ.out.2.2.2⟩
 }
 refine arc (some 19) (fun K hK => ?_) ?_
 {
 have zO := hH.size
 go_simp
 first | refine oA hK ?_ (fun hH hA => ?_) | refine oD hK ?_ (fun hH hA => ?_)
 · exact hH.alloc hH.size _
 obtain ⟨bO, hbA⟩ : ∃ b, Blk.num hA = b := ⟨_, rfl⟩
 obtain ⟨Vn, hV⟩ : ∃ V, Blk.wld hA = V := ⟨_, rfl⟩
 simp only [Blk.num] at hbA
 simp only [Blk.wld] at hV
 rw [hV] at hH hA ⊢
 rw [hbA] at hA ⊢
 (try first | replace r1 := awR hV r1 | replace r1 := awR3 hV r1)
 (try first | replace r2 := awR hV r2 | replace r2 := awR3 hV r2)
 replace zO : V.heap.size ≤ bO := (by rw [← hbA]; exact zO)
 clear hV hbA
 have kO := hA
 clear hA
 clear hK K
 (try simp only [cq])
 refine wpAnyH_ready (rs := [11]) (by kernel_rfl) (by simp) ?_
 refine arc1 (some 82) fun K hK => ?_
 go_simp
 (have zc := hH.size; refine (O2.out _ hH).mono ?_; rintro e w' ⟨v2, rfl, _, r2, hbc⟩; replace r2 := ownsRow_base (b1 := V.heap.size) r2 (by simpa using zc); clear zc; (try replace kO := kO.call hbc); replace r1 := row_call r1 hbc; obtain ⟨a2, c2, hv2, -, -, -⟩ := row_at r2 (by omega); subst hv2)
 refine hK.out _ _ ?_ ?_
 · (exact hH.trans (hbc.mono hH.size))
 (try clear hH); (try clear hbc)
 intro hH
 clear hK K
 (try simp only [cq])
 refine tkY 12 (some 83) ?_ ?_ ?_
 rotate_left
 · intro w _; go_simp; (try with_reducible rfl)
 (try simp only [cq])
 refine wpAnyH_ready (rs := [14]) (by kernel_rfl) (by simp) ?_
 refine arc1 none fun K hK => ?_
 obtain ⟨q0, q1⟩ := kO.c2
 have fr0 := kO.free 0
 have fr1 := kO.free 1
 have zR := kO.lt
 have n1 := blk_row_ne2 kO r1 (by decide)
 have n2 := blk_row_ne2 kO r2 (by decide)
 have HQ := Lib.hid (And.intro ((kO.set 0 (.slice a1 n c1)).set 1 (.slice a2 m c2)) (And.intro (row_store (row_store r1 (b := bO) (o := 0) (u := .slice a1 n c1) (fun e => n1 bO e rfl)) (b := bO) (o := 1) (u := .slice a2 m c2) (fun e => n1 bO e rfl)) (And.intro (row_store (row_store r2 (b := bO) (o := 0) (u := .slice a1 n c1) (fun e => n2 bO e rfl)) (b := bO) (o := 1) (u := .slice a2 m c2) (fun e => n2 bO e rfl)) (below_set2 (c := bO) (j := 0) (k := 1) hH zO (.slice a1 n c1) (.slice a2 m c2)))))
 clear n1 n2
 go_simp
 refine hK.out _ _ ?_ ?_
 · exact HQ.out.2.2.2
 (try clear hH); (try clear hbc)
 intro hH
 clear hK K
 (try simp only [cq])
 refine wpAnyH_done (by kernel_rfl) ?_ _
 (try dsimp only [Act.put])
 (try simp only [cq])
 clear kO q0 q1 fr0 fr1 zR r1 r2
 go_wp2_with fail
 go_meet
 exact ⟨_, _, _, _, _, rfl, HQ.out.1, lat_of_row HQ.out.2.1 (by omega) (fun _ _ => rfl), lat_of_row HQ.out.2.2.1 (by omega) (fun _ _ => rfl), HQ.out.2.2.2⟩
 }
 exact AllReadyH.nil
 }
 refine arc (some 19) (fun K hK => ?_) ?_
 {
 have zO := hH.size
 go_simp
 first | refine oA hK ?_ (fun hH hA => ?_) | refine oD hK ?_ (fun hH hA => ?_)
 · exact hH.alloc hH.size _
 obtain ⟨bO, hbA⟩ : ∃ b, Blk.num hA = b := ⟨_, rfl⟩
 obtain ⟨Vn, hV⟩ : ∃ V, Blk.wld hA = V := ⟨_, rfl⟩
 simp only [Blk.num] at hbA
 simp only [Blk.wld] at hV
 rw [hV] at hH hA ⊢
 rw [hbA] at hA ⊢
 (try first | replace r1 := awR hV r1 | replace r1 := awR3 hV r1)
 (try first | replace r2 := awR hV r2 | replace r2 := awR3 hV r2)
 replace zO : V.heap.size ≤ bO := (by rw [← hbA]; exact zO)
 clear hV hbA
 have kO := hA
 clear hA
 clear hK K
 (try simp only [cq])
 refine wpAnyH_ready (rs := [5]) (by kernel_rfl) (by simp) ?_
 refine arc1 (some 76) fun K hK => ?_
 go_simp
 (have zc := hH.size; refine (O1.out _ hH).mono ?_; rintro e w' ⟨v1, rfl, _, r1, hbc⟩; replace r1 := ownsRow_base (b1 := V.heap.size) r1 (by simpa using zc); clear zc; (try replace kO := kO.call hbc); obtain ⟨a1, c1, hv1, -, -, -⟩ := row_at r1 (by omega); subst hv1)
 refine hK.out _ _ ?_ ?_
 · (exact hH.trans (hbc.mono hH.size))
 (try clear hH); (try clear hbc)
 intro hH
 clear hK K
 (try simp only [cq])
 refine wpAnyH_ready (rs := [11]) (by kernel_rfl) (by simp) ?_
 refine arc1 (some 82) fun K hK => ?_
 go_simp
 (have zc := hH.size; refine (O2.out _ hH).mono ?_; rintro e w' ⟨v2, rfl, _, r2, hbc⟩; replace r2 := ownsRow_base (b1 := V.heap.size) r2 (by simpa using zc); clear zc; (try replace kO := kO.call hbc); replace r1 := row_call r1 hbc; obtain ⟨a2, c2, hv2, -, -, -⟩ := row_at r2 (by omega); subst hv2)
 refine hK.out _ _ ?_ ?_
 · (exact hH.trans (hbc.mono hH.size))
 (try clear hH); (try clear hbc)
 intro hH
 clear hK K
 (try simp only [cq])
 refine tkY 12 (some 83) ?_ ?_ ?_
 rotate_left
 · intro w _; go_simp; (try with_reducible rfl)
 (try simp only [cq])
 refine wpAnyH_ready (rs := [14]) (by kernel_rfl) (by simp) ?_
 refine arc1 none fun K hK => ?_
 obtain ⟨q0, q1⟩ := kO.c2
 have fr0 := kO.free 0
 have fr1 := kO.free 1
 have zR := kO.lt
 have n1 := blk_row_ne2 kO r1 (by decide)
 have n2 := blk_row_ne2 kO r2 (by decide)
 have HQ := Lib.hid (And.intro ((kO.set 0 (.slice a1 n c1)).set 1 (.slice a2 m c2)) (And.intro (row_store (row_store r1 (b := bO) (o := 0) (u := .slice a1 n c1) (fun e => n1 bO e rfl)) (b := bO) (o := 1) (u := .slice a2 m c2) (fun e => n1 bO e rfl)) (And.intro (row_store (row_store r2 (b := bO) (o := 0) (u := .slice a1 n c1) (fun e => n2 bO e rfl)) (b := bO) (o := 1) (u := .slice a2 m c2) (fun e => n2 bO e rfl)) (below_set2 (c := bO) (j := 0) (k := 1) hH zO (.slice a1 n c1) (.slice a2 m c2)))))
 clear n1 n2
 go_simp
 refine hK.out _ _ ?_ ?_
 · exact HQ.out.2.2.2
 (try clear hH); (try clear hbc)
 intro hH
 clear hK K
 (try simp only [cq])
 refine wpAnyH_done (by kernel_rfl) ?_ _
 (try dsimp only [Act.put])
 (try simp only [cq])
 clear kO q0 q1 fr0 fr1 zR r1 r2
 go_wp2_with fail
 go_meet
 exact ⟨_, _, _, _, _, rfl, HQ.out.1, lat_of_row HQ.out.2.1 (by omega) (fun _ _ => rfl), lat_of_row HQ.out.2.2.1 (by omega) (fun _ _ => rfl), HQ.out.2.2.2⟩
 }
 exact AllReadyH.nil )
        case rest =>
          clear hB O1 O2
          obtain ⟨bO, a1, a2, c1, c2, rfl, kO, i1, i2, hB⟩ := hcut
          obtain ⟨U, hU⟩ : ∃ V, Blk.wld kO = V := ⟨_, rfl⟩
          simp only [Blk.wld] at hU
          rw [hU] at kO i1 i2 hB ⊢
          clear hU
          have HO := Lib.hid (fun (W : World) (h : Below U.heap.size U W) => And.intro (kO.call h) (hB.trans (h.mono hB.size)))
          have HVO := Lib.hid (fun (W : World) (h : Below U.heap.size U W) => KV.out W _ _ (i1.later h) (i2.later h))
          have HS1 := Lib.hid (fun (W : World) (h : Below U.heap.size U W) => KS.out W (hB.trans (h.mono hB.size)) _ (i1.later h))
          have HS2 := Lib.hid (fun (W : World) (h : Below U.heap.size U W) => KT.out W (hB.trans (h.mono hB.size)) _ (i2.later h))
          clear kO i1 i2 hB KV KS KT
          have hB := Below.refl U.heap.size U
          go_upto_region 11 with fail
          go_cut [20, 21] from 69 to 134 (fun s20 s21 wx => ∃ bX : Nat, s20 = .pointer (some ⟨bX, 0, none⟩) ∧ s21 = .int .i64 E ∧ Blk wx bX #[.int .i64 P, .int .i64 Q] 26 ∧ Below U.heap.size U wx)
          case first =>
            as_aux_lemma =>
            (
 let S9 : World → Prop := (fun wx => Below U.heap.size U wx)
 refine wp_region_held_drew (S := S9) (by kernel_rfl) ?_ (fun hH => ?_)
 · (try dsimp only); (exact hB.drew)
 apply share0 (fun (bA : Nat) (W : World) => S9 W ∧ Blk W bA #[.int .i64 0, .int .i64 0] 26 ∧ (U.heap.size ≤ bA))
 {
 intro X1
 apply share0 (fun (bA : Nat) (W : World) => S9 W ∧ Blk W bA #[.int .i64 0, .int .i64 0] 26 ∧ (U.heap.size ≤ bA))
 {
 intro X0
 refine tkY 0 (some 85) ?_ ?_ ?_
 rotate_left
 · intro w hS0; (try dsimp only at hS0); have hSb := HO.out _ hS0; obtain ⟨k1, hSc⟩ := hSb; obtain ⟨o1, o2⟩ := k1.c2; obtain ⟨r1, r2, r3, r4⟩ := HV.out _ hSc; have y1 := World.block_lt_of_cell? _ _ r1; have y3 := World.block_lt_of_cell? _ _ r3; have y4 := k1.lt;go_simp; (try with_reducible rfl)
 (try simp only [cq])
 refine tkY 1 (some 86) ?_ ?_ ?_
 rotate_left
 · intro w _; go_simp; (try with_reducible rfl)
 (try simp only [cq])
 refine tkY 2 (some 87) ?_ ?_ ?_
 rotate_left
 · intro w _; go_simp; (try with_reducible rfl)
 (try simp only [cq])
 refine tkY 3 (some 88) ?_ ?_ ?_
 rotate_left
 · intro w hS0; (try dsimp only at hS0); have hSb := HO.out _ hS0; obtain ⟨k1, hSc⟩ := hSb; obtain ⟨o1, o2⟩ := k1.c2; obtain ⟨r1, r2, r3, r4⟩ := HV.out _ hSc; have y1 := World.block_lt_of_cell? _ _ r1; have y3 := World.block_lt_of_cell? _ _ r3; have y4 := k1.lt;go_simp; (try with_reducible rfl)
 (try simp only [cq])
 refine tkY 4 (some 89) ?_ ?_ ?_
 rotate_left
 · intro w hS0; (try dsimp only at hS0); have hSb := HO.out _ hS0; obtain ⟨k1, hSc⟩ := hSb; obtain ⟨o1, o2⟩ := k1.c2; obtain ⟨r1, r2, r3, r4⟩ := HV.out _ hSc; have y1 := World.block_lt_of_cell? _ _ r1; have y3 := World.block_lt_of_cell? _ _ r3; have y4 := k1.lt;go_simp; (try with_reducible rfl)
 (try simp only [cq])
 refine wpAnyH_ready (rs := [5, 9]) (by kernel_rfl) (by simp) ?_
 refine arc (some 90) (fun K hK => ?_) ?_
 {
 go_simp
 (refine (HVO.out _ hH).mono ?_; rintro e w' ⟨rfl, hbc⟩; (try replace hA := hA.call hbc))
 refine hK.out _ _ ?_ ?_
 · (exact hH.trans (hbc.mono hH.size))
 (try clear hH); (try clear hbc)
 intro hH
 clear hK K
 (try simp only [cq])
 refine tkY 6 (some 84) ?_ ?_ ?_
 rotate_left
 · intro w _; go_simp; (try with_reducible rfl)
 (try simp only [cq])
 refine tkY 7 (some 91) ?_ ?_ ?_
 rotate_left
 · intro w _; go_simp; (try with_reducible rfl)
 (try simp only [cq])
 refine tkY 8 (some 92) ?_ ?_ ?_
 rotate_left
 · intro w _; go_simp; (try with_reducible rfl)
 (try simp only [cq])
 refine wpAnyH_ready (rs := [9]) (by kernel_rfl) (by simp) ?_
 refine arc1 (some 20) fun K hK => ?_
 (have hN1 := hH.size; (try simp only [World.drew] at hN1))
 go_simp
 first | refine oA hK ?_ (fun hH hA => ?_) | refine oD hK ?_ (fun hH hA => ?_)
 · exact hH.alloc hH.size _
 clear hK K
 (try simp only [cq])
 obtain ⟨bA, hbA⟩ : ∃ b, Blk.num hA = b := ⟨_, rfl⟩
 obtain ⟨W, hW⟩ : ∃ V, Blk.wld hA = V := ⟨_, rfl⟩
 simp only [Blk.num] at hbA
 simp only [Blk.wld] at hW
 rw [hW] at hH hA ⊢
 rw [hbA] at hA ⊢
 replace hN1 : U.heap.size ≤ bA := (by rw [← hbA]; exact hN1)
 clear hW hbA
 exact X1  bA W ⟨hH, hA, hN1⟩
 }
 refine arc (some 20) (fun K hK => ?_) ?_
 {
 (have hN1 := hH.size; (try simp only [World.drew] at hN1))
 go_simp
 first | refine oA hK ?_ (fun hH hA => ?_) | refine oD hK ?_ (fun hH hA => ?_)
 · exact hH.alloc hH.size _
 clear hK K
 (try simp only [cq])
 obtain ⟨bA, hbA⟩ : ∃ b, Blk.num hA = b := ⟨_, rfl⟩
 obtain ⟨W, hW⟩ : ∃ V, Blk.wld hA = V := ⟨_, rfl⟩
 simp only [Blk.num] at hbA
 simp only [Blk.wld] at hW
 rw [hW] at hH hA ⊢
 rw [hbA] at hA ⊢
 replace hN1 : U.heap.size ≤ bA := (by rw [← hbA]; exact hN1)
 clear hW hbA
 exact X0  bA W ⟨hH, hA, hN1⟩
 }
 exact AllReadyH.nil
 }
 {
 intro bA W hall
 obtain ⟨hH, hA, hN1⟩ := hall
 (try dsimp only at hH)
 refine wpAnyH_ready (rs := [5]) (by kernel_rfl) (by simp) ?_
 refine arc1 (some 90) fun K hK => ?_
 go_simp
 (refine (HVO.out _ hH).mono ?_; rintro e w' ⟨rfl, hbc⟩; (try replace hA := hA.call hbc))
 refine hK.out _ _ ?_ ?_
 · (exact hH.trans (hbc.mono hH.size))
 (try clear hH); (try clear hbc)
 intro hH
 clear hK K
 (try simp only [cq])
 refine tkY 6 (some 84) ?_ ?_ ?_
 rotate_left
 · intro w _; go_simp; (try with_reducible rfl)
 (try simp only [cq])
 refine tkY 7 (some 91) ?_ ?_ ?_
 rotate_left
 · intro w _; go_simp; (try with_reducible rfl)
 (try simp only [cq])
 refine tkY 8 (some 92) ?_ ?_ ?_
 rotate_left
 · intro w _; go_simp; (try with_reducible rfl)
 (try simp only [cq])
 exact X1  bA w' ⟨hH, hA, hN1⟩
 }
 }
 {
 intro bA W hall
 obtain ⟨hH, hA, hN1⟩ := hall
 (try dsimp only at hH)
 refine wpAnyH_ready (rs := [10]) (by kernel_rfl) (by simp) ?_
 refine arc1 none fun K hK => ?_
 obtain ⟨r0, r1⟩ := hA.c2
 have fr0 := hA.free 0
 have fr1 := hA.free 1
 have zR := hA.lt
 have HS := Lib.hid (show Blk _ bA #[.int .i64 P, .int .i64 Q] _ from (hA.set 0 (.int .i64 P)).set 1 (.int .i64 Q))
 go_simp
 refine hK.out _ _ ?_ ?_
 · exact below_set2 hH hN1 _ _
 (try clear hH); (try clear hbc)
 intro hH
 clear hK K
 (try simp only [cq])
 refine tkY 11 (some 21) ?_ ?_ ?_
 rotate_left
 · intro w _; go_simp; (try with_reducible rfl)
 (try simp only [cq])
 refine wpAnyH_done (by kernel_rfl) ?_ _
 (try dsimp only [Act.put])
 (try simp only [cq])
 clear hA r0 r1 fr0 fr1 zR
 go_wp2_with fail
 go_meet
 exact ⟨_, rfl, rfl, HS.out, hH⟩
 } )
          case rest =>
            clear hB HVO
            obtain ⟨bX, rfl, rfl, kX, hB⟩ := hcut
            go_upto_region 12 with fail
            go_cut [22, 23] from 69 to 134 (fun s22 s23 wx => ∃ bY : Nat, s22 = .pointer (some ⟨bY, 0, none⟩) ∧ s23 = .int .i64 E ∧ Blk wx bY #[.int .i64 P, .int .i64 Q] 26 ∧ Blk wx bX #[.int .i64 P, .int .i64 Q] 26 ∧ Below U.heap.size U wx)
            case first =>
              as_aux_lemma =>
              (
 let S9 : World → Prop := (fun wx => Below U.heap.size U wx ∧ Blk wx bX #[.int .i64 P, .int .i64 Q] 26)
 refine wp_region_held_drew (S := S9) (by kernel_rfl) ?_ (fun hH => ?_)
 · (try dsimp only); (exact ⟨hB.drew, kX.drew⟩)
 apply share0 (fun (bA : Nat) (W : World) => S9 W ∧ Blk W bA #[.int .i64 0, .int .i64 0] 26 ∧ (U.heap.size ≤ bA) ∧ (bX < bA))
 {
 intro X1
 apply share0 (fun (bA : Nat) (W : World) => S9 W ∧ Blk W bA #[.int .i64 0, .int .i64 0] 26 ∧ (U.heap.size ≤ bA) ∧ (bX < bA))
 {
 intro X0
 refine tkY 0 (some 94) ?_ ?_ ?_
 rotate_left
 · intro w _; go_simp; (try with_reducible rfl)
 (try simp only [cq])
 refine tkY 1 (some 95) ?_ ?_ ?_
 rotate_left
 · intro w _; go_simp; (try with_reducible rfl)
 (try simp only [cq])
 refine tkY 2 (some 96) ?_ ?_ ?_
 rotate_left
 · intro w hS0; (try dsimp only at hS0); have hSb := HO.out _ hS0.1; obtain ⟨k1, hSc⟩ := hSb; obtain ⟨r1, r2, r3, r4⟩ := HV.out _ hSc; have y1 := World.block_lt_of_cell? _ _ r1; have y3 := World.block_lt_of_cell? _ _ r3;go_simp; (try with_reducible rfl)
 (try simp only [cq])
 refine tkY 3 (some 97) ?_ ?_ ?_
 rotate_left
 · intro w hS0; (try dsimp only at hS0); have hSb := HO.out _ hS0.1; obtain ⟨k1, hSc⟩ := hSb; obtain ⟨r1, r2, r3, r4⟩ := HV.out _ hSc; have y1 := World.block_lt_of_cell? _ _ r1; have y3 := World.block_lt_of_cell? _ _ r3;go_simp; (try with_reducible rfl)
 (try simp only [cq])
 refine tkY 4 (some 98) ?_ ?_ ?_
 rotate_left
 · intro w _; go_simp; (try with_reducible rfl)
 (try simp only [cq])
 refine tkY 5 (some 99) ?_ ?_ ?_
 rotate_left
 · intro w _; go_simp; (try with_reducible rfl)
 (try simp only [cq])
 refine tkY 6 (some 100) ?_ ?_ ?_
 rotate_left
 · intro w hS0; (try dsimp only at hS0); have hSb := HO.out _ hS0.1; obtain ⟨k1, hSc⟩ := hSb; obtain ⟨r1, r2, r3, r4⟩ := HV.out _ hSc; have y1 := World.block_lt_of_cell? _ _ r1; have y3 := World.block_lt_of_cell? _ _ r3;go_simp; (try with_reducible rfl)
 (try simp only [cq])
 refine tkY 7 (some 101) ?_ ?_ ?_
 rotate_left
 · intro w hS0; (try dsimp only at hS0); have hSb := HO.out _ hS0.1; obtain ⟨k1, hSc⟩ := hSb; obtain ⟨r1, r2, r3, r4⟩ := HV.out _ hSc; have y1 := World.block_lt_of_cell? _ _ r1; have y3 := World.block_lt_of_cell? _ _ r3;go_simp; (try with_reducible rfl)
 (try simp only [cq])
 refine wpAnyH_ready (rs := [8, 12]) (by kernel_rfl) (by simp) ?_
 refine arc (some 102) (fun K hK => ?_) ?_
 {
 go_simp
 (refine (KR.out _ (HO.out _ hH.1).2).mono ?_; rintro e w' ⟨rfl, hbc⟩; (try replace hA := hA.call hbc))
 refine hK.out _ _ ?_ ?_
 · (exact ⟨hH.1.trans (hbc.mono hH.1.size), hH.2.call hbc⟩)
 (try clear hH); (try clear hbc)
 intro hH
 clear hK K
 (try simp only [cq])
 refine tkY 9 (some 93) ?_ ?_ ?_
 rotate_left
 · intro w _; go_simp; (try with_reducible rfl)
 (try simp only [cq])
 refine tkY 10 (some 103) ?_ ?_ ?_
 rotate_left
 · intro w _; go_simp; (try with_reducible rfl)
 (try simp only [cq])
 refine tkY 11 (some 104) ?_ ?_ ?_
 rotate_left
 · intro w _; go_simp; (try with_reducible rfl)
 (try simp only [cq])
 refine wpAnyH_ready (rs := [12]) (by kernel_rfl) (by simp) ?_
 refine arc1 (some 22) fun K hK => ?_
 (have hN1 := hH.1.size; (try simp only [World.drew] at hN1)); (have hN2 := hH.2.lt; (try simp only [World.drew] at hN2))
 go_simp
 first | refine oA hK ?_ (fun hH hA => ?_) | refine oD hK ?_ (fun hH hA => ?_)
 · exact ⟨hH.1.alloc hH.1.size _, hH.2.alloc _⟩
 clear hK K
 (try simp only [cq])
 obtain ⟨bA, hbA⟩ : ∃ b, Blk.num hA = b := ⟨_, rfl⟩
 obtain ⟨W, hW⟩ : ∃ V, Blk.wld hA = V := ⟨_, rfl⟩
 simp only [Blk.num] at hbA
 simp only [Blk.wld] at hW
 rw [hW] at hH hA ⊢
 rw [hbA] at hA ⊢
 replace hN1 : U.heap.size ≤ bA := (by rw [← hbA]; exact hN1)
 replace hN2 : bX < bA := (by rw [← hbA]; exact hN2)
 clear hW hbA
 exact X1  bA W ⟨hH, hA, hN1, hN2⟩
 }
 refine arc (some 22) (fun K hK => ?_) ?_
 {
 (have hN1 := hH.1.size; (try simp only [World.drew] at hN1)); (have hN2 := hH.2.lt; (try simp only [World.drew] at hN2))
 go_simp
 first | refine oA hK ?_ (fun hH hA => ?_) | refine oD hK ?_ (fun hH hA => ?_)
 · exact ⟨hH.1.alloc hH.1.size _, hH.2.alloc _⟩
 clear hK K
 (try simp only [cq])
 obtain ⟨bA, hbA⟩ : ∃ b, Blk.num hA = b := ⟨_, rfl⟩
 obtain ⟨W, hW⟩ : ∃ V, Blk.wld hA = V := ⟨_, rfl⟩
 simp only [Blk.num] at hbA
 simp only [Blk.wld] at hW
 rw [hW] at hH hA ⊢
 rw [hbA] at hA ⊢
 replace hN1 : U.heap.size ≤ bA := (by rw [← hbA]; exact hN1)
 replace hN2 : bX < bA := (by rw [← hbA]; exact hN2)
 clear hW hbA
 exact X0  bA W ⟨hH, hA, hN1, hN2⟩
 }
 exact AllReadyH.nil
 }
 {
 intro bA W hall
 obtain ⟨hH, hA, hN1, hN2⟩ := hall
 (try dsimp only at hH)
 refine wpAnyH_ready (rs := [8]) (by kernel_rfl) (by simp) ?_
 refine arc1 (some 102) fun K hK => ?_
 go_simp
 (refine (KR.out _ (HO.out _ hH.1).2).mono ?_; rintro e w' ⟨rfl, hbc⟩; (try replace hA := hA.call hbc))
 refine hK.out _ _ ?_ ?_
 · (exact ⟨hH.1.trans (hbc.mono hH.1.size), hH.2.call hbc⟩)
 (try clear hH); (try clear hbc)
 intro hH
 clear hK K
 (try simp only [cq])
 refine tkY 9 (some 93) ?_ ?_ ?_
 rotate_left
 · intro w _; go_simp; (try with_reducible rfl)
 (try simp only [cq])
 refine tkY 10 (some 103) ?_ ?_ ?_
 rotate_left
 · intro w _; go_simp; (try with_reducible rfl)
 (try simp only [cq])
 refine tkY 11 (some 104) ?_ ?_ ?_
 rotate_left
 · intro w _; go_simp; (try with_reducible rfl)
 (try simp only [cq])
 exact X1  bA w' ⟨hH, hA, hN1, hN2⟩
 }
 }
 {
 intro bA W hall
 obtain ⟨hH, hA, hN1, hN2⟩ := hall
 (try dsimp only at hH)
 refine wpAnyH_ready (rs := [13]) (by kernel_rfl) (by simp) ?_
 refine arc1 none fun K hK => ?_
 obtain ⟨r0, r1⟩ := hA.c2
 have fr0 := hA.free 0
 have fr1 := hA.free 1
 have zR := hA.lt
 have HS := Lib.hid (show Blk _ bA #[.int .i64 P, .int .i64 Q] _ from (hA.set 0 (.int .i64 P)).set 1 (.int .i64 Q))
 go_simp
 refine hK.out _ _ ?_ ?_
 · exact ⟨below_set2 hH.1 hN1 _ _, (hH.2.other _ _ (by show bX ≠ bA; omega)).other _ _ (by show bX ≠ bA; omega)⟩
 (try clear hH); (try clear hbc)
 intro hH
 clear hK K
 (try simp only [cq])
 refine tkY 14 (some 23) ?_ ?_ ?_
 rotate_left
 · intro w _; go_simp; (try with_reducible rfl)
 (try simp only [cq])
 refine wpAnyH_done (by kernel_rfl) ?_ _
 (try dsimp only [Act.put])
 (try simp only [cq])
 clear hA r0 r1 fr0 fr1 zR
 go_wp2_with fail
 go_meet
 exact ⟨_, rfl, rfl, HS.out, hH.2, hH.1⟩
 } )
            case rest =>
              clear hB kX KR
              obtain ⟨bY, rfl, rfl, kY, kX, hB⟩ := hcut
              go_upto_region 13 with fail
              refine wp_region_held_drew (S := (fun wx => Below U.heap.size U wx ∧ Blk wx bX #[.int .i64 P, .int .i64 Q] 26 ∧ Blk wx bY #[.int .i64 P, .int .i64 Q] 26)) (by kernel_rfl) ?_ (fun hH => ?_)
              · (try dsimp only); (exact ⟨hB.drew, kX.drew, kY.drew⟩)
              refine tkY 0 (some 105) ?_ ?_ ?_
              rotate_left
              · intro w hS0; (try dsimp only at hS0); obtain ⟨kU, kX, kY⟩ := hS0; obtain ⟨x0, x1⟩ := kX.c2; obtain ⟨y0, y1⟩ := kY.c2; obtain ⟨k1, hSc⟩ := HO.out _ kU; obtain ⟨o1, o2⟩ := k1.c2; obtain ⟨r1, r2, r3, r4⟩ := HV.out _ hSc; have z1 := World.block_lt_of_cell? _ _ r1; have z2 := kX.lt; have z3 := kY.lt; have z4 := k1.lt;go_simp; (try with_reducible rfl)
              (try simp only [cq])
              refine tkY 1 (some 106) ?_ ?_ ?_
              rotate_left
              · intro w hS0; (try dsimp only at hS0); obtain ⟨kU, kX, kY⟩ := hS0; obtain ⟨x0, x1⟩ := kX.c2; obtain ⟨y0, y1⟩ := kY.c2; obtain ⟨k1, hSc⟩ := HO.out _ kU; obtain ⟨o1, o2⟩ := k1.c2; obtain ⟨r1, r2, r3, r4⟩ := HV.out _ hSc; have z1 := World.block_lt_of_cell? _ _ r1; have z2 := kX.lt; have z3 := kY.lt; have z4 := k1.lt;go_simp; (try with_reducible rfl)
              (try simp only [cq])
              refine tkY 2 (some 107) ?_ ?_ ?_
              rotate_left
              · intro w _; go_simp; (try with_reducible rfl)
              (try simp only [cq])
              refine tkY 3 (some 108) ?_ ?_ ?_
              rotate_left
              · intro w _; go_simp; (try with_reducible rfl)
              (try simp only [cq])
              refine tkY 4 (some 109) ?_ ?_ ?_
              rotate_left
              · intro w _; go_simp; (try with_reducible rfl)
              (try simp only [cq])
              refine tkY 5 (some 110) ?_ ?_ ?_
              rotate_left
              · intro w _; go_simp; (try with_reducible rfl)
              (try simp only [cq])
              refine tkY 6 (some 111) ?_ ?_ ?_
              rotate_left
              · intro w _; go_simp; (try with_reducible rfl)
              (try simp only [cq])
              refine tkY 7 (some 112) ?_ ?_ ?_
              rotate_left
              · intro w _; go_simp; (try with_reducible rfl)
              (try simp only [cq])
              refine tkY 8 (some 113) ?_ ?_ ?_
              rotate_left
              · intro w _; go_simp; (try with_reducible rfl)
              (try simp only [cq])
              refine tkY 9 (some 114) ?_ ?_ ?_
              rotate_left
              · intro w hS0; (try dsimp only at hS0); obtain ⟨kU, kX, kY⟩ := hS0; obtain ⟨x0, x1⟩ := kX.c2; obtain ⟨y0, y1⟩ := kY.c2; obtain ⟨k1, hSc⟩ := HO.out _ kU; obtain ⟨o1, o2⟩ := k1.c2; obtain ⟨r1, r2, r3, r4⟩ := HV.out _ hSc; have z1 := World.block_lt_of_cell? _ _ r1; have z2 := kX.lt; have z3 := kY.lt; have z4 := k1.lt;go_simp; (try with_reducible rfl)
              (try simp only [cq])
              refine tkY 10 (some 115) ?_ ?_ ?_
              rotate_left
              · intro w hS0; (try dsimp only at hS0); obtain ⟨kU, kX, kY⟩ := hS0; obtain ⟨x0, x1⟩ := kX.c2; obtain ⟨y0, y1⟩ := kY.c2; obtain ⟨k1, hSc⟩ := HO.out _ kU; obtain ⟨o1, o2⟩ := k1.c2; obtain ⟨r1, r2, r3, r4⟩ := HV.out _ hSc; have z1 := World.block_lt_of_cell? _ _ r1; have z2 := kX.lt; have z3 := kY.lt; have z4 := k1.lt;go_simp; (try with_reducible rfl)
              (try simp only [cq])
              refine tkY 11 (some 116) ?_ ?_ ?_
              rotate_left
              · intro w _; go_simp; (try with_reducible rfl)
              (try simp only [cq])
              refine tkY 12 (some 117) ?_ ?_ ?_
              rotate_left
              · intro w _; go_simp; (try with_reducible rfl)
              (try simp only [cq])
              refine tkY 13 (some 118) ?_ ?_ ?_
              rotate_left
              · intro w hS0; (try dsimp only at hS0); obtain ⟨kU, kX, kY⟩ := hS0; obtain ⟨x0, x1⟩ := kX.c2; obtain ⟨y0, y1⟩ := kY.c2; obtain ⟨k1, hSc⟩ := HO.out _ kU; obtain ⟨o1, o2⟩ := k1.c2; obtain ⟨r1, r2, r3, r4⟩ := HV.out _ hSc; have z1 := World.block_lt_of_cell? _ _ r1; have z2 := kX.lt; have z3 := kY.lt; have z4 := k1.lt;go_simp; (try with_reducible rfl)
              (try simp only [cq])
              refine tkY 14 (some 119) ?_ ?_ ?_
              rotate_left
              · intro w hS0; (try dsimp only at hS0); obtain ⟨kU, kX, kY⟩ := hS0; obtain ⟨x0, x1⟩ := kX.c2; obtain ⟨y0, y1⟩ := kY.c2; obtain ⟨k1, hSc⟩ := HO.out _ kU; obtain ⟨o1, o2⟩ := k1.c2; obtain ⟨r1, r2, r3, r4⟩ := HV.out _ hSc; have z1 := World.block_lt_of_cell? _ _ r1; have z2 := kX.lt; have z3 := kY.lt; have z4 := k1.lt;go_simp; (try with_reducible rfl)
              (try simp only [cq])
              refine tkY 15 (some 120) ?_ ?_ ?_
              rotate_left
              · intro w hS0; (try dsimp only at hS0); obtain ⟨kU, kX, kY⟩ := hS0; obtain ⟨x0, x1⟩ := kX.c2; obtain ⟨y0, y1⟩ := kY.c2; obtain ⟨k1, hSc⟩ := HO.out _ kU; obtain ⟨o1, o2⟩ := k1.c2; obtain ⟨r1, r2, r3, r4⟩ := HV.out _ hSc; have z1 := World.block_lt_of_cell? _ _ r1; have z2 := kX.lt; have z3 := kY.lt; have z4 := k1.lt;go_simp; (try with_reducible rfl)
              (try simp only [cq])
              refine wpAnyH_ready (rs := [16]) (by kernel_rfl) (by simp) ?_
              refine arc1 (some 121) fun K hK => ?_
              go_simp
              (refine (HS1.out _ hH.1).mono ?_; rintro e w' ⟨rfl, hbc⟩)
              refine hK.out _ _ ?_ ?_
              · (exact ⟨hH.1.trans (hbc.mono hH.1.size), hH.2.1.call hbc, hH.2.2.call hbc⟩)
              (try clear hH); (try clear hbc)
              intro hH
              clear hK K
              (try simp only [cq])
              refine tkY 17 (some 122) ?_ ?_ ?_
              rotate_left
              · intro w _; go_simp; (try with_reducible rfl)
              (try simp only [cq])
              refine tkY 18 (some 123) ?_ ?_ ?_
              rotate_left
              · intro w _; go_simp; (try with_reducible rfl)
              (try simp only [cq])
              refine tkY 19 (some 124) ?_ ?_ ?_
              rotate_left
              · intro w _; go_simp; (try with_reducible rfl)
              (try simp only [cq])
              refine tkY 20 (some 125) ?_ ?_ ?_
              rotate_left
              · intro w hS0; (try dsimp only at hS0); obtain ⟨kU, kX, kY⟩ := hS0; obtain ⟨x0, x1⟩ := kX.c2; obtain ⟨y0, y1⟩ := kY.c2; obtain ⟨k1, hSc⟩ := HO.out _ kU; obtain ⟨o1, o2⟩ := k1.c2; obtain ⟨r1, r2, r3, r4⟩ := HV.out _ hSc; have z1 := World.block_lt_of_cell? _ _ r1; have z2 := kX.lt; have z3 := kY.lt; have z4 := k1.lt;go_simp; (try with_reducible rfl)
              (try simp only [cq])
              refine tkY 21 (some 126) ?_ ?_ ?_
              rotate_left
              · intro w hS0; (try dsimp only at hS0); obtain ⟨kU, kX, kY⟩ := hS0; obtain ⟨x0, x1⟩ := kX.c2; obtain ⟨y0, y1⟩ := kY.c2; obtain ⟨k1, hSc⟩ := HO.out _ kU; obtain ⟨o1, o2⟩ := k1.c2; obtain ⟨r1, r2, r3, r4⟩ := HV.out _ hSc; have z1 := World.block_lt_of_cell? _ _ r1; have z2 := kX.lt; have z3 := kY.lt; have z4 := k1.lt;go_simp; (try with_reducible rfl)
              (try simp only [cq])
              refine tkY 22 (some 127) ?_ ?_ ?_
              rotate_left
              · intro w _; go_simp; (try with_reducible rfl)
              (try simp only [cq])
              refine tkY 23 (some 128) ?_ ?_ ?_
              rotate_left
              · intro w _; go_simp; (try with_reducible rfl)
              (try simp only [cq])
              refine tkY 24 (some 129) ?_ ?_ ?_
              rotate_left
              · intro w hS0; (try dsimp only at hS0); obtain ⟨kU, kX, kY⟩ := hS0; obtain ⟨x0, x1⟩ := kX.c2; obtain ⟨y0, y1⟩ := kY.c2; obtain ⟨k1, hSc⟩ := HO.out _ kU; obtain ⟨o1, o2⟩ := k1.c2; obtain ⟨r1, r2, r3, r4⟩ := HV.out _ hSc; have z1 := World.block_lt_of_cell? _ _ r1; have z2 := kX.lt; have z3 := kY.lt; have z4 := k1.lt;go_simp; (try with_reducible rfl)
              (try simp only [cq])
              refine tkY 25 (some 130) ?_ ?_ ?_
              rotate_left
              · intro w hS0; (try dsimp only at hS0); obtain ⟨kU, kX, kY⟩ := hS0; obtain ⟨x0, x1⟩ := kX.c2; obtain ⟨y0, y1⟩ := kY.c2; obtain ⟨k1, hSc⟩ := HO.out _ kU; obtain ⟨o1, o2⟩ := k1.c2; obtain ⟨r1, r2, r3, r4⟩ := HV.out _ hSc; have z1 := World.block_lt_of_cell? _ _ r1; have z2 := kX.lt; have z3 := kY.lt; have z4 := k1.lt;go_simp; (try with_reducible rfl)
              (try simp only [cq])
              refine tkY 26 (some 131) ?_ ?_ ?_
              rotate_left
              · intro w hS0; (try dsimp only at hS0); obtain ⟨kU, kX, kY⟩ := hS0; obtain ⟨x0, x1⟩ := kX.c2; obtain ⟨y0, y1⟩ := kY.c2; obtain ⟨k1, hSc⟩ := HO.out _ kU; obtain ⟨o1, o2⟩ := k1.c2; obtain ⟨r1, r2, r3, r4⟩ := HV.out _ hSc; have z1 := World.block_lt_of_cell? _ _ r1; have z2 := kX.lt; have z3 := kY.lt; have z4 := k1.lt;go_simp; (try with_reducible rfl)
              (try simp only [cq])
              refine wpAnyH_ready (rs := [27]) (by kernel_rfl) (by simp) ?_
              refine arc1 (some 132) fun K hK => ?_
              go_simp
              (refine (HS2.out _ hH.1).mono ?_; rintro e w' ⟨rfl, hbc⟩)
              refine hK.out _ _ ?_ ?_
              · (exact ⟨hH.1.trans (hbc.mono hH.1.size), hH.2.1.call hbc, hH.2.2.call hbc⟩)
              (try clear hH); (try clear hbc)
              intro hH
              clear hK K
              (try simp only [cq])
              refine tkY 28 (some 133) ?_ ?_ ?_
              rotate_left
              · intro w _; go_simp; (try with_reducible rfl)
              (try simp only [cq])
              refine tkY 29 (some 134) ?_ ?_ ?_
              rotate_left
              · intro w _; go_simp; (try with_reducible rfl)
              (try simp only [cq])
              refine wpAnyH_done (by kernel_rfl) ?_ _
              (try dsimp only [Act.put])
              (try simp only [cq])
              have hB2 := (HO.out _ hH.1).2
              clear hH hB kX kY HO HS1 HS2 HV
              go_wp2
              go_roundw
              case rel => exact ⟨k + 1, by omega, by go_num, hB2⟩
              case measure => simp [intOf]; omega
      · obtain rfl : k = 3 := by omega
        obtain ⟨kL, kX, kY⟩ := HS.out
        replace kL := kL.call hB
        replace kX := kX.call hB
        replace kY := kY.call hB
        have jB : Below w.heap.size w _ := HB0.out.trans (hB.mono HB0.out.size)
        have K1 := Lib.hid (fun (W : World) => std_any l0 l1 b0 b1 t0 t1 W)
        have K2 := Lib.hid (fun (W : World) => rstd_any l0 l1 b0 b1 t0 t1 W)
        clear hB HG HB0 HS
        generalize stdA l0 l1 b0 b1 t0 t1 = A at K1 K2
        generalize stdB l0 l1 b0 b1 t0 t1 = B at K1 K2
        generalize eStd l0 l1 b0 b1 t0 t1 = E at K1 K2
        obtain ⟨p0, p1⟩ := kL.c2
        obtain ⟨p2, p3⟩ := kX.c2
        obtain ⟨p4, p5⟩ := kY.c2
        go_wp2_with fail
        clear p0 p1 p2 p3 p4 p5
        refine (K1.out _).mono ?_
        rintro e w3 ⟨rfl, hb⟩
        have kP := Blk.new w3 #[.int .i64 A, .int .i64 B] 26
        replace kL := (kL.call hb).alloc (.cells #[.int .i64 A, .int .i64 B] 26)
        replace kX := (kX.call hb).alloc (.cells #[.int .i64 A, .int .i64 B] 26)
        replace kY := (kY.call hb).alloc (.cells #[.int .i64 A, .int .i64 B] 26)
        replace jB := bwA (bwS jB (Nat.le_refl _) hb) (Nat.le_refl _) (.cells #[.int .i64 A, .int .i64 B] 26)
        clear hb K1
        obtain ⟨p0, p1⟩ := kL.c2
        obtain ⟨p2, p3⟩ := kX.c2
        obtain ⟨p4, p5⟩ := kY.c2
        go_wp2_with fail
        clear p0 p1 p2 p3 p4 p5
        obtain ⟨U, hU⟩ : ∃ V, Blk.wld kP = V := ⟨_, rfl⟩
        simp only [Blk.wld] at hU
        rw [hU] at kP kL kX kY jB ⊢
        clear hU
        obtain ⟨bP, hbP⟩ : ∃ b, w3.heap.size = b := ⟨_, rfl⟩
        rw [hbP] at kP ⊢
        clear hbP
        refine (K2.out _).mono ?_
        rintro e w4 ⟨rfl, hb⟩
        have kQ := Blk.new w4 #[.int .i64 A, .int .i64 B] 26
        replace kP := (kP.call hb).alloc (.cells #[.int .i64 A, .int .i64 B] 26)
        replace jB := bwA (bwS jB (Nat.le_refl _) hb) (Nat.le_refl _) (.cells #[.int .i64 A, .int .i64 B] 26)
        clear hb K2 kL kX kY
        obtain ⟨p0, p1⟩ := kP.c2
        obtain ⟨p2, p3⟩ := kQ.c2
        go_wp2_with fail
        refine (HAw.out _).mono ?_
        rintro e w5 ⟨rfl, hb⟩
        replace jB := jB.trans (hb.mono jB.size)
        clear hb
        go_wp2
        go_ret
        exact ⟨rfl, jB⟩
end Go.Proofs.Ytegdflikeoiaaaa
