/-
  FuelDips: what is truly in a tank lies within what is said.
-/
import Derived.Test.YtegdflikeoiaaaaTail
import Derived.Test.YtegdflikeoiaaaaRvo
import Derived.Test.YtegdflikeoiaaaaTko
import Derived.Test.YtegdflikeoiaaaaDpm
import Derived.Test.YtegdflikeoiaaaaAwk
set_option linter.unusedVariables false
set_option linter.unusedSimpArgs false
namespace Go.Proofs.Ytegdflikeoiaaaa
open Go.RowKit

theorem firstNZ_none (x : Nat → Int) : ∀ m i, (∀ j, i ≤ j → j < i + m → x j = 0) → firstNZ x i m = 0
  | 0, _, _ => rfl
  | m + 1, i, h => by
    show orE (x i) (firstNZ x (i + 1) m) = 0
    unfold orE
    rw [if_pos (h i (by omega) (by omega))]
    exact firstNZ_none x m (i + 1) (fun j h1 h2 => h j (by omega) (by omega))
theorem TkUp.ok {n : Nat} {H L : Nat → Int} (t : TkUp n H L) (h2 : 2 ≤ n) (h6 : n ≤ 6) : TkOk n H L :=
  ⟨h2, by omega, fun i hi => by have := t.h i hi; omega, fun i hi => by have := t.l i hi; omega, t.hs, t.ls⟩
theorem TkOk.e {n : Nat} {H L : Nat → Int} (t : TkOk n H L) : eTank n n H L = 0 := by
  have h2 := t.n2
  have h40 := t.n40
  have h3 : eTn3 n n = 0 := by
    unfold eTn3 eLs eM
    rw [if_neg (by omega), if_neg (by omega), show ((n : Int) == n) = true by simp]
    rfl
  unfold eTank eL
  rw [if_pos h3, if_neg (by omega)]
  refine firstNZ_none _ _ _ (fun j _ hj => ?_)
  have a : (decide (0 ≤ H j) && decide (H j ≤ 100000)) = true := by have := t.h0 j (by omega); simp; omega
  have b : (decide (0 ≤ L j) && decide (L j ≤ 1000000000)) = true := by have := t.l0 j (by omega); simp; omega
  cases j with
  | zero => exact eTk_0 a b
  | succ j =>
    have c := t.hs j (by omega)
    have d := t.ls j (by omega)
    rw [eTk_s a b, if_neg (by omega)]
def VoN (q : Nat) (X Y : Nat → Int) (d0 d1 lo hi : Int) : Prop := ∃ i j, Part (q + 1) X d0 i ∧ Part (q + 1) X d1 j ∧ lo = ctLo X Y d0 i ∧ hi = ctHi X Y d1 j
theorem eS_ok {lo hi a b : Int} (h1 : a ≤ lo) (h2 : lo ≤ hi) (h3 : hi ≤ b) : eS lo hi a b = 0 := by
  have e1 : eN lo a b = 0 := if_neg (by omega)
  have e2 : eN hi a b = 0 := if_neg (by omega)
  have e3 : decide (lo ≤ hi) = true := decide_eq_true h2
  unfold eS eR
  rw [e1, e2, e3]
  rfl
theorem vo_in (q gH cH gL cL : Nat) (X Y : Nat → Int) (base : Nat) (d0 d1 : Int) (ok : TkOk (q + 1) X Y) (h0 : X 0 ≤ d0) (h1 : d0 ≤ d1) (h2 : d1 ≤ X q) (W : World) (rH : W.ownsRow base 3 1 (.slice (some ⟨gH, 0, none⟩) (q + 1) cH) (q + 1) (catC (inC X) (q + 1))) (rL : W.ownsRow base 3 1 (.slice (some ⟨gL, 0, none⟩) (q + 1) cL) (q + 1) (catC (inC Y) (q + 1))) :
    Calls Try.prog 19 #[.agg #[.slice (some ⟨gH, 0, none⟩) (q + 1) cH, .slice (some ⟨gL, 0, none⟩) (q + 1) cL], .agg #[.int .i64 d0, .int .i64 d1]] W fun e w' => ∃ lo hi, VoN q X Y d0 d1 lo hi ∧ e = .returned (.tuple #[.agg #[.int .i64 lo, .int .i64 hi], .int .i64 0]) ∧ Below W.heap.size W w' := by
  have hq := ok.n2
  obtain ⟨i, hi⟩ := part_ex ok h0 (q - 1) (by omega) (by rw [show q - 1 + 1 = q by omega]; omega)
  obtain ⟨j, hj⟩ := part_ex ok (show X 0 ≤ d1 by omega) (q - 1) (by omega) (by rw [show q - 1 + 1 = q by omega]; omega)
  have hE : volE (q + 1) (q + 1) X Y d0 d1 = 0 := (volE_2 ok.e).trans (eS_ok h0 h1 (by rw [Nat.add_sub_cancel]; exact h2))
  refine (volume_any (q + 1) (q + 1) X Y d0 d1 _ _ W (lat_of_row rH (by omega) (fun _ _ => rfl)) (lat_of_row rL (by omega) (fun _ _ => rfl))).mono ?_
  rintro e w' ⟨rfl, hb⟩
  exact ⟨_, _, ⟨i, j, hi, hj, rfl, rfl⟩, by rw [volV_yes hE hi hj], hb⟩
theorem VoN.sub {q : Nat} {X Y : Nat → Int} {d0 d1 a b p0 p1 c e : Int} (ok : TkOk (q + 1) X Y) (h : VoN q X Y d0 d1 a b) (k : VoN q X Y p0 p1 c e) (h0 : d0 ≤ p0) (h1 : p1 ≤ d1) : a ≤ c ∧ e ≤ b := by
  obtain ⟨i, j, hi, hj, rfl, rfl⟩ := h
  obtain ⟨i', j', hi', hj', rfl, rfl⟩ := k
  exact ⟨(ct_mono ok hi hi' h0).1, (ct_mono ok hj' hj h1).2⟩
theorem VoN.low {q : Nat} {X Y : Nat → Int} {d0 d1 a b p1 c e : Int} (ok : TkOk (q + 1) X Y) (h : VoN q X Y d0 d1 a b) (k : VoN q X Y d0 p1 c e) : c = a := by
  obtain ⟨i, j, hi, hj, rfl, rfl⟩ := h
  obtain ⟨i', j', hi', hj', rfl, rfl⟩ := k
  rw [Part.uniq ok.hs hi hi']
theorem VoN.bd {q : Nat} {X Y : Nat → Int} {d0 d1 a b : Int} (ok : TkOk (q + 1) X Y) (h : VoN q X Y d0 d1 a b) (hd : d0 ≤ d1) : 0 ≤ a ∧ a ≤ b ∧ b ≤ 1000000000 := by
  obtain ⟨i, j, hi, hj, rfl, rfl⟩ := h
  have p := part_in ok hi
  have r := part_in ok hj
  have m := ct_mono ok hi hj hd
  have l0 := ok.l0 i (by have := hi.k1; omega)
  have l1 := ok.l0 (j + 1) hj.k1
  omega
theorem VoN.one {q : Nat} {X Y : Nat → Int} {d a b : Int} (ok : TkOk (q + 1) X Y) (h : VoN q X Y d d a b) {k : Nat} (hk : Part (q + 1) X d k) : a = ctLo X Y d k ∧ b = ctHi X Y d k ∧ b ≤ a + 1 := by
  obtain ⟨i, j, hi, hj, rfl, rfl⟩ := h
  rw [Part.uniq ok.hs hi hk, Part.uniq ok.hs hj hk]
  have p := part_in ok hk
  exact ⟨rfl, rfl, p.2.2.2.2.2⟩
set_option maxRecDepth 100000 in
theorem in_yes (a0 a1 b0 b1 : Int) (h0 : b0 ≤ a0) (h1 : a1 ≤ b1) (w : World) : Calls Try.prog 60 #[.agg #[.int .i64 a0, .int .i64 a1], .agg #[.int .i64 b0, .int .i64 b1]] w fun e w' => e = .returned (.bool true) ∧ Below w.heap.size w w' := by
  have jA := (Blk.new w #[.int .i64 a0, .int .i64 a1] 26).alloc (.cells #[.int .i64 b0, .int .i64 b1] 26)
  have jB := Blk.new1 w (.cells #[.int .i64 a0, .int .i64 a1] 26) #[.int .i64 b0, .int .i64 b1] 26
  have kB : Below w.heap.size w ((w.alloc (.cells #[.int .i64 a0, .int .i64 a1] 26)).alloc (.cells #[.int .i64 b0, .int .i64 b1] 26)) := by (repeat (first | exact Below.refl _ _ | assumption | refine Below.drew ?_ | refine Below.drewN ?_ _ | refine blT ?_ | refine blU ?_))
  obtain ⟨c0, c1⟩ := jA.c2
  obtain ⟨d0, d1⟩ := jB.c2
  have e0 : decide (b0 ≤ a0) = true := decide_eq_true h0
  have e1 : decide (a1 ≤ b1) = true := decide_eq_true h1
  clear h0 h1
  go_enter Try.func60, Try.ntmps60
  go_wp2
  go_ret
  exact ⟨by simp [e0, e1], kB⟩

theorem eStd_ok {l0 l1 b0 b1 t0 t1 : Int} (hl0 : 0 ≤ l0) (hl1 : l0 ≤ l1) (hl2 : l1 ≤ 1000000000) (hb0 : 0 ≤ b0) (hb1 : b0 ≤ b1) (hb2 : b1 ≤ 200) (ht0 : -1000 ≤ t0) (ht1 : t0 ≤ t1) (ht2 : t1 ≤ 1000) : eStd l0 l1 b0 b1 t0 t1 = 0 := by
  have h1 : eLit l0 l1 = 0 := eS_ok hl0 hl1 hl2
  have h2 : eS b0 b1 0 200 = 0 := eS_ok hb0 hb1 hb2
  have h3 : eTen t0 t1 = 0 := eS_ok ht0 ht1 ht2
  unfold eStd orE
  rw [if_pos h1, if_pos h2, h3]
theorem std_ex (l0 l1 b0 b1 t0 t1 : Int) (hl0 : 0 ≤ l0) (hl1 : l0 ≤ l1) (hl2 : l1 ≤ 1000000000) (hb0 : 0 ≤ b0) (hb1 : b0 ≤ b1) (hb2 : b1 ≤ 200) (ht0 : -1000 ≤ t0) (ht1 : t0 ≤ t1) (ht2 : t1 ≤ 1000) (w : World) :
    Calls Try.prog 22 #[.agg #[.int .i64 l0, .int .i64 l1], .agg #[.int .i64 b0, .int .i64 b1], .agg #[.int .i64 t0, .int .i64 t1]] w fun e w' => ∃ x y, (x = stLo l0 b0 b1 t0 t1 ∧ y = stHi l1 b0 b1 t0 t1) ∧ e = .returned (.tuple #[.agg #[.int .i64 x, .int .i64 y], .int .i64 0]) ∧ Below w.heap.size w w' := by
  have hz := eStd_ok hl0 hl1 hl2 hb0 hb1 hb2 ht0 ht1 ht2
  refine (std_any l0 l1 b0 b1 t0 t1 w).mono ?_
  rintro e w' ⟨rfl, hb⟩
  exact ⟨_, _, ⟨rfl, rfl⟩, by rw [hz, show stdA l0 l1 b0 b1 t0 t1 = stLo l0 b0 b1 t0 t1 from if_pos hz, show stdB l0 l1 b0 b1 t0 t1 = stHi l1 b0 b1 t0 t1 from if_pos hz], hb⟩
theorem st_bd {l0 l1 b0 b1 t0 t1 : Int} (hl0 : 0 ≤ l0) (hl1 : l0 ≤ l1) (hl2 : l1 ≤ 1000000000) (hb0 : 0 ≤ b0) (hb1 : b0 ≤ b1) (hb2 : b1 ≤ 200) (ht0 : -1000 ≤ t0) (ht1 : t0 ≤ t1) (ht2 : t1 ≤ 1000) : 0 ≤ stLo l0 b0 b1 t0 t1 ∧ stLo l0 b0 b1 t0 t1 ≤ 1230000000 ∧ 0 ≤ stHi l1 b0 b1 t0 t1 ∧ stHi l1 b0 b1 t0 t1 ≤ 1230000001 := by
  have q0 := shk_bd hb0 (show b0 ≤ 200 by omega) ht0 (show t0 ≤ 1000 by omega)
  have q1 := shk_bd hb0 (show b0 ≤ 200 by omega) (show -1000 ≤ t1 by omega) ht2
  have q2 := shk_bd (show 0 ≤ b1 by omega) hb2 ht0 (show t0 ≤ 1000 by omega)
  have q3 := shk_bd (show 0 ≤ b1 by omega) hb2 (show -1000 ≤ t1 by omega) ht2
  have p0 := left_bd hl0 (show l0 ≤ 1000000000 by omega) (max4_bd q0 q1 q2 q3)
  have p1 := left_bd (show 0 ≤ l1 by omega) hl2 (min4_bd q0 q1 q2 q3)
  have e1 : stLo l0 b0 b1 t0 t1 = l0 * (1000000 - max4 (shk b0 t0) (shk b0 t1) (shk b1 t0) (shk b1 t1)) / 1000000 := rfl
  have e2 : stHi l1 b0 b1 t0 t1 = upQ (l1 * (1000000 - min4 (shk b0 t0) (shk b0 t1) (shk b1 t0) (shk b1 t1))) 1000000 := rfl
  rw [e1, e2]
  generalize l0 * (1000000 - max4 (shk b0 t0) (shk b0 t1) (shk b1 t0) (shk b1 t1)) = u at *
  generalize l1 * (1000000 - min4 (shk b0 t0) (shk b0 t1) (shk b1 t0) (shk b1 t1)) = v at *
  unfold upQ
  omega

set_option maxRecDepth 100000 in
set_option maxHeartbeats 16000000 in
theorem dips_any (a0 : Option Addr) (n0 c0 : Nat) (w : World) (hN : NumsAt w a0 n0) :
    Calls Try.prog 12 #[.slice a0 n0 c0] w fun e w' => e = .returned (.bool true) ∧ Below w.heap.size w w' := by
  have HAw := Lib.hid (fun (W : World) => awake_any W)
  go_enter Try.func12, Try.ntmps12
  go_wp2_with fail
  refine (newseed_at a0 n0 c0 _ hN).mono ?_
  rintro e w1 ⟨rfl, hS, hb⟩
  obtain ⟨bs, hbs⟩ : ∃ x, w.heap.size = x := ⟨_, rfl⟩
  have zs1 : bs < w1.heap.size := by have := hS.choose_spec.lt; omega
  have HB := Lib.hid (fun (W : World) (h : Drawn bs w1 W) => (show Below w.heap.size w W from Drawn.below hb h (by omega)))
  rw [hbs] at hS ⊢
  clear hb hN
  go_wp2_with fail
  refine (tankof_in bs _ hS).mono ?_
  rintro e w2 ⟨q, gH, cH, gL, cL, X, Y, rfl, q1, q5, rH, rL, hUp, hd⟩
  have zw := hd.2.size
  have kM := Blk.new w2 #[.slice (some ⟨gH, 0, none⟩) (q + 1) cH, .slice (some ⟨gL, 0, none⟩) (q + 1) cL] 24
  have zM : bs < w2.heap.size := by omega
  replace rH := rH.alloc (.cells #[.slice (some ⟨gH, 0, none⟩) (q + 1) cH, .slice (some ⟨gL, 0, none⟩) (q + 1) cL] 24)
  replace rL := rL.alloc (.cells #[.slice (some ⟨gH, 0, none⟩) (q + 1) cH, .slice (some ⟨gL, 0, none⟩) (q + 1) cL] 24)
  replace hd := hd.new (.cells #[.slice (some ⟨gH, 0, none⟩) (q + 1) cH, .slice (some ⟨gL, 0, none⟩) (q + 1) cL] 24)
  go_upto_region 3 with fail
  obtain ⟨V, hV⟩ : ∃ V, Blk.wld kM = V := ⟨_, rfl⟩
  simp only [Blk.wld] at hV
  rw [hV] at kM rH rL hd ⊢
  clear hV
  obtain ⟨bM, hbM⟩ : ∃ b, w2.heap.size = b := ⟨_, rfl⟩
  rw [hbM] at kM zM ⊢
  clear hbM zw
  have ok := hUp.ok (by omega) (by omega)
  have h0q := hUp.mono q (by omega)
  have hX0 := hUp.h 0 (by omega)
  have hXq := hUp.h q (by omega)
  have OK := Lib.hid ok
  clear ok hUp
  have M0 := Lib.hid (fun (W : World) (h : Drawn bs V W) => And.intro (h.blk kM (by omega)) (And.intro (h.row rH zs1) (And.intro (h.row rL zs1) (And.intro (row_int (h.row rH zs1) (i := 0) (by omega)) (And.intro (row_int (h.row rH zs1) (i := q) (by omega)) (HB.out W (hd.trans h)))))))
  have hD := Drawn.refl hd.seed
  clear kM rH rL hd HB hS
  obtain ⟨x0, hx0⟩ : ∃ z, X 0 = z := ⟨_, rfl⟩
  obtain ⟨xq, hxq⟩ : ∃ z, X q = z := ⟨_, rfl⟩
  have HX := Lib.hid (And.intro hx0 hxq)
  simp only [hx0, hxq] at M0 h0q hX0 hXq
  clear hx0 hxq
  have e3 : IntKind.i64.wrap (((q + 1 : Nat) : Int) - 1) = (q : Int) := by rw [show ((q + 1 : Nat) : Int) - 1 = (q : Int) by omega]; exact IntWalk.i64_in _ (by omega)
  have e4 : (q : Int) < (q : Int) + 1 := by omega
  have e8 : IntKind.i64.wrap (q : Int) = (q : Int) := IntWalk.i64_in _ (by omega)
  have e5 : q < q + 1 := by omega
  have e6 : (0 : Int) < (q : Int) + 1 := by omega
  have e7 : 0 < q + 1 := by omega
  refine wp_region_held_drew (S := (fun wx => Drawn bs V wx)) (by kernel_rfl) ?_ (fun hH => ?_)
  · (try dsimp only); (exact Drawn.drew hD.seed)
  refine tkY 0 (some 34) ?_ ?_ ?_
  rotate_left
  · intro w hS0; (try dsimp only at hS0); obtain ⟨kM, _, _, g0, g1, _⟩ := M0.out _ hS0; obtain ⟨t0, t1⟩ := kM.c2; have y1 := kM.lt; have y2 := World.block_lt_of_cell? _ _ g0;go_simp; (try with_reducible rfl)
  (try simp only [cq])
  refine tkY 1 (some 35) ?_ ?_ ?_
  rotate_left
  · intro w hS0; (try dsimp only at hS0); obtain ⟨kM, _, _, g0, g1, _⟩ := M0.out _ hS0; obtain ⟨t0, t1⟩ := kM.c2; have y1 := kM.lt; have y2 := World.block_lt_of_cell? _ _ g0;go_simp; (try with_reducible rfl)
  (try simp only [cq])
  refine tkY 2 (some 36) ?_ ?_ ?_
  rotate_left
  · intro w hS0; (try dsimp only at hS0); obtain ⟨kM, _, _, g0, g1, _⟩ := M0.out _ hS0; obtain ⟨t0, t1⟩ := kM.c2; have y1 := kM.lt; have y2 := World.block_lt_of_cell? _ _ g0;go_simp; (try with_reducible rfl)
  (try simp only [cq])
  refine tkY 3 (some 37) ?_ ?_ ?_
  rotate_left
  · intro w hS0; (try dsimp only at hS0); obtain ⟨kM, _, _, g0, g1, _⟩ := M0.out _ hS0; obtain ⟨t0, t1⟩ := kM.c2; have y1 := kM.lt; have y2 := World.block_lt_of_cell? _ _ g0;go_simp; (try with_reducible rfl)
  (try simp only [cq])
  refine tkY 4 (some 38) ?_ ?_ ?_
  rotate_left
  · intro w hS0; (try dsimp only at hS0); obtain ⟨kM, _, _, g0, g1, _⟩ := M0.out _ hS0; obtain ⟨t0, t1⟩ := kM.c2; have y1 := kM.lt; have y2 := World.block_lt_of_cell? _ _ g0;go_simp; (try with_reducible rfl)
  (try simp only [cq])
  refine tkY 5 (some 39) ?_ ?_ ?_
  rotate_left
  · intro w hS0; (try dsimp only at hS0); obtain ⟨kM, _, _, g0, g1, _⟩ := M0.out _ hS0; obtain ⟨t0, t1⟩ := kM.c2; have y1 := kM.lt; have y2 := World.block_lt_of_cell? _ _ g0;go_simp; (try with_reducible rfl)
  (try simp only [cq])
  refine tkY 6 (some 40) ?_ ?_ ?_
  rotate_left
  · intro w hS0; (try dsimp only at hS0); obtain ⟨kM, _, _, g0, g1, _⟩ := M0.out _ hS0; obtain ⟨t0, t1⟩ := kM.c2; have y1 := kM.lt; have y2 := World.block_lt_of_cell? _ _ g0;go_simp; (try with_reducible rfl)
  (try simp only [cq])
  refine tkY 7 (some 41) ?_ ?_ ?_
  rotate_left
  · intro w hS0; (try dsimp only at hS0); obtain ⟨kM, _, _, g0, g1, _⟩ := M0.out _ hS0; obtain ⟨t0, t1⟩ := kM.c2; have y1 := kM.lt; have y2 := World.block_lt_of_cell? _ _ g0;go_simp; (try with_reducible rfl)
  (try simp only [cq])
  refine tkY 8 (some 42) ?_ ?_ ?_
  rotate_left
  · intro w hS0; (try dsimp only at hS0); obtain ⟨kM, _, _, g0, g1, _⟩ := M0.out _ hS0; obtain ⟨t0, t1⟩ := kM.c2; have y1 := kM.lt; have y2 := World.block_lt_of_cell? _ _ g0;go_simp; (try with_reducible rfl)
  (try simp only [cq])
  refine tkY 9 (some 43) ?_ ?_ ?_
  rotate_left
  · intro w _; go_simp; (try with_reducible rfl)
  (try simp only [cq])
  refine tkY 10 (some 44) ?_ ?_ ?_
  rotate_left
  · intro w hS0; (try dsimp only at hS0); obtain ⟨kM, _, _, g0, g1, _⟩ := M0.out _ hS0; obtain ⟨t0, t1⟩ := kM.c2; have y1 := kM.lt; have y2 := World.block_lt_of_cell? _ _ g0;go_simp; (try with_reducible rfl)
  (try simp only [cq])
  refine tkY 11 (some 45) ?_ ?_ ?_
  rotate_left
  · intro w hS0; (try dsimp only at hS0); obtain ⟨kM, _, _, g0, g1, _⟩ := M0.out _ hS0; obtain ⟨t0, t1⟩ := kM.c2; have y1 := kM.lt; have y2 := World.block_lt_of_cell? _ _ g0;go_simp; (try with_reducible rfl)
  (try simp only [cq])
  refine tkY 12 (some 5) ?_ ?_ ?_
  rotate_left
  · intro w _; go_simp; (try with_reducible rfl)
  (try simp only [cq])
  refine tkY 13 (some 6) ?_ ?_ ?_
  rotate_left
  · intro w _; go_simp; (try with_reducible rfl)
  (try simp only [cq])
  refine wpAnyH_done (by kernel_rfl) ?_ _
  (try dsimp only [Act.put])
  (try simp only [cq])
  clear hD e3 e4 e5 e6 e7 e8
  have hD := hH
  clear hH
  go_wp2_with fail
  refine (kspan_in x0 xq bs _ hD.seed (by omega) (by omega) (by omega)).mono ?_
  rintro e w3 ⟨d0, d1, rfl, hd0, hd1, hd2, hd⟩
  replace hD := hD.trans hd
  clear hd
  have kD := Blk.new w3 #[.int .i64 d0, .int .i64 d1] 26
  have zD : bs < w3.heap.size := by have := hD.seed.choose_spec.lt; omega
  replace hD := hD.new (.cells #[.int .i64 d0, .int .i64 d1] 26)
  obtain ⟨p0, p1⟩ := kD.c2
  go_wp2_with fail
  clear p0 p1
  obtain ⟨V1, hV⟩ : ∃ V, Blk.wld kD = V := ⟨_, rfl⟩
  simp only [Blk.wld] at hV
  rw [hV] at kD hD ⊢
  clear hV
  obtain ⟨bD, hbD⟩ : ∃ b, w3.heap.size = b := ⟨_, rfl⟩
  rw [hbD] at kD zD ⊢
  clear hbD
  have M1 := Lib.hid (fun (W : World) (h : Drawn bs V1 W) => And.intro (h.blk kD (by omega)) (M0.out W (hD.trans h)))
  clear kD M0
  replace hD := Drawn.refl hD.seed
  refine (inside_in d0 d1 bs _ hD.seed (by omega) (by omega) hd1).mono ?_
  rintro e w4 ⟨tr, rfl, htr0, htr1, hd⟩
  replace hD := hD.trans hd
  clear hd
  obtain ⟨kD, kM, rH, rL, g0, g1, _⟩ := M1.out _ hD
  obtain ⟨t0, t1⟩ := kM.c2
  obtain ⟨p0, p1⟩ := kD.c2
  go_wp2_with fail
  refine (vo_in q gH cH gL cL X Y w1.heap.size d0 d1 OK.out (by rw [HX.out.1]; exact hd0) hd1 (by rw [HX.out.2]; exact hd2) _ rH rL).mono ?_
  rintro e w5 ⟨aL, aH, va, rfl, hb⟩
  replace hD := hD.after hb
  clear hb kD kM rH rL g0 g1 t0 t1 p0 p1
  have VA := Lib.hid va
  clear va
  have kA := Blk.new w5 #[.int .i64 aL, .int .i64 aH] 26
  have zA : bs < w5.heap.size := by have := hD.seed.choose_spec.lt; omega
  replace hD := hD.new (.cells #[.int .i64 aL, .int .i64 aH] 26)
  go_upto_region 7 with fail
  obtain ⟨V2, hV⟩ : ∃ V, Blk.wld kA = V := ⟨_, rfl⟩
  simp only [Blk.wld] at hV
  rw [hV] at kA hD ⊢
  clear hV
  obtain ⟨bA, hbA⟩ : ∃ b, w5.heap.size = b := ⟨_, rfl⟩
  rw [hbA] at kA zA ⊢
  clear hbA
  have M2 := Lib.hid (fun (W : World) (h : Drawn bs V2 W) => And.intro (h.blk kA (by omega)) (M1.out W (hD.trans h)))
  clear kA M1
  replace hD := Drawn.refl hD.seed
  go_cut [11, 12] (fun s11 s12 wx => ∃ (bB : Nat) (p0 p1 bL bH : Int), s11 = .pointer (some ⟨bB, 0, none⟩) ∧ s12 = .int .i64 0 ∧ d0 ≤ p0 ∧ p0 ≤ p1 ∧ p1 ≤ d1 ∧ VoN q X Y p0 p1 bL bH ∧ bs < bB ∧ Blk wx bB #[.int .i64 bL, .int .i64 bH] 26 ∧ Drawn bs V2 wx)
  case first =>
    have zV : bs < V2.heap.size := hD.seed.choose_spec.lt
    as_aux_lemma =>
    (
 refine wp_region_held_drew (S := (fun wx => Drawn bs V2 wx)) (by kernel_rfl) ?_ (fun hH => ?_)
 · (try dsimp only); (exact Drawn.drew hD.seed)
 refine tkY 0 (some 60) ?_ ?_ ?_
 rotate_left
 · intro w hS0; (try dsimp only at hS0); obtain ⟨_, kD, kM, _⟩ := M2.out _ hS0; obtain ⟨t0, t1⟩ := kM.c2; obtain ⟨q0, q1⟩ := kD.c2; have y1 := kM.lt; have y2 := kD.lt;go_simp; (try with_reducible rfl)
 (try simp only [cq])
 refine tkY 1 (some 61) ?_ ?_ ?_
 rotate_left
 · intro w _; go_simp; (try with_reducible rfl)
 (try simp only [cq])
 refine tkY 2 (some 62) ?_ ?_ ?_
 rotate_left
 · intro w hS0; (try dsimp only at hS0); obtain ⟨_, kD, kM, _⟩ := M2.out _ hS0; obtain ⟨t0, t1⟩ := kM.c2; obtain ⟨q0, q1⟩ := kD.c2; have y1 := kM.lt; have y2 := kD.lt;go_simp; (try with_reducible rfl)
 (try simp only [cq])
 refine wpAnyH_ready (rs := [3, 8]) (by kernel_rfl) (by simp) ?_
 refine arc (some 63) (fun K hK => ?_) ?_
 {
 go_simp
 (refine (kpart_in d0 d1 bs _ hH.seed (by omega) (by omega) hd1).mono ?_; rintro e w' ⟨p0, p1, rfl, hp0, hp1, hp2, hd⟩; (try replace kN := hd.blk kN (by omega)))
 refine hK.out _ _ ?_ ?_
 · (first | exact hH.trans hd | exact hH.after hb)
 (try clear hH); (try clear hd); (try clear hb)
 intro hH
 clear hK K
 (try simp only [cq])
 refine wpAnyH_ready (rs := [4, 8]) (by kernel_rfl) (by simp) ?_
 refine arc (some 64) (fun K hK => ?_) ?_
 {
 go_simp
 (obtain ⟨_, _, _, rH, rL, _⟩ := M2.out _ hH; refine (vo_in q gH cH gL cL X Y w1.heap.size p0 p1 OK.out (by rw [HX.out.1]; omega) hp1 (by rw [HX.out.2]; omega) _ rH rL).mono ?_; rintro e w' ⟨bL, bH, vb, rfl, hb⟩; clear rH rL; (try replace kN := kN.call hb))
 refine hK.out _ _ ?_ ?_
 · (first | exact hH.trans hd | exact hH.after hb)
 (try clear hH); (try clear hd); (try clear hb)
 intro hH
 clear hK K
 (try simp only [cq])
 refine tkY 5 (some 59) ?_ ?_ ?_
 rotate_left
 · intro w _; go_simp; (try with_reducible rfl)
 (try simp only [cq])
 refine tkY 6 (some 65) ?_ ?_ ?_
 rotate_left
 · intro w _; go_simp; (try with_reducible rfl)
 (try simp only [cq])
 refine tkY 7 (some 66) ?_ ?_ ?_
 rotate_left
 · intro w _; go_simp; (try with_reducible rfl)
 (try simp only [cq])
 refine wpAnyH_ready (rs := [8]) (by kernel_rfl) (by simp) ?_
 refine arc1 (some 11) fun K hK => ?_
 have zN := hH.seed.choose_spec.lt
 have zN2 := hH.2.size
 (try simp only [World.drew] at zN zN2)
 go_simp
 first | refine oA hK ?_ (fun hH hA => ?_) | refine oD hK ?_ (fun hH hA => ?_)
 · exact hH.new _
 obtain ⟨bN, hbA⟩ : ∃ b, Blk.num hA = b := ⟨_, rfl⟩
 obtain ⟨Vn, hV⟩ : ∃ V, Blk.wld hA = V := ⟨_, rfl⟩
 simp only [Blk.num] at hbA
 simp only [Blk.wld] at hV
 rw [hV] at hH hA ⊢
 rw [hbA] at hA ⊢
 replace zN : bs < bN := (by rw [← hbA]; exact zN)
 replace zN2 : V2.heap.size ≤ bN := (by rw [← hbA]; exact zN2)
 clear hV hbA
 have kN := hA
 clear hA
 clear hK K
 (try simp only [cq])
 refine wpAnyH_ready (rs := [9]) (by kernel_rfl) (by simp) ?_
 refine arc1 none fun K hK => ?_
 obtain ⟨r0, r1⟩ := kN.c2
 have fr0 := kN.free 0
 have fr1 := kN.free 1
 have zR := kN.lt
 have HS := Lib.hid (And.intro ((kN.set 0 (.int .i64 bL)).set 1 (.int .i64 bH)) ((hH.set (p := ⟨bN, 0, none⟩) zN2 zV (.int .i64 bL)).set (p := ⟨bN, 1, none⟩) zN2 zV (.int .i64 bH)))
 go_simp
 refine hK.out _ _ ?_ ?_
 · exact HS.out.2
 (try clear hH); (try clear hd); (try clear hb)
 intro hH
 clear hK K
 (try simp only [cq])
 refine tkY 10 (some 12) ?_ ?_ ?_
 rotate_left
 · intro w _; go_simp; (try with_reducible rfl)
 (try simp only [cq])
 refine wpAnyH_done (by kernel_rfl) ?_ _
 (try dsimp only [Act.put])
 (try simp only [cq])
 go_wp2_with fail
 go_meet
 exact ⟨_, p0, p1, bL, bH, rfl, rfl, hp0, hp1, hp2, vb, zN, HS.out.1, HS.out.2⟩
 }
 refine arc (some 11) (fun K hK => ?_) ?_
 {
 have zN := hH.seed.choose_spec.lt
 have zN2 := hH.2.size
 (try simp only [World.drew] at zN zN2)
 go_simp
 first | refine oA hK ?_ (fun hH hA => ?_) | refine oD hK ?_ (fun hH hA => ?_)
 · exact hH.new _
 obtain ⟨bN, hbA⟩ : ∃ b, Blk.num hA = b := ⟨_, rfl⟩
 obtain ⟨Vn, hV⟩ : ∃ V, Blk.wld hA = V := ⟨_, rfl⟩
 simp only [Blk.num] at hbA
 simp only [Blk.wld] at hV
 rw [hV] at hH hA ⊢
 rw [hbA] at hA ⊢
 replace zN : bs < bN := (by rw [← hbA]; exact zN)
 replace zN2 : V2.heap.size ≤ bN := (by rw [← hbA]; exact zN2)
 clear hV hbA
 have kN := hA
 clear hA
 clear hK K
 (try simp only [cq])
 refine wpAnyH_ready (rs := [4]) (by kernel_rfl) (by simp) ?_
 refine arc1 (some 64) fun K hK => ?_
 go_simp
 (obtain ⟨_, _, _, rH, rL, _⟩ := M2.out _ hH; refine (vo_in q gH cH gL cL X Y w1.heap.size p0 p1 OK.out (by rw [HX.out.1]; omega) hp1 (by rw [HX.out.2]; omega) _ rH rL).mono ?_; rintro e w' ⟨bL, bH, vb, rfl, hb⟩; clear rH rL; (try replace kN := kN.call hb))
 refine hK.out _ _ ?_ ?_
 · (first | exact hH.trans hd | exact hH.after hb)
 (try clear hH); (try clear hd); (try clear hb)
 intro hH
 clear hK K
 (try simp only [cq])
 refine tkY 5 (some 59) ?_ ?_ ?_
 rotate_left
 · intro w _; go_simp; (try with_reducible rfl)
 (try simp only [cq])
 refine tkY 6 (some 65) ?_ ?_ ?_
 rotate_left
 · intro w _; go_simp; (try with_reducible rfl)
 (try simp only [cq])
 refine tkY 7 (some 66) ?_ ?_ ?_
 rotate_left
 · intro w _; go_simp; (try with_reducible rfl)
 (try simp only [cq])
 refine wpAnyH_ready (rs := [9]) (by kernel_rfl) (by simp) ?_
 refine arc1 none fun K hK => ?_
 obtain ⟨r0, r1⟩ := kN.c2
 have fr0 := kN.free 0
 have fr1 := kN.free 1
 have zR := kN.lt
 have HS := Lib.hid (And.intro ((kN.set 0 (.int .i64 bL)).set 1 (.int .i64 bH)) ((hH.set (p := ⟨bN, 0, none⟩) zN2 zV (.int .i64 bL)).set (p := ⟨bN, 1, none⟩) zN2 zV (.int .i64 bH)))
 go_simp
 refine hK.out _ _ ?_ ?_
 · exact HS.out.2
 (try clear hH); (try clear hd); (try clear hb)
 intro hH
 clear hK K
 (try simp only [cq])
 refine tkY 10 (some 12) ?_ ?_ ?_
 rotate_left
 · intro w _; go_simp; (try with_reducible rfl)
 (try simp only [cq])
 refine wpAnyH_done (by kernel_rfl) ?_ _
 (try dsimp only [Act.put])
 (try simp only [cq])
 go_wp2_with fail
 go_meet
 exact ⟨_, p0, p1, bL, bH, rfl, rfl, hp0, hp1, hp2, vb, zN, HS.out.1, HS.out.2⟩
 }
 exact AllReadyH.nil
 }
 refine arc (some 11) (fun K hK => ?_) ?_
 {
 have zN := hH.seed.choose_spec.lt
 have zN2 := hH.2.size
 (try simp only [World.drew] at zN zN2)
 go_simp
 first | refine oA hK ?_ (fun hH hA => ?_) | refine oD hK ?_ (fun hH hA => ?_)
 · exact hH.new _
 obtain ⟨bN, hbA⟩ : ∃ b, Blk.num hA = b := ⟨_, rfl⟩
 obtain ⟨Vn, hV⟩ : ∃ V, Blk.wld hA = V := ⟨_, rfl⟩
 simp only [Blk.num] at hbA
 simp only [Blk.wld] at hV
 rw [hV] at hH hA ⊢
 rw [hbA] at hA ⊢
 replace zN : bs < bN := (by rw [← hbA]; exact zN)
 replace zN2 : V2.heap.size ≤ bN := (by rw [← hbA]; exact zN2)
 clear hV hbA
 have kN := hA
 clear hA
 clear hK K
 (try simp only [cq])
 refine wpAnyH_ready (rs := [3]) (by kernel_rfl) (by simp) ?_
 refine arc1 (some 63) fun K hK => ?_
 go_simp
 (refine (kpart_in d0 d1 bs _ hH.seed (by omega) (by omega) hd1).mono ?_; rintro e w' ⟨p0, p1, rfl, hp0, hp1, hp2, hd⟩; (try replace kN := hd.blk kN (by omega)))
 refine hK.out _ _ ?_ ?_
 · (first | exact hH.trans hd | exact hH.after hb)
 (try clear hH); (try clear hd); (try clear hb)
 intro hH
 clear hK K
 (try simp only [cq])
 refine wpAnyH_ready (rs := [4]) (by kernel_rfl) (by simp) ?_
 refine arc1 (some 64) fun K hK => ?_
 go_simp
 (obtain ⟨_, _, _, rH, rL, _⟩ := M2.out _ hH; refine (vo_in q gH cH gL cL X Y w1.heap.size p0 p1 OK.out (by rw [HX.out.1]; omega) hp1 (by rw [HX.out.2]; omega) _ rH rL).mono ?_; rintro e w' ⟨bL, bH, vb, rfl, hb⟩; clear rH rL; (try replace kN := kN.call hb))
 refine hK.out _ _ ?_ ?_
 · (first | exact hH.trans hd | exact hH.after hb)
 (try clear hH); (try clear hd); (try clear hb)
 intro hH
 clear hK K
 (try simp only [cq])
 refine tkY 5 (some 59) ?_ ?_ ?_
 rotate_left
 · intro w _; go_simp; (try with_reducible rfl)
 (try simp only [cq])
 refine tkY 6 (some 65) ?_ ?_ ?_
 rotate_left
 · intro w _; go_simp; (try with_reducible rfl)
 (try simp only [cq])
 refine tkY 7 (some 66) ?_ ?_ ?_
 rotate_left
 · intro w _; go_simp; (try with_reducible rfl)
 (try simp only [cq])
 refine wpAnyH_ready (rs := [9]) (by kernel_rfl) (by simp) ?_
 refine arc1 none fun K hK => ?_
 obtain ⟨r0, r1⟩ := kN.c2
 have fr0 := kN.free 0
 have fr1 := kN.free 1
 have zR := kN.lt
 have HS := Lib.hid (And.intro ((kN.set 0 (.int .i64 bL)).set 1 (.int .i64 bH)) ((hH.set (p := ⟨bN, 0, none⟩) zN2 zV (.int .i64 bL)).set (p := ⟨bN, 1, none⟩) zN2 zV (.int .i64 bH)))
 go_simp
 refine hK.out _ _ ?_ ?_
 · exact HS.out.2
 (try clear hH); (try clear hd); (try clear hb)
 intro hH
 clear hK K
 (try simp only [cq])
 refine tkY 10 (some 12) ?_ ?_ ?_
 rotate_left
 · intro w _; go_simp; (try with_reducible rfl)
 (try simp only [cq])
 refine wpAnyH_done (by kernel_rfl) ?_ _
 (try dsimp only [Act.put])
 (try simp only [cq])
 go_wp2_with fail
 go_meet
 exact ⟨_, p0, p1, bL, bH, rfl, rfl, hp0, hp1, hp2, vb, zN, HS.out.1, HS.out.2⟩
 }
 exact AllReadyH.nil )
  case rest =>
    clear hD
    obtain ⟨bB, p0, p1, bL, bH, rfl, rfl, hp0, hp1, hp2, vb, zB, kB, hD⟩ := hcut
    have VB := Lib.hid vb
    clear vb
    obtain ⟨V3, hV⟩ : ∃ V, Blk.wld kB = V := ⟨_, rfl⟩
    simp only [Blk.wld] at hV
    rw [hV] at kB hD ⊢
    clear hV
    have M3 := Lib.hid (fun (W : World) (h : Drawn bs V3 W) => And.intro (h.blk kB (by omega)) (M2.out W (hD.trans h)))
    clear kB M2
    replace hD := Drawn.refl hD.seed
    go_upto_region 8 with fail
    go_cut [13, 14] (fun s13 s14 wx => ∃ (bC : Nat) (cL' cH' : Int), s13 = .pointer (some ⟨bC, 0, none⟩) ∧ s14 = .int .i64 0 ∧ VoN q X Y tr tr cL' cH' ∧ bs < bC ∧ Blk wx bC #[.int .i64 cL', .int .i64 cH'] 26 ∧ Drawn bs V3 wx)
    case first =>
      have zV : bs < V3.heap.size := hD.seed.choose_spec.lt
      as_aux_lemma =>
      (
 refine wp_region_held_drew (S := (fun wx => Drawn bs V3 wx)) (by kernel_rfl) ?_ (fun hH => ?_)
 · (try dsimp only); (exact Drawn.drew hD.seed)
 refine tkY 0 (some 68) ?_ ?_ ?_
 rotate_left
 · intro w hS0; (try dsimp only at hS0); obtain ⟨_, _, _, kM, _⟩ := M3.out _ hS0; obtain ⟨t0, t1⟩ := kM.c2; have y1 := kM.lt;go_simp; (try with_reducible rfl)
 (try simp only [cq])
 refine tkY 1 (some 69) ?_ ?_ ?_
 rotate_left
 · intro w _; go_simp; (try with_reducible rfl)
 (try simp only [cq])
 refine wpAnyH_ready (rs := [2, 7]) (by kernel_rfl) (by simp) ?_
 refine arc (some 70) (fun K hK => ?_) ?_
 {
 go_simp
 (refine (one_any tr _).mono ?_; rintro e w' ⟨rfl, hb⟩; (try replace kN := kN.call hb))
 refine hK.out _ _ ?_ ?_
 · (exact hH.after hb)
 (try clear hH); (try clear hd); (try clear hb)
 intro hH
 clear hK K
 (try simp only [cq])
 refine wpAnyH_ready (rs := [3, 7]) (by kernel_rfl) (by simp) ?_
 refine arc (some 71) (fun K hK => ?_) ?_
 {
 go_simp
 (obtain ⟨_, _, _, _, rH, rL, _⟩ := M3.out _ hH; refine (vo_in q gH cH gL cL X Y w1.heap.size tr tr OK.out (by rw [HX.out.1]; omega) (Int.le_refl _) (by rw [HX.out.2]; omega) _ rH rL).mono ?_; rintro e w' ⟨cA, cB, vc, rfl, hb⟩; clear rH rL; (try replace kN := kN.call hb))
 refine hK.out _ _ ?_ ?_
 · (exact hH.after hb)
 (try clear hH); (try clear hd); (try clear hb)
 intro hH
 clear hK K
 (try simp only [cq])
 refine tkY 4 (some 67) ?_ ?_ ?_
 rotate_left
 · intro w _; go_simp; (try with_reducible rfl)
 (try simp only [cq])
 refine tkY 5 (some 72) ?_ ?_ ?_
 rotate_left
 · intro w _; go_simp; (try with_reducible rfl)
 (try simp only [cq])
 refine tkY 6 (some 73) ?_ ?_ ?_
 rotate_left
 · intro w _; go_simp; (try with_reducible rfl)
 (try simp only [cq])
 refine wpAnyH_ready (rs := [7]) (by kernel_rfl) (by simp) ?_
 refine arc1 (some 13) fun K hK => ?_
 have zN := hH.seed.choose_spec.lt
 have zN2 := hH.2.size
 (try simp only [World.drew] at zN zN2)
 go_simp
 first | refine oA hK ?_ (fun hH hA => ?_) | refine oD hK ?_ (fun hH hA => ?_)
 · exact hH.new _
 obtain ⟨bN, hbA⟩ : ∃ b, Blk.num hA = b := ⟨_, rfl⟩
 obtain ⟨Vn, hV⟩ : ∃ V, Blk.wld hA = V := ⟨_, rfl⟩
 simp only [Blk.num] at hbA
 simp only [Blk.wld] at hV
 rw [hV] at hH hA ⊢
 rw [hbA] at hA ⊢
 replace zN : bs < bN := (by rw [← hbA]; exact zN)
 replace zN2 : V3.heap.size ≤ bN := (by rw [← hbA]; exact zN2)
 clear hV hbA
 have kN := hA
 clear hA
 clear hK K
 (try simp only [cq])
 refine wpAnyH_ready (rs := [8]) (by kernel_rfl) (by simp) ?_
 refine arc1 none fun K hK => ?_
 obtain ⟨r0, r1⟩ := kN.c2
 have fr0 := kN.free 0
 have fr1 := kN.free 1
 have zR := kN.lt
 have HS := Lib.hid (And.intro ((kN.set 0 (.int .i64 cA)).set 1 (.int .i64 cB)) ((hH.set (p := ⟨bN, 0, none⟩) zN2 zV (.int .i64 cA)).set (p := ⟨bN, 1, none⟩) zN2 zV (.int .i64 cB)))
 go_simp
 refine hK.out _ _ ?_ ?_
 · exact HS.out.2
 (try clear hH); (try clear hd); (try clear hb)
 intro hH
 clear hK K
 (try simp only [cq])
 refine tkY 9 (some 14) ?_ ?_ ?_
 rotate_left
 · intro w _; go_simp; (try with_reducible rfl)
 (try simp only [cq])
 refine wpAnyH_done (by kernel_rfl) ?_ _
 (try dsimp only [Act.put])
 (try simp only [cq])
 go_wp2_with fail
 go_meet
 exact ⟨_, cA, cB, rfl, rfl, vc, zN, HS.out.1, HS.out.2⟩
 }
 refine arc (some 13) (fun K hK => ?_) ?_
 {
 have zN := hH.seed.choose_spec.lt
 have zN2 := hH.2.size
 (try simp only [World.drew] at zN zN2)
 go_simp
 first | refine oA hK ?_ (fun hH hA => ?_) | refine oD hK ?_ (fun hH hA => ?_)
 · exact hH.new _
 obtain ⟨bN, hbA⟩ : ∃ b, Blk.num hA = b := ⟨_, rfl⟩
 obtain ⟨Vn, hV⟩ : ∃ V, Blk.wld hA = V := ⟨_, rfl⟩
 simp only [Blk.num] at hbA
 simp only [Blk.wld] at hV
 rw [hV] at hH hA ⊢
 rw [hbA] at hA ⊢
 replace zN : bs < bN := (by rw [← hbA]; exact zN)
 replace zN2 : V3.heap.size ≤ bN := (by rw [← hbA]; exact zN2)
 clear hV hbA
 have kN := hA
 clear hA
 clear hK K
 (try simp only [cq])
 refine wpAnyH_ready (rs := [3]) (by kernel_rfl) (by simp) ?_
 refine arc1 (some 71) fun K hK => ?_
 go_simp
 (obtain ⟨_, _, _, _, rH, rL, _⟩ := M3.out _ hH; refine (vo_in q gH cH gL cL X Y w1.heap.size tr tr OK.out (by rw [HX.out.1]; omega) (Int.le_refl _) (by rw [HX.out.2]; omega) _ rH rL).mono ?_; rintro e w' ⟨cA, cB, vc, rfl, hb⟩; clear rH rL; (try replace kN := kN.call hb))
 refine hK.out _ _ ?_ ?_
 · (exact hH.after hb)
 (try clear hH); (try clear hd); (try clear hb)
 intro hH
 clear hK K
 (try simp only [cq])
 refine tkY 4 (some 67) ?_ ?_ ?_
 rotate_left
 · intro w _; go_simp; (try with_reducible rfl)
 (try simp only [cq])
 refine tkY 5 (some 72) ?_ ?_ ?_
 rotate_left
 · intro w _; go_simp; (try with_reducible rfl)
 (try simp only [cq])
 refine tkY 6 (some 73) ?_ ?_ ?_
 rotate_left
 · intro w _; go_simp; (try with_reducible rfl)
 (try simp only [cq])
 refine wpAnyH_ready (rs := [8]) (by kernel_rfl) (by simp) ?_
 refine arc1 none fun K hK => ?_
 obtain ⟨r0, r1⟩ := kN.c2
 have fr0 := kN.free 0
 have fr1 := kN.free 1
 have zR := kN.lt
 have HS := Lib.hid (And.intro ((kN.set 0 (.int .i64 cA)).set 1 (.int .i64 cB)) ((hH.set (p := ⟨bN, 0, none⟩) zN2 zV (.int .i64 cA)).set (p := ⟨bN, 1, none⟩) zN2 zV (.int .i64 cB)))
 go_simp
 refine hK.out _ _ ?_ ?_
 · exact HS.out.2
 (try clear hH); (try clear hd); (try clear hb)
 intro hH
 clear hK K
 (try simp only [cq])
 refine tkY 9 (some 14) ?_ ?_ ?_
 rotate_left
 · intro w _; go_simp; (try with_reducible rfl)
 (try simp only [cq])
 refine wpAnyH_done (by kernel_rfl) ?_ _
 (try dsimp only [Act.put])
 (try simp only [cq])
 go_wp2_with fail
 go_meet
 exact ⟨_, cA, cB, rfl, rfl, vc, zN, HS.out.1, HS.out.2⟩
 }
 exact AllReadyH.nil
 }
 refine arc (some 13) (fun K hK => ?_) ?_
 {
 have zN := hH.seed.choose_spec.lt
 have zN2 := hH.2.size
 (try simp only [World.drew] at zN zN2)
 go_simp
 first | refine oA hK ?_ (fun hH hA => ?_) | refine oD hK ?_ (fun hH hA => ?_)
 · exact hH.new _
 obtain ⟨bN, hbA⟩ : ∃ b, Blk.num hA = b := ⟨_, rfl⟩
 obtain ⟨Vn, hV⟩ : ∃ V, Blk.wld hA = V := ⟨_, rfl⟩
 simp only [Blk.num] at hbA
 simp only [Blk.wld] at hV
 rw [hV] at hH hA ⊢
 rw [hbA] at hA ⊢
 replace zN : bs < bN := (by rw [← hbA]; exact zN)
 replace zN2 : V3.heap.size ≤ bN := (by rw [← hbA]; exact zN2)
 clear hV hbA
 have kN := hA
 clear hA
 clear hK K
 (try simp only [cq])
 refine wpAnyH_ready (rs := [2]) (by kernel_rfl) (by simp) ?_
 refine arc1 (some 70) fun K hK => ?_
 go_simp
 (refine (one_any tr _).mono ?_; rintro e w' ⟨rfl, hb⟩; (try replace kN := kN.call hb))
 refine hK.out _ _ ?_ ?_
 · (exact hH.after hb)
 (try clear hH); (try clear hd); (try clear hb)
 intro hH
 clear hK K
 (try simp only [cq])
 refine wpAnyH_ready (rs := [3]) (by kernel_rfl) (by simp) ?_
 refine arc1 (some 71) fun K hK => ?_
 go_simp
 (obtain ⟨_, _, _, _, rH, rL, _⟩ := M3.out _ hH; refine (vo_in q gH cH gL cL X Y w1.heap.size tr tr OK.out (by rw [HX.out.1]; omega) (Int.le_refl _) (by rw [HX.out.2]; omega) _ rH rL).mono ?_; rintro e w' ⟨cA, cB, vc, rfl, hb⟩; clear rH rL; (try replace kN := kN.call hb))
 refine hK.out _ _ ?_ ?_
 · (exact hH.after hb)
 (try clear hH); (try clear hd); (try clear hb)
 intro hH
 clear hK K
 (try simp only [cq])
 refine tkY 4 (some 67) ?_ ?_ ?_
 rotate_left
 · intro w _; go_simp; (try with_reducible rfl)
 (try simp only [cq])
 refine tkY 5 (some 72) ?_ ?_ ?_
 rotate_left
 · intro w _; go_simp; (try with_reducible rfl)
 (try simp only [cq])
 refine tkY 6 (some 73) ?_ ?_ ?_
 rotate_left
 · intro w _; go_simp; (try with_reducible rfl)
 (try simp only [cq])
 refine wpAnyH_ready (rs := [8]) (by kernel_rfl) (by simp) ?_
 refine arc1 none fun K hK => ?_
 obtain ⟨r0, r1⟩ := kN.c2
 have fr0 := kN.free 0
 have fr1 := kN.free 1
 have zR := kN.lt
 have HS := Lib.hid (And.intro ((kN.set 0 (.int .i64 cA)).set 1 (.int .i64 cB)) ((hH.set (p := ⟨bN, 0, none⟩) zN2 zV (.int .i64 cA)).set (p := ⟨bN, 1, none⟩) zN2 zV (.int .i64 cB)))
 go_simp
 refine hK.out _ _ ?_ ?_
 · exact HS.out.2
 (try clear hH); (try clear hd); (try clear hb)
 intro hH
 clear hK K
 (try simp only [cq])
 refine tkY 9 (some 14) ?_ ?_ ?_
 rotate_left
 · intro w _; go_simp; (try with_reducible rfl)
 (try simp only [cq])
 refine wpAnyH_done (by kernel_rfl) ?_ _
 (try dsimp only [Act.put])
 (try simp only [cq])
 go_wp2_with fail
 go_meet
 exact ⟨_, cA, cB, rfl, rfl, vc, zN, HS.out.1, HS.out.2⟩
 }
 exact AllReadyH.nil )
    case rest =>
      clear hD
      obtain ⟨bC, cA, cB, rfl, rfl, vc, zC, kC, hD⟩ := hcut
      have VC := Lib.hid vc
      clear vc
      obtain ⟨V4, hV⟩ : ∃ V, Blk.wld kC = V := ⟨_, rfl⟩
      simp only [Blk.wld] at hV
      rw [hV] at kC hD ⊢
      clear hV
      have M4 := Lib.hid (fun (W : World) (h : Drawn bs V4 W) => And.intro (h.blk kC (by omega)) (M3.out W (hD.trans h)))
      clear kC M3
      replace hD := Drawn.refl hD.seed
      go_upto_region 9 with fail
      go_cut [15, 16] (fun s15 s16 wx => ∃ (bE : Nat) (eL' eH' : Int), s15 = .pointer (some ⟨bE, 0, none⟩) ∧ s16 = .int .i64 0 ∧ VoN q X Y d0 xq eL' eH' ∧ bs < bE ∧ Blk wx bE #[.int .i64 eL', .int .i64 eH'] 26 ∧ Drawn bs V4 wx)
      case first =>
        have zV : bs < V4.heap.size := hD.seed.choose_spec.lt
        as_aux_lemma =>
        (
 refine wp_region_held_drew (S := (fun wx => Drawn bs V4 wx)) (by kernel_rfl) ?_ (fun hH => ?_)
 · (try dsimp only); (exact Drawn.drew hD.seed)
 refine tkY 0 (some 75) ?_ ?_ ?_
 rotate_left
 · intro w hS0; (try dsimp only at hS0); obtain ⟨_, _, _, kD, kM, _⟩ := M4.out _ hS0; obtain ⟨t0, t1⟩ := kM.c2; obtain ⟨q0, q1⟩ := kD.c2; have y1 := kM.lt; have y2 := kD.lt;go_simp; (try with_reducible rfl)
 (try simp only [cq])
 refine tkY 1 (some 76) ?_ ?_ ?_
 rotate_left
 · intro w hS0; (try dsimp only at hS0); obtain ⟨_, _, _, kD, kM, _⟩ := M4.out _ hS0; obtain ⟨t0, t1⟩ := kM.c2; obtain ⟨q0, q1⟩ := kD.c2; have y1 := kM.lt; have y2 := kD.lt;go_simp; (try with_reducible rfl)
 (try simp only [cq])
 refine tkY 2 (some 77) ?_ ?_ ?_
 rotate_left
 · intro w hS0; (try dsimp only at hS0); obtain ⟨_, _, _, kD, kM, _⟩ := M4.out _ hS0; obtain ⟨t0, t1⟩ := kM.c2; obtain ⟨q0, q1⟩ := kD.c2; have y1 := kM.lt; have y2 := kD.lt;go_simp; (try with_reducible rfl)
 (try simp only [cq])
 refine tkY 3 (some 78) ?_ ?_ ?_
 rotate_left
 · intro w _; go_simp; (try with_reducible rfl)
 (try simp only [cq])
 refine wpAnyH_ready (rs := [4, 9]) (by kernel_rfl) (by simp) ?_
 refine arc (some 79) (fun K hK => ?_) ?_
 {
 go_simp
 (refine (span0_any d0 xq _).mono ?_; rintro e w' ⟨rfl, hb⟩; (try replace kN := kN.call hb))
 refine hK.out _ _ ?_ ?_
 · (exact hH.after hb)
 (try clear hH); (try clear hd); (try clear hb)
 intro hH
 clear hK K
 (try simp only [cq])
 refine wpAnyH_ready (rs := [5, 9]) (by kernel_rfl) (by simp) ?_
 refine arc (some 80) (fun K hK => ?_) ?_
 {
 go_simp
 (obtain ⟨_, _, _, _, _, rH, rL, _⟩ := M4.out _ hH; refine (vo_in q gH cH gL cL X Y w1.heap.size d0 xq OK.out (by rw [HX.out.1]; omega) (by omega) (by rw [HX.out.2]; omega) _ rH rL).mono ?_; rintro e w' ⟨eA, eB, ve, rfl, hb⟩; clear rH rL; (try replace kN := kN.call hb))
 refine hK.out _ _ ?_ ?_
 · (exact hH.after hb)
 (try clear hH); (try clear hd); (try clear hb)
 intro hH
 clear hK K
 (try simp only [cq])
 refine tkY 6 (some 74) ?_ ?_ ?_
 rotate_left
 · intro w _; go_simp; (try with_reducible rfl)
 (try simp only [cq])
 refine tkY 7 (some 81) ?_ ?_ ?_
 rotate_left
 · intro w _; go_simp; (try with_reducible rfl)
 (try simp only [cq])
 refine tkY 8 (some 82) ?_ ?_ ?_
 rotate_left
 · intro w _; go_simp; (try with_reducible rfl)
 (try simp only [cq])
 refine wpAnyH_ready (rs := [9]) (by kernel_rfl) (by simp) ?_
 refine arc1 (some 15) fun K hK => ?_
 have zN := hH.seed.choose_spec.lt
 have zN2 := hH.2.size
 (try simp only [World.drew] at zN zN2)
 go_simp
 first | refine oA hK ?_ (fun hH hA => ?_) | refine oD hK ?_ (fun hH hA => ?_)
 · exact hH.new _
 obtain ⟨bN, hbA⟩ : ∃ b, Blk.num hA = b := ⟨_, rfl⟩
 obtain ⟨Vn, hV⟩ : ∃ V, Blk.wld hA = V := ⟨_, rfl⟩
 simp only [Blk.num] at hbA
 simp only [Blk.wld] at hV
 rw [hV] at hH hA ⊢
 rw [hbA] at hA ⊢
 replace zN : bs < bN := (by rw [← hbA]; exact zN)
 replace zN2 : V4.heap.size ≤ bN := (by rw [← hbA]; exact zN2)
 clear hV hbA
 have kN := hA
 clear hA
 clear hK K
 (try simp only [cq])
 refine wpAnyH_ready (rs := [10]) (by kernel_rfl) (by simp) ?_
 refine arc1 none fun K hK => ?_
 obtain ⟨r0, r1⟩ := kN.c2
 have fr0 := kN.free 0
 have fr1 := kN.free 1
 have zR := kN.lt
 have HS := Lib.hid (And.intro ((kN.set 0 (.int .i64 eA)).set 1 (.int .i64 eB)) ((hH.set (p := ⟨bN, 0, none⟩) zN2 zV (.int .i64 eA)).set (p := ⟨bN, 1, none⟩) zN2 zV (.int .i64 eB)))
 go_simp
 refine hK.out _ _ ?_ ?_
 · exact HS.out.2
 (try clear hH); (try clear hd); (try clear hb)
 intro hH
 clear hK K
 (try simp only [cq])
 refine tkY 11 (some 16) ?_ ?_ ?_
 rotate_left
 · intro w _; go_simp; (try with_reducible rfl)
 (try simp only [cq])
 refine wpAnyH_done (by kernel_rfl) ?_ _
 (try dsimp only [Act.put])
 (try simp only [cq])
 go_wp2_with fail
 go_meet
 exact ⟨_, eA, eB, rfl, rfl, ve, zN, HS.out.1, HS.out.2⟩
 }
 refine arc (some 15) (fun K hK => ?_) ?_
 {
 have zN := hH.seed.choose_spec.lt
 have zN2 := hH.2.size
 (try simp only [World.drew] at zN zN2)
 go_simp
 first | refine oA hK ?_ (fun hH hA => ?_) | refine oD hK ?_ (fun hH hA => ?_)
 · exact hH.new _
 obtain ⟨bN, hbA⟩ : ∃ b, Blk.num hA = b := ⟨_, rfl⟩
 obtain ⟨Vn, hV⟩ : ∃ V, Blk.wld hA = V := ⟨_, rfl⟩
 simp only [Blk.num] at hbA
 simp only [Blk.wld] at hV
 rw [hV] at hH hA ⊢
 rw [hbA] at hA ⊢
 replace zN : bs < bN := (by rw [← hbA]; exact zN)
 replace zN2 : V4.heap.size ≤ bN := (by rw [← hbA]; exact zN2)
 clear hV hbA
 have kN := hA
 clear hA
 clear hK K
 (try simp only [cq])
 refine wpAnyH_ready (rs := [5]) (by kernel_rfl) (by simp) ?_
 refine arc1 (some 80) fun K hK => ?_
 go_simp
 (obtain ⟨_, _, _, _, _, rH, rL, _⟩ := M4.out _ hH; refine (vo_in q gH cH gL cL X Y w1.heap.size d0 xq OK.out (by rw [HX.out.1]; omega) (by omega) (by rw [HX.out.2]; omega) _ rH rL).mono ?_; rintro e w' ⟨eA, eB, ve, rfl, hb⟩; clear rH rL; (try replace kN := kN.call hb))
 refine hK.out _ _ ?_ ?_
 · (exact hH.after hb)
 (try clear hH); (try clear hd); (try clear hb)
 intro hH
 clear hK K
 (try simp only [cq])
 refine tkY 6 (some 74) ?_ ?_ ?_
 rotate_left
 · intro w _; go_simp; (try with_reducible rfl)
 (try simp only [cq])
 refine tkY 7 (some 81) ?_ ?_ ?_
 rotate_left
 · intro w _; go_simp; (try with_reducible rfl)
 (try simp only [cq])
 refine tkY 8 (some 82) ?_ ?_ ?_
 rotate_left
 · intro w _; go_simp; (try with_reducible rfl)
 (try simp only [cq])
 refine wpAnyH_ready (rs := [10]) (by kernel_rfl) (by simp) ?_
 refine arc1 none fun K hK => ?_
 obtain ⟨r0, r1⟩ := kN.c2
 have fr0 := kN.free 0
 have fr1 := kN.free 1
 have zR := kN.lt
 have HS := Lib.hid (And.intro ((kN.set 0 (.int .i64 eA)).set 1 (.int .i64 eB)) ((hH.set (p := ⟨bN, 0, none⟩) zN2 zV (.int .i64 eA)).set (p := ⟨bN, 1, none⟩) zN2 zV (.int .i64 eB)))
 go_simp
 refine hK.out _ _ ?_ ?_
 · exact HS.out.2
 (try clear hH); (try clear hd); (try clear hb)
 intro hH
 clear hK K
 (try simp only [cq])
 refine tkY 11 (some 16) ?_ ?_ ?_
 rotate_left
 · intro w _; go_simp; (try with_reducible rfl)
 (try simp only [cq])
 refine wpAnyH_done (by kernel_rfl) ?_ _
 (try dsimp only [Act.put])
 (try simp only [cq])
 go_wp2_with fail
 go_meet
 exact ⟨_, eA, eB, rfl, rfl, ve, zN, HS.out.1, HS.out.2⟩
 }
 exact AllReadyH.nil
 }
 refine arc (some 15) (fun K hK => ?_) ?_
 {
 have zN := hH.seed.choose_spec.lt
 have zN2 := hH.2.size
 (try simp only [World.drew] at zN zN2)
 go_simp
 first | refine oA hK ?_ (fun hH hA => ?_) | refine oD hK ?_ (fun hH hA => ?_)
 · exact hH.new _
 obtain ⟨bN, hbA⟩ : ∃ b, Blk.num hA = b := ⟨_, rfl⟩
 obtain ⟨Vn, hV⟩ : ∃ V, Blk.wld hA = V := ⟨_, rfl⟩
 simp only [Blk.num] at hbA
 simp only [Blk.wld] at hV
 rw [hV] at hH hA ⊢
 rw [hbA] at hA ⊢
 replace zN : bs < bN := (by rw [← hbA]; exact zN)
 replace zN2 : V4.heap.size ≤ bN := (by rw [← hbA]; exact zN2)
 clear hV hbA
 have kN := hA
 clear hA
 clear hK K
 (try simp only [cq])
 refine wpAnyH_ready (rs := [4]) (by kernel_rfl) (by simp) ?_
 refine arc1 (some 79) fun K hK => ?_
 go_simp
 (refine (span0_any d0 xq _).mono ?_; rintro e w' ⟨rfl, hb⟩; (try replace kN := kN.call hb))
 refine hK.out _ _ ?_ ?_
 · (exact hH.after hb)
 (try clear hH); (try clear hd); (try clear hb)
 intro hH
 clear hK K
 (try simp only [cq])
 refine wpAnyH_ready (rs := [5]) (by kernel_rfl) (by simp) ?_
 refine arc1 (some 80) fun K hK => ?_
 go_simp
 (obtain ⟨_, _, _, _, _, rH, rL, _⟩ := M4.out _ hH; refine (vo_in q gH cH gL cL X Y w1.heap.size d0 xq OK.out (by rw [HX.out.1]; omega) (by omega) (by rw [HX.out.2]; omega) _ rH rL).mono ?_; rintro e w' ⟨eA, eB, ve, rfl, hb⟩; clear rH rL; (try replace kN := kN.call hb))
 refine hK.out _ _ ?_ ?_
 · (exact hH.after hb)
 (try clear hH); (try clear hd); (try clear hb)
 intro hH
 clear hK K
 (try simp only [cq])
 refine tkY 6 (some 74) ?_ ?_ ?_
 rotate_left
 · intro w _; go_simp; (try with_reducible rfl)
 (try simp only [cq])
 refine tkY 7 (some 81) ?_ ?_ ?_
 rotate_left
 · intro w _; go_simp; (try with_reducible rfl)
 (try simp only [cq])
 refine tkY 8 (some 82) ?_ ?_ ?_
 rotate_left
 · intro w _; go_simp; (try with_reducible rfl)
 (try simp only [cq])
 refine wpAnyH_ready (rs := [10]) (by kernel_rfl) (by simp) ?_
 refine arc1 none fun K hK => ?_
 obtain ⟨r0, r1⟩ := kN.c2
 have fr0 := kN.free 0
 have fr1 := kN.free 1
 have zR := kN.lt
 have HS := Lib.hid (And.intro ((kN.set 0 (.int .i64 eA)).set 1 (.int .i64 eB)) ((hH.set (p := ⟨bN, 0, none⟩) zN2 zV (.int .i64 eA)).set (p := ⟨bN, 1, none⟩) zN2 zV (.int .i64 eB)))
 go_simp
 refine hK.out _ _ ?_ ?_
 · exact HS.out.2
 (try clear hH); (try clear hd); (try clear hb)
 intro hH
 clear hK K
 (try simp only [cq])
 refine tkY 11 (some 16) ?_ ?_ ?_
 rotate_left
 · intro w _; go_simp; (try with_reducible rfl)
 (try simp only [cq])
 refine wpAnyH_done (by kernel_rfl) ?_ _
 (try dsimp only [Act.put])
 (try simp only [cq])
 go_wp2_with fail
 go_meet
 exact ⟨_, eA, eB, rfl, rfl, ve, zN, HS.out.1, HS.out.2⟩
 }
 exact AllReadyH.nil )
      case rest =>
        clear hD
        obtain ⟨bE, eA, eB, rfl, rfl, ve, zE, kE, hD⟩ := hcut
        have ok := OK.out
        have s1 := VA.out.sub ok VB.out hp0 hp2
        have s2 := VA.out.sub ok VC.out htr0 htr1
        have s3 := VoN.sub ok ve VA.out (Int.le_refl _) hd2
        have s4 := VoN.low ok VA.out ve
        have bdA := VA.out.bd ok hd1
        have bdB := VB.out.bd ok hp1
        have bdC := VC.out.bd ok (Int.le_refl _)
        have bdE := VoN.bd ok ve (show d0 ≤ xq by omega)
        clear ve
        subst s4
        have hq2 := ok.n2
        obtain ⟨kk, hkk⟩ := part_ex ok (show X 0 ≤ tr by rw [HX.out.1]; omega) (q - 1) (by omega) (by rw [show q - 1 + 1 = q by omega, HX.out.2]; omega)
        have s5 := VC.out.one ok hkk
        have KK := Lib.hid (And.intro hkk (And.intro s5.1 s5.2.1))
        have s6 := s5.2.2
        clear ok hkk s5
        obtain ⟨V5, hV⟩ : ∃ V, Blk.wld kE = V := ⟨_, rfl⟩
        simp only [Blk.wld] at hV
        rw [hV] at kE hD ⊢
        clear hV
        have M5 := Lib.hid (fun (W : World) (h : Drawn bs V5 W) => And.intro (h.blk kE (by omega)) (M4.out W (hD.trans h)))
        clear kE M4
        replace hD := Drawn.refl hD.seed
        have f1 : ¬ eB < aH := by omega
        have f1' : decide (eB < aH) = false := decide_eq_false f1
        have f2 : ¬ 1 < cB - cA := by omega
        have f2' : decide (1 < cB - cA) = false := decide_eq_false f2
        have f3 : IntKind.i64.wrap (cB - cA) = cB - cA := IntWalk.i64_in _ (by omega)
        have HSB := Lib.hid s1
        have I1 := Lib.hid (fun (W : World) => in_yes bL bH eA aH s1.1 s1.2 W)
        have I2 := Lib.hid (fun (W : World) => in_yes cA cB eA aH s2.1 s2.2 W)
        clear s1 s2 s3 s6
        obtain ⟨kE, kC, kB, kA, _⟩ := M5.out _ hD
        obtain ⟨a0, a1⟩ := kA.c2
        obtain ⟨b0, b1⟩ := kB.c2
        go_wp2_with fail
        clear kE kC kB kA a0 a1 b0 b1
        refine (I1.out _).mono ?_
        rintro e w6 ⟨rfl, hb⟩
        replace hD := hD.after hb
        clear hb I1
        obtain ⟨kE, kC, kB, kA, _⟩ := M5.out _ hD
        obtain ⟨a0, a1⟩ := kA.c2
        obtain ⟨b0, b1⟩ := kC.c2
        go_wp2_with fail
        clear kE kC kB kA a0 a1 b0 b1
        refine (I2.out _).mono ?_
        rintro e w7 ⟨rfl, hb⟩
        replace hD := hD.after hb
        clear hb I2
        obtain ⟨kE, kC, kB, kA, kD, kM, rH, rL, g0, g1, _⟩ := M5.out _ hD
        obtain ⟨a0, a1⟩ := kA.c2
        obtain ⟨b0, b1⟩ := kC.c2
        obtain ⟨c0, c1⟩ := kE.c2
        go_wp2_with fail
        clear a0 a1 b0 b1 c0 c1 kE kC kB kA kD f1 f1' f2 f2' f3
        have HM := Lib.hid (fun (W : World) (h : Drawn bs V5 W) => (show Blk W bM #[.slice (some ⟨gH, 0, none⟩) (q + 1) cH, .slice (some ⟨gL, 0, none⟩) (q + 1) cL] 24 ∧ W.ownsRow w1.heap.size 3 1 (.slice (some ⟨gH, 0, none⟩) (q + 1) cH) (q + 1) (catC (inC X) (q + 1)) ∧ W.ownsRow w1.heap.size 3 1 (.slice (some ⟨gL, 0, none⟩) (q + 1) cL) (q + 1) (catC (inC Y) (q + 1)) from by obtain ⟨_, _, _, _, _, kM, rH, rL, _⟩ := M5.out _ h; exact ⟨kM, rH, rL⟩))
        clear kM rH rL g0 g1
        have htrq : tr ≤ xq := by omega
        have htr0' : x0 ≤ tr := by omega
        go_loopw [17] (fun i wr => ∃ k : Nat, i = .int .i64 ((k + 1 : Nat) : Int) ∧ k + 1 < q + 1 ∧ X k ≤ tr ∧ (∀ j, k = j + 1 → X k < tr) ∧ Drawn bs V5 wr) (fun i _ => q + 1 - (intOf i).toNat)
        case atStart => exact ⟨0, by go_num, by omega, by rw [HX.out.1]; omega, fun j hj => by omega, hD⟩
        case round =>
          clear hD
          obtain ⟨k, rfl, hk, ha, hc, hD⟩ := hrel
          have HC := Lib.hid (And.intro ha hc)
          clear ha hc
          obtain ⟨kM, rH, rL⟩ := HM.out _ hD
          obtain ⟨m0, m1⟩ := kM.c2
          have g1 := row_int rH (i := k + 1) hk
          have zz1 := World.block_lt_of_cell? _ _ g1
          obtain ⟨i, hki⟩ : ∃ i, k + 1 = i := ⟨_, rfl⟩
          have hiN : i < q + 1 := by omega
          have hiI : (i : Int) < (q : Int) + 1 := by omega
          by_cases hlt : X (k + 1) < tr
          · have hk2 : k + 2 < q + 1 := by
              rcases Nat.lt_or_ge (k + 2) (q + 1) with h | h
              · exact h
              · have h2 : k + 1 = q := by omega
                rw [h2, HX.out.2] at hlt
                omega
            have HLt := Lib.hid hlt
            rw [hki] at g1 hlt ⊢
            generalize X i = y at g1 hlt
            have HKI := Lib.hid hki
            clear hki kM rH rL
            go_wp2
            go_roundw
            case rel => exact ⟨k + 1, by rw [show k + 1 + 1 = i + 1 by have := HKI.out; omega]; go_num, by omega, Int.le_of_lt HLt.out, fun j hj => HLt.out, hD⟩
            case measure => have := HKI.out; simp [intOf]; omega
          · have hPt : Part (q + 1) X tr k := ⟨hk, HC.out.1, by omega, HC.out.2⟩
            have hkk : kk = k := Part.uniq OK.out.hs KK.out.1 hPt
            subst hkk
            have bd := part_bd OK.out hPt
            have tru := ct_true OK.out hPt
            rw [← KK.out.2.1, ← KK.out.2.2] at tru
            have o3 := OK.out.h0 (kk + 1) hk
            have o4 := OK.out.l0 (kk + 1) hk
            have o5 := OK.out.h0 kk (by omega)
            have o6 := OK.out.l0 kk (by omega)
            have o7 := hPt.lo
            have o8 := OK.out.ls kk hk
            have HR := Lib.hid (fun (W : World) (h : Drawn bs V5 W) => (show (Blk W bM #[.slice (some ⟨gH, 0, none⟩) (q + 1) cH, .slice (some ⟨gL, 0, none⟩) (q + 1) cL] 24) ∧ W.cell? ⟨gH, kk + 1, none⟩ = some (.int .i64 (X (kk + 1))) ∧ W.cell? ⟨gH, kk, none⟩ = some (.int .i64 (X kk)) ∧ W.cell? ⟨gL, kk + 1, none⟩ = some (.int .i64 (Y (kk + 1))) ∧ W.cell? ⟨gL, kk, none⟩ = some (.int .i64 (Y kk)) from by obtain ⟨kM, rH, rL⟩ := HM.out _ h; exact ⟨kM, row_int rH hk, row_int rH (by omega), row_int rL hk, row_int rL (by omega)⟩))
            clear HC hPt KK rH rL HM
            rw [hki] at bd tru o3 o4 o8 HR hlt g1 ⊢
            generalize X i = y at bd tru o3 HR hlt g1
            generalize X kk = x at bd tru o5 o7 HR
            generalize Y i = v at bd tru o4 o8 HR
            generalize Y kk = u at bd tru o6 o8 HR
            have e1 : IntKind.i64.wrap ((i : Int) - 1) = (kk : Int) := by rw [← hki, show ((kk + 1 : Nat) : Int) - 1 = (kk : Int) by omega]; exact IntWalk.i64_in _ (by omega)
            have hkN : kk < q + 1 := by omega
            have hkI : (kk : Int) < (q : Int) + 1 := by omega
            have HKI := Lib.hid hki
            clear hki hk
            have e2 : IntKind.i64.wrap (y - x) = y - x := IntWalk.i64_in _ (by omega)
            have e3 : IntKind.i64.wrap (v - u) = v - u := IntWalk.i64_in _ (by omega)
            have e4 : IntKind.i64.wrap (tr - x) = tr - x := IntWalk.i64_in _ (by omega)
            obtain ⟨d, hdd⟩ : ∃ d, y - x = d := ⟨_, rfl⟩
            rw [hdd] at bd tru
            replace e2 := e2.trans hdd
            have p0 : 0 ≤ u * d := Int.mul_nonneg (by omega) (by omega)
            have p1 : u * d ≤ 100000000000000 := Int.le_trans (Int.mul_le_mul (show u ≤ 1000000000 by omega) (show d ≤ 100000 by omega) (by omega) (by omega)) (by decide)
            have c0 : 0 ≤ cA * d := Int.mul_nonneg (by omega) (by omega)
            have c2 : cB * d ≤ 100000000000000 := Int.le_trans (Int.mul_le_mul (show cB ≤ 1000000000 by omega) (show d ≤ 100000 by omega) (by omega) (by omega)) (by decide)
            have e5 : IntKind.i64.wrap (u * d) = u * d := IntWalk.i64_in _ (by omega)
            have e6 : IntKind.i64.wrap ((v - u) * (tr - x)) = (v - u) * (tr - x) := IntWalk.i64_in _ (by omega)
            have e7 : IntKind.i64.wrap (u * d + (v - u) * (tr - x)) = u * d + (v - u) * (tr - x) := IntWalk.i64_in _ (by omega)
            have e8 : IntKind.i64.wrap (cA * d) = cA * d := IntWalk.i64_in _ (by omega)
            have e9 : IntKind.i64.wrap (cB * d) = cB * d := IntWalk.i64_in _ (by omega)
            obtain ⟨s, hs⟩ : ∃ s, u * d + (v - u) * (tr - x) = s := ⟨_, rfl⟩
            obtain ⟨r0, hr0⟩ : ∃ s, cA * d = s := ⟨_, rfl⟩
            obtain ⟨r1, hr1⟩ : ∃ s, cB * d = s := ⟨_, rfl⟩
            rw [hs, hr0, hr1] at tru
            replace e7 := e7.trans hs
            replace e8 := e8.trans hr0
            replace e9 := e9.trans hr1
            have f1 : ¬ s < r0 := by omega
            have f1' : decide (s < r0) = false := decide_eq_false f1
            have f2 : ¬ r1 < s := by omega
            have f2' : decide (r1 < s) = false := decide_eq_false f2
            clear hs hr0 hr1 hdd p0 p1 c0 c2 tru bd o3 o4 o5 o6 o7 o8
            go_upto_region 15 with fail
            clear m0 m1 g1 kM
            go_cut [18] (fun s18 wx => s18 = .int .i64 d ∧ Drawn bs V5 wx)
            case first =>
              as_aux_lemma =>
              (
 refine wp_region_held_drew (S := (fun wx => Drawn bs V5 wx)) (by kernel_rfl) ?_ (fun hH => ?_)
 · (try dsimp only); (exact hD.trans (Drawn.drew hD.seed))
 refine tkY 0 (some 140) ?_ ?_ ?_
 rotate_left
 · intro w hS0; (try dsimp only at hS0); obtain ⟨kM, r1, r2, r3, r4⟩ := HR.out _ hS0; obtain ⟨m0, m1⟩ := kM.c2; have y1 := kM.lt; have y2 := World.block_lt_of_cell? _ _ r1;go_simp; (try with_reducible rfl)
 (try simp only [cq])
 refine tkY 1 (some 141) ?_ ?_ ?_
 rotate_left
 · intro w hS0; (try dsimp only at hS0); obtain ⟨kM, r1, r2, r3, r4⟩ := HR.out _ hS0; obtain ⟨m0, m1⟩ := kM.c2; have y1 := kM.lt; have y2 := World.block_lt_of_cell? _ _ r1;go_simp; (try with_reducible rfl)
 (try simp only [cq])
 refine tkY 2 (some 142) ?_ ?_ ?_
 rotate_left
 · intro w _; go_simp; (try with_reducible rfl)
 (try simp only [cq])
 refine tkY 3 (some 143) ?_ ?_ ?_
 rotate_left
 · intro w hS0; (try dsimp only at hS0); obtain ⟨kM, r1, r2, r3, r4⟩ := HR.out _ hS0; obtain ⟨m0, m1⟩ := kM.c2; have y1 := kM.lt; have y2 := World.block_lt_of_cell? _ _ r1;go_simp; (try with_reducible rfl)
 (try simp only [cq])
 refine tkY 4 (some 144) ?_ ?_ ?_
 rotate_left
 · intro w hS0; (try dsimp only at hS0); obtain ⟨kM, r1, r2, r3, r4⟩ := HR.out _ hS0; obtain ⟨m0, m1⟩ := kM.c2; have y1 := kM.lt; have y2 := World.block_lt_of_cell? _ _ r1;go_simp; (try with_reducible rfl)
 (try simp only [cq])
 refine tkY 5 (some 145) ?_ ?_ ?_
 rotate_left
 · intro w hS0; (try dsimp only at hS0); obtain ⟨kM, r1, r2, r3, r4⟩ := HR.out _ hS0; obtain ⟨m0, m1⟩ := kM.c2; have y1 := kM.lt; have y2 := World.block_lt_of_cell? _ _ r1;go_simp; (try with_reducible rfl)
 (try simp only [cq])
 refine tkY 6 (some 146) ?_ ?_ ?_
 rotate_left
 · intro w hS0; (try dsimp only at hS0); obtain ⟨kM, r1, r2, r3, r4⟩ := HR.out _ hS0; obtain ⟨m0, m1⟩ := kM.c2; have y1 := kM.lt; have y2 := World.block_lt_of_cell? _ _ r1;go_simp; (try with_reducible rfl)
 (try simp only [cq])
 refine tkY 7 (some 147) ?_ ?_ ?_
 rotate_left
 · intro w _; go_simp; (try with_reducible rfl)
 (try simp only [cq])
 refine tkY 8 (some 148) ?_ ?_ ?_
 rotate_left
 · intro w _; go_simp; (try with_reducible rfl)
 (try simp only [cq])
 refine tkY 9 (some 149) ?_ ?_ ?_
 rotate_left
 · intro w hS0; (try dsimp only at hS0); obtain ⟨kM, r1, r2, r3, r4⟩ := HR.out _ hS0; obtain ⟨m0, m1⟩ := kM.c2; have y1 := kM.lt; have y2 := World.block_lt_of_cell? _ _ r1;go_simp; (try with_reducible rfl)
 (try simp only [cq])
 refine tkY 10 (some 150) ?_ ?_ ?_
 rotate_left
 · intro w hS0; (try dsimp only at hS0); obtain ⟨kM, r1, r2, r3, r4⟩ := HR.out _ hS0; obtain ⟨m0, m1⟩ := kM.c2; have y1 := kM.lt; have y2 := World.block_lt_of_cell? _ _ r1;go_simp; (try with_reducible rfl)
 (try simp only [cq])
 refine tkY 11 (some 151) ?_ ?_ ?_
 rotate_left
 · intro w _; go_simp; (try with_reducible rfl)
 (try simp only [cq])
 refine tkY 12 (some 18) ?_ ?_ ?_
 rotate_left
 · intro w _; go_simp; (try with_reducible rfl)
 (try simp only [cq])
 refine wpAnyH_done (by kernel_rfl) ?_ _
 (try dsimp only [Act.put])
 (try simp only [cq])
 go_wp2_with fail
 go_meet
 exact ⟨rfl, hH⟩ )
            case rest =>
            clear hD
            obtain ⟨rfl, hD⟩ := hcut
            go_upto_region 16 with fail
            go_cut [19] (fun s19 wx => s19 = .int .i64 s ∧ Drawn bs V5 wx)
            case first =>
              as_aux_lemma =>
              (
 refine wp_region_held_drew (S := (fun wx => Drawn bs V5 wx)) (by kernel_rfl) ?_ (fun hH => ?_)
 · (try dsimp only); (exact hD.trans (Drawn.drew hD.seed))
 refine tkY 0 (some 152) ?_ ?_ ?_
 rotate_left
 · intro w hS0; (try dsimp only at hS0); obtain ⟨kM, r1, r2, r3, r4⟩ := HR.out _ hS0; obtain ⟨m0, m1⟩ := kM.c2; have y1 := kM.lt; have y2 := World.block_lt_of_cell? _ _ r1; have y3 := World.block_lt_of_cell? _ _ r3;go_simp; (try with_reducible rfl)
 (try simp only [cq])
 refine tkY 1 (some 153) ?_ ?_ ?_
 rotate_left
 · intro w hS0; (try dsimp only at hS0); obtain ⟨kM, r1, r2, r3, r4⟩ := HR.out _ hS0; obtain ⟨m0, m1⟩ := kM.c2; have y1 := kM.lt; have y2 := World.block_lt_of_cell? _ _ r1; have y3 := World.block_lt_of_cell? _ _ r3;go_simp; (try with_reducible rfl)
 (try simp only [cq])
 refine tkY 2 (some 154) ?_ ?_ ?_
 rotate_left
 · intro w _; go_simp; (try with_reducible rfl)
 (try simp only [cq])
 refine tkY 3 (some 155) ?_ ?_ ?_
 rotate_left
 · intro w _; go_simp; (try with_reducible rfl)
 (try simp only [cq])
 refine tkY 4 (some 156) ?_ ?_ ?_
 rotate_left
 · intro w hS0; (try dsimp only at hS0); obtain ⟨kM, r1, r2, r3, r4⟩ := HR.out _ hS0; obtain ⟨m0, m1⟩ := kM.c2; have y1 := kM.lt; have y2 := World.block_lt_of_cell? _ _ r1; have y3 := World.block_lt_of_cell? _ _ r3;go_simp; (try with_reducible rfl)
 (try simp only [cq])
 refine tkY 5 (some 157) ?_ ?_ ?_
 rotate_left
 · intro w hS0; (try dsimp only at hS0); obtain ⟨kM, r1, r2, r3, r4⟩ := HR.out _ hS0; obtain ⟨m0, m1⟩ := kM.c2; have y1 := kM.lt; have y2 := World.block_lt_of_cell? _ _ r1; have y3 := World.block_lt_of_cell? _ _ r3;go_simp; (try with_reducible rfl)
 (try simp only [cq])
 refine tkY 6 (some 158) ?_ ?_ ?_
 rotate_left
 · intro w _; go_simp; (try with_reducible rfl)
 (try simp only [cq])
 refine tkY 7 (some 159) ?_ ?_ ?_
 rotate_left
 · intro w _; go_simp; (try with_reducible rfl)
 (try simp only [cq])
 refine tkY 8 (some 160) ?_ ?_ ?_
 rotate_left
 · intro w hS0; (try dsimp only at hS0); obtain ⟨kM, r1, r2, r3, r4⟩ := HR.out _ hS0; obtain ⟨m0, m1⟩ := kM.c2; have y1 := kM.lt; have y2 := World.block_lt_of_cell? _ _ r1; have y3 := World.block_lt_of_cell? _ _ r3;go_simp; (try with_reducible rfl)
 (try simp only [cq])
 refine tkY 9 (some 161) ?_ ?_ ?_
 rotate_left
 · intro w hS0; (try dsimp only at hS0); obtain ⟨kM, r1, r2, r3, r4⟩ := HR.out _ hS0; obtain ⟨m0, m1⟩ := kM.c2; have y1 := kM.lt; have y2 := World.block_lt_of_cell? _ _ r1; have y3 := World.block_lt_of_cell? _ _ r3;go_simp; (try with_reducible rfl)
 (try simp only [cq])
 refine tkY 10 (some 162) ?_ ?_ ?_
 rotate_left
 · intro w _; go_simp; (try with_reducible rfl)
 (try simp only [cq])
 refine tkY 11 (some 163) ?_ ?_ ?_
 rotate_left
 · intro w hS0; (try dsimp only at hS0); obtain ⟨kM, r1, r2, r3, r4⟩ := HR.out _ hS0; obtain ⟨m0, m1⟩ := kM.c2; have y1 := kM.lt; have y2 := World.block_lt_of_cell? _ _ r1; have y3 := World.block_lt_of_cell? _ _ r3;go_simp; (try with_reducible rfl)
 (try simp only [cq])
 refine tkY 12 (some 164) ?_ ?_ ?_
 rotate_left
 · intro w hS0; (try dsimp only at hS0); obtain ⟨kM, r1, r2, r3, r4⟩ := HR.out _ hS0; obtain ⟨m0, m1⟩ := kM.c2; have y1 := kM.lt; have y2 := World.block_lt_of_cell? _ _ r1; have y3 := World.block_lt_of_cell? _ _ r3;go_simp; (try with_reducible rfl)
 (try simp only [cq])
 refine tkY 13 (some 165) ?_ ?_ ?_
 rotate_left
 · intro w hS0; (try dsimp only at hS0); obtain ⟨kM, r1, r2, r3, r4⟩ := HR.out _ hS0; obtain ⟨m0, m1⟩ := kM.c2; have y1 := kM.lt; have y2 := World.block_lt_of_cell? _ _ r1; have y3 := World.block_lt_of_cell? _ _ r3;go_simp; (try with_reducible rfl)
 (try simp only [cq])
 refine tkY 14 (some 166) ?_ ?_ ?_
 rotate_left
 · intro w hS0; (try dsimp only at hS0); obtain ⟨kM, r1, r2, r3, r4⟩ := HR.out _ hS0; obtain ⟨m0, m1⟩ := kM.c2; have y1 := kM.lt; have y2 := World.block_lt_of_cell? _ _ r1; have y3 := World.block_lt_of_cell? _ _ r3;go_simp; (try with_reducible rfl)
 (try simp only [cq])
 refine tkY 15 (some 167) ?_ ?_ ?_
 rotate_left
 · intro w _; go_simp; (try with_reducible rfl)
 (try simp only [cq])
 refine tkY 16 (some 168) ?_ ?_ ?_
 rotate_left
 · intro w _; go_simp; (try with_reducible rfl)
 (try simp only [cq])
 refine tkY 17 (some 169) ?_ ?_ ?_
 rotate_left
 · intro w hS0; (try dsimp only at hS0); obtain ⟨kM, r1, r2, r3, r4⟩ := HR.out _ hS0; obtain ⟨m0, m1⟩ := kM.c2; have y1 := kM.lt; have y2 := World.block_lt_of_cell? _ _ r1; have y3 := World.block_lt_of_cell? _ _ r3;go_simp; (try with_reducible rfl)
 (try simp only [cq])
 refine tkY 18 (some 170) ?_ ?_ ?_
 rotate_left
 · intro w hS0; (try dsimp only at hS0); obtain ⟨kM, r1, r2, r3, r4⟩ := HR.out _ hS0; obtain ⟨m0, m1⟩ := kM.c2; have y1 := kM.lt; have y2 := World.block_lt_of_cell? _ _ r1; have y3 := World.block_lt_of_cell? _ _ r3;go_simp; (try with_reducible rfl)
 (try simp only [cq])
 refine tkY 19 (some 171) ?_ ?_ ?_
 rotate_left
 · intro w _; go_simp; (try with_reducible rfl)
 (try simp only [cq])
 refine tkY 20 (some 172) ?_ ?_ ?_
 rotate_left
 · intro w _; go_simp; (try with_reducible rfl)
 (try simp only [cq])
 refine tkY 21 (some 173) ?_ ?_ ?_
 rotate_left
 · intro w hS0; (try dsimp only at hS0); obtain ⟨kM, r1, r2, r3, r4⟩ := HR.out _ hS0; obtain ⟨m0, m1⟩ := kM.c2; have y1 := kM.lt; have y2 := World.block_lt_of_cell? _ _ r1; have y3 := World.block_lt_of_cell? _ _ r3;go_simp; (try with_reducible rfl)
 (try simp only [cq])
 refine tkY 22 (some 174) ?_ ?_ ?_
 rotate_left
 · intro w hS0; (try dsimp only at hS0); obtain ⟨kM, r1, r2, r3, r4⟩ := HR.out _ hS0; obtain ⟨m0, m1⟩ := kM.c2; have y1 := kM.lt; have y2 := World.block_lt_of_cell? _ _ r1; have y3 := World.block_lt_of_cell? _ _ r3;go_simp; (try with_reducible rfl)
 (try simp only [cq])
 refine tkY 23 (some 175) ?_ ?_ ?_
 rotate_left
 · intro w _; go_simp; (try with_reducible rfl)
 (try simp only [cq])
 refine tkY 24 (some 176) ?_ ?_ ?_
 rotate_left
 · intro w _; go_simp; (try with_reducible rfl)
 (try simp only [cq])
 refine tkY 25 (some 177) ?_ ?_ ?_
 rotate_left
 · intro w hS0; (try dsimp only at hS0); obtain ⟨kM, r1, r2, r3, r4⟩ := HR.out _ hS0; obtain ⟨m0, m1⟩ := kM.c2; have y1 := kM.lt; have y2 := World.block_lt_of_cell? _ _ r1; have y3 := World.block_lt_of_cell? _ _ r3;go_simp; (try with_reducible rfl)
 (try simp only [cq])
 refine tkY 26 (some 178) ?_ ?_ ?_
 rotate_left
 · intro w hS0; (try dsimp only at hS0); obtain ⟨kM, r1, r2, r3, r4⟩ := HR.out _ hS0; obtain ⟨m0, m1⟩ := kM.c2; have y1 := kM.lt; have y2 := World.block_lt_of_cell? _ _ r1; have y3 := World.block_lt_of_cell? _ _ r3;go_simp; (try with_reducible rfl)
 (try simp only [cq])
 refine tkY 27 (some 179) ?_ ?_ ?_
 rotate_left
 · intro w _; go_simp; (try with_reducible rfl)
 (try simp only [cq])
 refine tkY 28 (some 180) ?_ ?_ ?_
 rotate_left
 · intro w _; go_simp; (try with_reducible rfl)
 (try simp only [cq])
 refine tkY 29 (some 181) ?_ ?_ ?_
 rotate_left
 · intro w _; go_simp; (try with_reducible rfl)
 (try simp only [cq])
 refine tkY 30 (some 19) ?_ ?_ ?_
 rotate_left
 · intro w _; go_simp; (try with_reducible rfl)
 (try simp only [cq])
 refine wpAnyH_done (by kernel_rfl) ?_ _
 (try dsimp only [Act.put])
 (try simp only [cq])
 go_wp2_with fail
 go_meet
 exact ⟨rfl, hH⟩ )
            case rest =>
              clear hD
              obtain ⟨rfl, hD⟩ := hcut
              clear HR e1 e2 e3 e4 e5 e6 e7
              obtain ⟨_, kC, _⟩ := M5.out _ hD
              obtain ⟨p0, p1⟩ := kC.c2
              go_wp2_with fail
              clear p0 p1 kC e8 e9 f1 f1' f2 f2'
              refine (kspan_in 0 200 bs _ hD.seed (by omega) (by omega) (by omega)).mono ?_
              rintro e w8 ⟨b0, b1, rfl, hb0, hb1, hb2, hd⟩
              replace hD := hD.trans hd
              clear hd
              go_wp2_with fail
              refine (kspan_in (-400) 400 bs _ hD.seed (by omega) (by omega) (by omega)).mono ?_
              rintro e w9 ⟨t0, t1, rfl, ht0, ht1, ht2, hd⟩
              replace hD := hD.trans hd
              clear hd
              have kT := Blk.new1 w9 (.cells #[.int .i64 b0, .int .i64 b1] 26) #[.int .i64 t0, .int .i64 t1] 26
              have kX := (Blk.new w9 #[.int .i64 b0, .int .i64 b1] 26).alloc (.cells #[.int .i64 t0, .int .i64 t1] 26)
              have zX : bs < w9.heap.size := by have := hD.seed.choose_spec.lt; omega
              replace hD := (hD.new (.cells #[.int .i64 b0, .int .i64 b1] 26)).new (.cells #[.int .i64 t0, .int .i64 t1] 26)
              go_upto_region 20 with fail
              obtain ⟨V6, hV⟩ : ∃ V, Blk.wld kX = V := ⟨_, rfl⟩
              simp only [Blk.wld] at hV
              rw [hV] at kX kT hD ⊢
              clear hV
              obtain ⟨bX, hbX⟩ : ∃ b, w9.heap.size = b := ⟨_, rfl⟩
              rw [hbX] at kX kT zX ⊢
              clear hbX
              have M6 := Lib.hid (fun (W : World) (h : Drawn bs V6 W) => And.intro (h.blk kT (by omega)) (And.intro (h.blk kX (by omega)) (M5.out W (hD.trans h))))
              clear kT kX M5
              replace hD := Drawn.refl hD.seed
              obtain ⟨kT, kX, _, _, _, kA, _⟩ := M6.out _ hD
              obtain ⟨p0', p1'⟩ := kA.c2
              obtain ⟨p2', p3'⟩ := kX.c2
              obtain ⟨p4', p5'⟩ := kT.c2
              go_wp2_with fail
              clear p0' p1' p2' p3' p4' p5' kA kX kT
              refine (std_ex eA aH b0 b1 t0 t1 bdA.1 bdA.2.1 bdA.2.2 hb0 hb1 hb2 (by omega) ht1 (by omega) _).mono ?_
              rintro e w10 ⟨xA, xB, hX, rfl, hb⟩
              have HXX := Lib.hid hX
              clear hX
              replace hD := hD.after hb
              clear hb
              have kP := Blk.new w10 #[.int .i64 xA, .int .i64 xB] 26
              have zP : bs < w10.heap.size := by have := hD.seed.choose_spec.lt; omega
              replace hD := hD.new (.cells #[.int .i64 xA, .int .i64 xB] 26)
              go_upto_region 21 with fail
              obtain ⟨V7, hV⟩ : ∃ V, Blk.wld kP = V := ⟨_, rfl⟩
              simp only [Blk.wld] at hV
              rw [hV] at kP hD ⊢
              clear hV
              obtain ⟨bP, hbP⟩ : ∃ b, w10.heap.size = b := ⟨_, rfl⟩
              rw [hbP] at kP zP ⊢
              clear hbP
              have M7 := Lib.hid (fun (W : World) (h : Drawn bs V7 W) => And.intro (h.blk kP (by omega)) (M6.out W (hD.trans h)))
              clear kP M6
              replace hD := Drawn.refl hD.seed
              go_cut [24, 25] (fun s24 s25 wx => ∃ (bY : Nat) (b2 b3 t2 t3 yA yB : Int), s24 = .pointer (some ⟨bY, 0, none⟩) ∧ s25 = .int .i64 0 ∧ b0 ≤ b2 ∧ b2 ≤ b3 ∧ b3 ≤ b1 ∧ t0 ≤ t2 ∧ t2 ≤ t3 ∧ t3 ≤ t1 ∧ (yA = stLo bL b2 b3 t2 t3 ∧ yB = stHi bH b2 b3 t2 t3) ∧ bs < bY ∧ Blk wx bY #[.int .i64 yA, .int .i64 yB] 26 ∧ Drawn bs V7 wx)
              case first =>
                have zV : bs < V7.heap.size := hD.seed.choose_spec.lt
                as_aux_lemma =>
                (
 refine wp_region_held_drew (S := (fun wx => Drawn bs V7 wx)) (by kernel_rfl) ?_ (fun hH => ?_)
 · (try dsimp only); (exact Drawn.drew hD.seed)
 refine tkY 0 (some 208) ?_ ?_ ?_
 rotate_left
 · intro w hS0; (try dsimp only at hS0); obtain ⟨_, kT, kX, _, _, kB, _⟩ := M7.out _ hS0; obtain ⟨q0', q1'⟩ := kB.c2; obtain ⟨q2', q3'⟩ := kX.c2; obtain ⟨q4', q5'⟩ := kT.c2; have y1 := kB.lt; have y2 := kX.lt; have y3 := kT.lt;go_simp; (try with_reducible rfl)
 (try simp only [cq])
 refine tkY 1 (some 209) ?_ ?_ ?_
 rotate_left
 · intro w _; go_simp; (try with_reducible rfl)
 (try simp only [cq])
 refine tkY 2 (some 210) ?_ ?_ ?_
 rotate_left
 · intro w hS0; (try dsimp only at hS0); obtain ⟨_, kT, kX, _, _, kB, _⟩ := M7.out _ hS0; obtain ⟨q0', q1'⟩ := kB.c2; obtain ⟨q2', q3'⟩ := kX.c2; obtain ⟨q4', q5'⟩ := kT.c2; have y1 := kB.lt; have y2 := kX.lt; have y3 := kT.lt;go_simp; (try with_reducible rfl)
 (try simp only [cq])
 refine tkY 4 (some 212) ?_ ?_ ?_
 rotate_left
 · intro w _; go_simp; (try with_reducible rfl)
 (try simp only [cq])
 refine tkY 5 (some 213) ?_ ?_ ?_
 rotate_left
 · intro w hS0; (try dsimp only at hS0); obtain ⟨_, kT, kX, _, _, kB, _⟩ := M7.out _ hS0; obtain ⟨q0', q1'⟩ := kB.c2; obtain ⟨q2', q3'⟩ := kX.c2; obtain ⟨q4', q5'⟩ := kT.c2; have y1 := kB.lt; have y2 := kX.lt; have y3 := kT.lt;go_simp; (try with_reducible rfl)
 (try simp only [cq])
 refine wpAnyH_ready (rs := [3, 11]) (by kernel_rfl) (by simp) ?_
 refine arc (some 211) (fun K hK => ?_) ?_
 {
 go_simp
 (refine (kpart_in b0 b1 bs _ hH.seed (by omega) (by omega) hb1).mono ?_; rintro e w' ⟨b2, b3, rfl, hp3, hp4, hp5, hd⟩; (try replace kN := hd.blk kN (by omega)))
 refine hK.out _ _ ?_ ?_
 · (first | exact hH.trans hd | exact hH.after hb)
 (try clear hH); (try clear hd); (try clear hb)
 intro hH
 clear hK K
 (try simp only [cq])
 refine wpAnyH_ready (rs := [6, 11]) (by kernel_rfl) (by simp) ?_
 refine arc (some 214) (fun K hK => ?_) ?_
 {
 go_simp
 (refine (kpart_in t0 t1 bs _ hH.seed (by omega) (by omega) ht1).mono ?_; rintro e w' ⟨t2, t3, rfl, hp6, hp7, hp8, hd⟩; (try replace kN := hd.blk kN (by omega)))
 refine hK.out _ _ ?_ ?_
 · (first | exact hH.trans hd | exact hH.after hb)
 (try clear hH); (try clear hd); (try clear hb)
 intro hH
 clear hK K
 (try simp only [cq])
 refine wpAnyH_ready (rs := [7, 11]) (by kernel_rfl) (by simp) ?_
 refine arc (some 215) (fun K hK => ?_) ?_
 {
 go_simp
 (refine (std_ex bL bH b2 b3 t2 t3 bdB.1 bdB.2.1 bdB.2.2 (by omega) hp4 (by omega) (by omega) hp7 (by omega) _).mono ?_; rintro e w' ⟨yA, yB, hY, rfl, hb⟩; have HY := Lib.hid hY; clear hY; (try replace kN := kN.call hb))
 refine hK.out _ _ ?_ ?_
 · (first | exact hH.trans hd | exact hH.after hb)
 (try clear hH); (try clear hd); (try clear hb)
 intro hH
 clear hK K
 (try simp only [cq])
 refine tkY 8 (some 207) ?_ ?_ ?_
 rotate_left
 · intro w _; go_simp; (try with_reducible rfl)
 (try simp only [cq])
 refine tkY 9 (some 216) ?_ ?_ ?_
 rotate_left
 · intro w _; go_simp; (try with_reducible rfl)
 (try simp only [cq])
 refine tkY 10 (some 217) ?_ ?_ ?_
 rotate_left
 · intro w _; go_simp; (try with_reducible rfl)
 (try simp only [cq])
 refine wpAnyH_ready (rs := [11]) (by kernel_rfl) (by simp) ?_
 refine arc1 (some 24) fun K hK => ?_
 have zN := hH.seed.choose_spec.lt
 have zN2 := hH.2.size
 (try simp only [World.drew] at zN zN2)
 go_simp
 first | refine oA hK ?_ (fun hH hA => ?_) | refine oD hK ?_ (fun hH hA => ?_)
 · exact hH.new _
 obtain ⟨bN, hbA⟩ : ∃ b, Blk.num hA = b := ⟨_, rfl⟩
 obtain ⟨Vn, hV⟩ : ∃ V, Blk.wld hA = V := ⟨_, rfl⟩
 simp only [Blk.num] at hbA
 simp only [Blk.wld] at hV
 rw [hV] at hH hA ⊢
 rw [hbA] at hA ⊢
 replace zN : bs < bN := (by rw [← hbA]; exact zN)
 replace zN2 : V7.heap.size ≤ bN := (by rw [← hbA]; exact zN2)
 clear hV hbA
 have kN := hA
 clear hA
 clear hK K
 (try simp only [cq])
 refine wpAnyH_ready (rs := [12]) (by kernel_rfl) (by simp) ?_
 refine arc1 none fun K hK => ?_
 obtain ⟨r0, r1⟩ := kN.c2
 have fr0 := kN.free 0
 have fr1 := kN.free 1
 have zR := kN.lt
 have HS := Lib.hid (And.intro ((kN.set 0 (.int .i64 yA)).set 1 (.int .i64 yB)) ((hH.set (p := ⟨bN, 0, none⟩) zN2 zV (.int .i64 yA)).set (p := ⟨bN, 1, none⟩) zN2 zV (.int .i64 yB)))
 go_simp
 refine hK.out _ _ ?_ ?_
 · exact HS.out.2
 (try clear hH); (try clear hd); (try clear hb)
 intro hH
 clear hK K
 (try simp only [cq])
 refine tkY 13 (some 25) ?_ ?_ ?_
 rotate_left
 · intro w _; go_simp; (try with_reducible rfl)
 (try simp only [cq])
 refine wpAnyH_done (by kernel_rfl) ?_ _
 (try dsimp only [Act.put])
 (try simp only [cq])
 go_wp2_with fail
 go_meet
 exact ⟨_, b2, b3, t2, t3, yA, yB, rfl, rfl, hp3, hp4, hp5, hp6, hp7, hp8, HY.out, zN, HS.out.1, HS.out.2⟩
 }
 refine arc (some 24) (fun K hK => ?_) ?_
 {
 have zN := hH.seed.choose_spec.lt
 have zN2 := hH.2.size
 (try simp only [World.drew] at zN zN2)
 go_simp
 first | refine oA hK ?_ (fun hH hA => ?_) | refine oD hK ?_ (fun hH hA => ?_)
 · exact hH.new _
 obtain ⟨bN, hbA⟩ : ∃ b, Blk.num hA = b := ⟨_, rfl⟩
 obtain ⟨Vn, hV⟩ : ∃ V, Blk.wld hA = V := ⟨_, rfl⟩
 simp only [Blk.num] at hbA
 simp only [Blk.wld] at hV
 rw [hV] at hH hA ⊢
 rw [hbA] at hA ⊢
 replace zN : bs < bN := (by rw [← hbA]; exact zN)
 replace zN2 : V7.heap.size ≤ bN := (by rw [← hbA]; exact zN2)
 clear hV hbA
 have kN := hA
 clear hA
 clear hK K
 (try simp only [cq])
 refine wpAnyH_ready (rs := [7]) (by kernel_rfl) (by simp) ?_
 refine arc1 (some 215) fun K hK => ?_
 go_simp
 (refine (std_ex bL bH b2 b3 t2 t3 bdB.1 bdB.2.1 bdB.2.2 (by omega) hp4 (by omega) (by omega) hp7 (by omega) _).mono ?_; rintro e w' ⟨yA, yB, hY, rfl, hb⟩; have HY := Lib.hid hY; clear hY; (try replace kN := kN.call hb))
 refine hK.out _ _ ?_ ?_
 · (first | exact hH.trans hd | exact hH.after hb)
 (try clear hH); (try clear hd); (try clear hb)
 intro hH
 clear hK K
 (try simp only [cq])
 refine tkY 8 (some 207) ?_ ?_ ?_
 rotate_left
 · intro w _; go_simp; (try with_reducible rfl)
 (try simp only [cq])
 refine tkY 9 (some 216) ?_ ?_ ?_
 rotate_left
 · intro w _; go_simp; (try with_reducible rfl)
 (try simp only [cq])
 refine tkY 10 (some 217) ?_ ?_ ?_
 rotate_left
 · intro w _; go_simp; (try with_reducible rfl)
 (try simp only [cq])
 refine wpAnyH_ready (rs := [12]) (by kernel_rfl) (by simp) ?_
 refine arc1 none fun K hK => ?_
 obtain ⟨r0, r1⟩ := kN.c2
 have fr0 := kN.free 0
 have fr1 := kN.free 1
 have zR := kN.lt
 have HS := Lib.hid (And.intro ((kN.set 0 (.int .i64 yA)).set 1 (.int .i64 yB)) ((hH.set (p := ⟨bN, 0, none⟩) zN2 zV (.int .i64 yA)).set (p := ⟨bN, 1, none⟩) zN2 zV (.int .i64 yB)))
 go_simp
 refine hK.out _ _ ?_ ?_
 · exact HS.out.2
 (try clear hH); (try clear hd); (try clear hb)
 intro hH
 clear hK K
 (try simp only [cq])
 refine tkY 13 (some 25) ?_ ?_ ?_
 rotate_left
 · intro w _; go_simp; (try with_reducible rfl)
 (try simp only [cq])
 refine wpAnyH_done (by kernel_rfl) ?_ _
 (try dsimp only [Act.put])
 (try simp only [cq])
 go_wp2_with fail
 go_meet
 exact ⟨_, b2, b3, t2, t3, yA, yB, rfl, rfl, hp3, hp4, hp5, hp6, hp7, hp8, HY.out, zN, HS.out.1, HS.out.2⟩
 }
 exact AllReadyH.nil
 }
 refine arc (some 24) (fun K hK => ?_) ?_
 {
 have zN := hH.seed.choose_spec.lt
 have zN2 := hH.2.size
 (try simp only [World.drew] at zN zN2)
 go_simp
 first | refine oA hK ?_ (fun hH hA => ?_) | refine oD hK ?_ (fun hH hA => ?_)
 · exact hH.new _
 obtain ⟨bN, hbA⟩ : ∃ b, Blk.num hA = b := ⟨_, rfl⟩
 obtain ⟨Vn, hV⟩ : ∃ V, Blk.wld hA = V := ⟨_, rfl⟩
 simp only [Blk.num] at hbA
 simp only [Blk.wld] at hV
 rw [hV] at hH hA ⊢
 rw [hbA] at hA ⊢
 replace zN : bs < bN := (by rw [← hbA]; exact zN)
 replace zN2 : V7.heap.size ≤ bN := (by rw [← hbA]; exact zN2)
 clear hV hbA
 have kN := hA
 clear hA
 clear hK K
 (try simp only [cq])
 refine wpAnyH_ready (rs := [6]) (by kernel_rfl) (by simp) ?_
 refine arc1 (some 214) fun K hK => ?_
 go_simp
 (refine (kpart_in t0 t1 bs _ hH.seed (by omega) (by omega) ht1).mono ?_; rintro e w' ⟨t2, t3, rfl, hp6, hp7, hp8, hd⟩; (try replace kN := hd.blk kN (by omega)))
 refine hK.out _ _ ?_ ?_
 · (first | exact hH.trans hd | exact hH.after hb)
 (try clear hH); (try clear hd); (try clear hb)
 intro hH
 clear hK K
 (try simp only [cq])
 refine wpAnyH_ready (rs := [7]) (by kernel_rfl) (by simp) ?_
 refine arc1 (some 215) fun K hK => ?_
 go_simp
 (refine (std_ex bL bH b2 b3 t2 t3 bdB.1 bdB.2.1 bdB.2.2 (by omega) hp4 (by omega) (by omega) hp7 (by omega) _).mono ?_; rintro e w' ⟨yA, yB, hY, rfl, hb⟩; have HY := Lib.hid hY; clear hY; (try replace kN := kN.call hb))
 refine hK.out _ _ ?_ ?_
 · (first | exact hH.trans hd | exact hH.after hb)
 (try clear hH); (try clear hd); (try clear hb)
 intro hH
 clear hK K
 (try simp only [cq])
 refine tkY 8 (some 207) ?_ ?_ ?_
 rotate_left
 · intro w _; go_simp; (try with_reducible rfl)
 (try simp only [cq])
 refine tkY 9 (some 216) ?_ ?_ ?_
 rotate_left
 · intro w _; go_simp; (try with_reducible rfl)
 (try simp only [cq])
 refine tkY 10 (some 217) ?_ ?_ ?_
 rotate_left
 · intro w _; go_simp; (try with_reducible rfl)
 (try simp only [cq])
 refine wpAnyH_ready (rs := [12]) (by kernel_rfl) (by simp) ?_
 refine arc1 none fun K hK => ?_
 obtain ⟨r0, r1⟩ := kN.c2
 have fr0 := kN.free 0
 have fr1 := kN.free 1
 have zR := kN.lt
 have HS := Lib.hid (And.intro ((kN.set 0 (.int .i64 yA)).set 1 (.int .i64 yB)) ((hH.set (p := ⟨bN, 0, none⟩) zN2 zV (.int .i64 yA)).set (p := ⟨bN, 1, none⟩) zN2 zV (.int .i64 yB)))
 go_simp
 refine hK.out _ _ ?_ ?_
 · exact HS.out.2
 (try clear hH); (try clear hd); (try clear hb)
 intro hH
 clear hK K
 (try simp only [cq])
 refine tkY 13 (some 25) ?_ ?_ ?_
 rotate_left
 · intro w _; go_simp; (try with_reducible rfl)
 (try simp only [cq])
 refine wpAnyH_done (by kernel_rfl) ?_ _
 (try dsimp only [Act.put])
 (try simp only [cq])
 go_wp2_with fail
 go_meet
 exact ⟨_, b2, b3, t2, t3, yA, yB, rfl, rfl, hp3, hp4, hp5, hp6, hp7, hp8, HY.out, zN, HS.out.1, HS.out.2⟩
 }
 exact AllReadyH.nil
 }
 refine arc (some 24) (fun K hK => ?_) ?_
 {
 have zN := hH.seed.choose_spec.lt
 have zN2 := hH.2.size
 (try simp only [World.drew] at zN zN2)
 go_simp
 first | refine oA hK ?_ (fun hH hA => ?_) | refine oD hK ?_ (fun hH hA => ?_)
 · exact hH.new _
 obtain ⟨bN, hbA⟩ : ∃ b, Blk.num hA = b := ⟨_, rfl⟩
 obtain ⟨Vn, hV⟩ : ∃ V, Blk.wld hA = V := ⟨_, rfl⟩
 simp only [Blk.num] at hbA
 simp only [Blk.wld] at hV
 rw [hV] at hH hA ⊢
 rw [hbA] at hA ⊢
 replace zN : bs < bN := (by rw [← hbA]; exact zN)
 replace zN2 : V7.heap.size ≤ bN := (by rw [← hbA]; exact zN2)
 clear hV hbA
 have kN := hA
 clear hA
 clear hK K
 (try simp only [cq])
 refine wpAnyH_ready (rs := [3]) (by kernel_rfl) (by simp) ?_
 refine arc1 (some 211) fun K hK => ?_
 go_simp
 (refine (kpart_in b0 b1 bs _ hH.seed (by omega) (by omega) hb1).mono ?_; rintro e w' ⟨b2, b3, rfl, hp3, hp4, hp5, hd⟩; (try replace kN := hd.blk kN (by omega)))
 refine hK.out _ _ ?_ ?_
 · (first | exact hH.trans hd | exact hH.after hb)
 (try clear hH); (try clear hd); (try clear hb)
 intro hH
 clear hK K
 (try simp only [cq])
 refine wpAnyH_ready (rs := [6]) (by kernel_rfl) (by simp) ?_
 refine arc1 (some 214) fun K hK => ?_
 go_simp
 (refine (kpart_in t0 t1 bs _ hH.seed (by omega) (by omega) ht1).mono ?_; rintro e w' ⟨t2, t3, rfl, hp6, hp7, hp8, hd⟩; (try replace kN := hd.blk kN (by omega)))
 refine hK.out _ _ ?_ ?_
 · (first | exact hH.trans hd | exact hH.after hb)
 (try clear hH); (try clear hd); (try clear hb)
 intro hH
 clear hK K
 (try simp only [cq])
 refine wpAnyH_ready (rs := [7]) (by kernel_rfl) (by simp) ?_
 refine arc1 (some 215) fun K hK => ?_
 go_simp
 (refine (std_ex bL bH b2 b3 t2 t3 bdB.1 bdB.2.1 bdB.2.2 (by omega) hp4 (by omega) (by omega) hp7 (by omega) _).mono ?_; rintro e w' ⟨yA, yB, hY, rfl, hb⟩; have HY := Lib.hid hY; clear hY; (try replace kN := kN.call hb))
 refine hK.out _ _ ?_ ?_
 · (first | exact hH.trans hd | exact hH.after hb)
 (try clear hH); (try clear hd); (try clear hb)
 intro hH
 clear hK K
 (try simp only [cq])
 refine tkY 8 (some 207) ?_ ?_ ?_
 rotate_left
 · intro w _; go_simp; (try with_reducible rfl)
 (try simp only [cq])
 refine tkY 9 (some 216) ?_ ?_ ?_
 rotate_left
 · intro w _; go_simp; (try with_reducible rfl)
 (try simp only [cq])
 refine tkY 10 (some 217) ?_ ?_ ?_
 rotate_left
 · intro w _; go_simp; (try with_reducible rfl)
 (try simp only [cq])
 refine wpAnyH_ready (rs := [12]) (by kernel_rfl) (by simp) ?_
 refine arc1 none fun K hK => ?_
 obtain ⟨r0, r1⟩ := kN.c2
 have fr0 := kN.free 0
 have fr1 := kN.free 1
 have zR := kN.lt
 have HS := Lib.hid (And.intro ((kN.set 0 (.int .i64 yA)).set 1 (.int .i64 yB)) ((hH.set (p := ⟨bN, 0, none⟩) zN2 zV (.int .i64 yA)).set (p := ⟨bN, 1, none⟩) zN2 zV (.int .i64 yB)))
 go_simp
 refine hK.out _ _ ?_ ?_
 · exact HS.out.2
 (try clear hH); (try clear hd); (try clear hb)
 intro hH
 clear hK K
 (try simp only [cq])
 refine tkY 13 (some 25) ?_ ?_ ?_
 rotate_left
 · intro w _; go_simp; (try with_reducible rfl)
 (try simp only [cq])
 refine wpAnyH_done (by kernel_rfl) ?_ _
 (try dsimp only [Act.put])
 (try simp only [cq])
 go_wp2_with fail
 go_meet
 exact ⟨_, b2, b3, t2, t3, yA, yB, rfl, rfl, hp3, hp4, hp5, hp6, hp7, hp8, HY.out, zN, HS.out.1, HS.out.2⟩
 }
 exact AllReadyH.nil )
              case rest =>
                clear hD
                obtain ⟨bY, b2, b3, t2, t3, yA, yB, rfl, rfl, hp3, hp4, hp5, hp6, hp7, hp8, hY, zY, kY, hD⟩ := hcut
                have hsub := st_sub (l0 := eA) (l1 := aH) (l2 := bL) (l3 := bH) hb0 hp3 hp4 hp5 hb2 (by omega) hp6 hp7 hp8 (by omega) bdA.1 HSB.out.1 bdB.2.1 HSB.out.2
                rw [← HXX.out.1, ← HXX.out.2, ← hY.1, ← hY.2] at hsub
                clear hY hp3 hp4 hp5 hp6 hp7 hp8
                obtain ⟨V8, hV⟩ : ∃ V, Blk.wld kY = V := ⟨_, rfl⟩
                simp only [Blk.wld] at hV
                rw [hV] at kY hD ⊢
                clear hV
                have M8 := Lib.hid (fun (W : World) (h : Drawn bs V8 W) => And.intro (h.blk kY (by omega)) (M7.out W (hD.trans h)))
                clear kY M7
                replace hD := Drawn.refl hD.seed
                go_upto_region 22 with fail
                go_cut [26, 27, 28] (fun s26 s27 s28 wx => ∃ (v qq pp : Int), s26 = .int .i64 v ∧ s27 = .int .i64 qq ∧ s28 = .int .i64 pp ∧ eA ≤ v ∧ v ≤ aH ∧ b0 ≤ qq ∧ qq ≤ b1 ∧ t0 ≤ pp ∧ pp ≤ t1 ∧ Drawn bs V8 wx)
                case first =>
                  as_aux_lemma =>
                  (
 refine wp_region_held_drew (S := (fun wx => Drawn bs V8 wx)) (by kernel_rfl) ?_ (fun hH => ?_)
 · (try dsimp only); (exact Drawn.drew hD.seed)
 refine tkY 0 (some 218) ?_ ?_ ?_
 rotate_left
 · intro w _; go_simp; (try with_reducible rfl)
 (try simp only [cq])
 refine tkY 1 (some 219) ?_ ?_ ?_
 rotate_left
 · intro w hS0; (try dsimp only at hS0); obtain ⟨_, _, kT, kX, _, _, _, kA, _⟩ := M8.out _ hS0; obtain ⟨q0', q1'⟩ := kA.c2; obtain ⟨q2', q3'⟩ := kX.c2; obtain ⟨q4', q5'⟩ := kT.c2; have y1 := kA.lt; have y2 := kX.lt; have y3 := kT.lt;go_simp; (try with_reducible rfl)
 (try simp only [cq])
 refine tkY 3 (some 221) ?_ ?_ ?_
 rotate_left
 · intro w _; go_simp; (try with_reducible rfl)
 (try simp only [cq])
 refine tkY 4 (some 222) ?_ ?_ ?_
 rotate_left
 · intro w hS0; (try dsimp only at hS0); obtain ⟨_, _, kT, kX, _, _, _, kA, _⟩ := M8.out _ hS0; obtain ⟨q0', q1'⟩ := kA.c2; obtain ⟨q2', q3'⟩ := kX.c2; obtain ⟨q4', q5'⟩ := kT.c2; have y1 := kA.lt; have y2 := kX.lt; have y3 := kT.lt;go_simp; (try with_reducible rfl)
 (try simp only [cq])
 refine tkY 6 (some 224) ?_ ?_ ?_
 rotate_left
 · intro w _; go_simp; (try with_reducible rfl)
 (try simp only [cq])
 refine tkY 7 (some 225) ?_ ?_ ?_
 rotate_left
 · intro w hS0; (try dsimp only at hS0); obtain ⟨_, _, kT, kX, _, _, _, kA, _⟩ := M8.out _ hS0; obtain ⟨q0', q1'⟩ := kA.c2; obtain ⟨q2', q3'⟩ := kX.c2; obtain ⟨q4', q5'⟩ := kT.c2; have y1 := kA.lt; have y2 := kX.lt; have y3 := kT.lt;go_simp; (try with_reducible rfl)
 (try simp only [cq])
 refine wpAnyH_ready (rs := [2]) (by kernel_rfl) (by simp) ?_
 refine arc1 (some 220) fun K hK => ?_
 go_simp
 (refine (inside_in eA aH bs _ hH.seed (by omega) (by omega) bdA.2.1).mono ?_; rintro e w' ⟨v, rfl, hv0, hv1, hd⟩)
 refine hK.out _ _ ?_ ?_
 · (exact hH.trans hd)
 (try clear hH); (try clear hd)
 intro hH
 clear hK K
 (try simp only [cq])
 refine wpAnyH_ready (rs := [5]) (by kernel_rfl) (by simp) ?_
 refine arc1 (some 223) fun K hK => ?_
 go_simp
 (refine (inside_in b0 b1 bs _ hH.seed (by omega) (by omega) hb1).mono ?_; rintro e w' ⟨qq, rfl, hq0, hq1, hd⟩)
 refine hK.out _ _ ?_ ?_
 · (exact hH.trans hd)
 (try clear hH); (try clear hd)
 intro hH
 clear hK K
 (try simp only [cq])
 refine wpAnyH_ready (rs := [8]) (by kernel_rfl) (by simp) ?_
 refine arc1 (some 226) fun K hK => ?_
 go_simp
 (refine (inside_in t0 t1 bs _ hH.seed (by omega) (by omega) ht1).mono ?_; rintro e w' ⟨pp, rfl, hpp0, hpp1, hd⟩)
 refine hK.out _ _ ?_ ?_
 · (exact hH.trans hd)
 (try clear hH); (try clear hd)
 intro hH
 clear hK K
 (try simp only [cq])
 refine tkY 9 (some 26) ?_ ?_ ?_
 rotate_left
 · intro w _; go_simp; (try with_reducible rfl)
 (try simp only [cq])
 refine tkY 10 (some 27) ?_ ?_ ?_
 rotate_left
 · intro w _; go_simp; (try with_reducible rfl)
 (try simp only [cq])
 refine tkY 11 (some 28) ?_ ?_ ?_
 rotate_left
 · intro w _; go_simp; (try with_reducible rfl)
 (try simp only [cq])
 refine wpAnyH_done (by kernel_rfl) ?_ _
 (try dsimp only [Act.put])
 (try simp only [cq])
 go_wp2_with fail
 go_meet
 exact ⟨v, qq, pp, rfl, rfl, rfl, hv0, hv1, hq0, hq1, hpp0, hpp1, hH⟩ )
                case rest =>
                  clear hD
                  obtain ⟨v, qq, pp, rfl, rfl, rfl, hv0, hv1, hq0, hq1, hpp0, hpp1, hD⟩ := hcut
                  have tru := st_true (l0 := eA) (l1 := aH) hb0 hq0 hq1 hb2 (show -1000 ≤ t0 by omega) hpp0 hpp1 (by omega) bdA.1 hv0 hv1
                  have sbd := st_bd bdA.1 bdA.2.1 bdA.2.2 hb0 hb1 hb2 (show -1000 ≤ t0 by omega) ht1 (by omega)
                  rw [← HXX.out.1, ← HXX.out.2] at tru sbd
                  have kbd := shk_bd (show 0 ≤ qq by omega) (show qq ≤ 200 by omega) (show -1000 ≤ pp by omega) (show pp ≤ 1000 by omega)
                  have vbd := left_bd (show 0 ≤ v by omega) (show v ≤ 1000000000 by omega) kbd
                  have e1 : IntKind.i64.wrap (pp - 150) = pp - 150 := IntWalk.i64_in _ (by omega)
                  have e2 : IntKind.i64.wrap (qq * (pp - 150)) = shk qq pp := IntWalk.i64_in _ (show _ ∧ _ from by unfold shk at kbd; omega)
                  have e3 : IntKind.i64.wrap (1000000 - shk qq pp) = 1000000 - shk qq pp := IntWalk.i64_in _ (by omega)
                  have e4 : IntKind.i64.wrap (v * (1000000 - shk qq pp)) = v * (1000000 - shk qq pp) := IntWalk.i64_in _ (by omega)
                  obtain ⟨z, hz⟩ : ∃ z, v * (1000000 - shk qq pp) = z := ⟨_, rfl⟩
                  rw [hz] at tru vbd
                  replace e4 := e4.trans hz
                  clear hz
                  have e5 : IntKind.i64.wrap (xA * 1000000) = xA * 1000000 := IntWalk.i64_in _ (by omega)
                  have e6 : IntKind.i64.wrap (xB * 1000000) = xB * 1000000 := IntWalk.i64_in _ (by omega)
                  have f1 : decide (xA * 1000000 ≤ z) = true := decide_eq_true tru.1
                  have f2 : decide (z ≤ xB * 1000000) = true := decide_eq_true tru.2
                  have I3 := Lib.hid (fun (W : World) => in_yes yA yB xA xB hsub.1 hsub.2 W)
                  clear tru sbd kbd vbd hsub hv0 hv1 hq0 hq1 hpp0 hpp1 HXX HSB
                  obtain ⟨kY, kP, _⟩ := M8.out _ hD
                  obtain ⟨p0', p1'⟩ := kY.c2
                  obtain ⟨p2', p3'⟩ := kP.c2
                  go_wp2_with fail
                  clear p0' p1' p2' p3' kY kP
                  refine (I3.out _).mono ?_
                  rintro e w11 ⟨rfl, hb⟩
                  replace hD := hD.after hb
                  clear hb I3
                  obtain ⟨_, kP, _⟩ := M8.out _ hD
                  obtain ⟨p2', p3'⟩ := kP.c2
                  go_wp2_with fail
                  clear p2' p3' kP
                  refine (HAw.out _).mono ?_
                  rintro e w12 ⟨rfl, hb⟩
                  obtain ⟨_, _, _, _, _, _, _, _, _, _, _, _, _, _, jB⟩ := M8.out _ hD
                  replace jB := jB.trans (hb.mono jB.size)
                  clear hb
                  go_wp2
                  go_ret
                  exact ⟨rfl, jB⟩
end Go.Proofs.Ytegdflikeoiaaaa
