/-
  FuelDays: days that litres truly last.
-/
import Derived.Test.YtegdflikeoiaaaaTail
import Derived.Test.YtegdflikeoiaaaaBut
import Derived.Test.YtegdflikeoiaaaaRbu
import Derived.Test.YtegdflikeoiaaaaAwk
import Derived.Test.YtegdflikeoiaaaaNew
set_option linter.unusedVariables false
set_option linter.unusedSimpArgs false
namespace Go.Proofs.Ytegdflikeoiaaaa
open Go.RowKit

theorem nz_none (x : Nat → Int) : ∀ m i, (∀ j, i ≤ j → j < i + m → x j = 0) → firstNZ x i m = 0
  | 0, _, _ => rfl
  | m + 1, i, h => by
    show orE (x i) (firstNZ x (i + 1) m) = 0
    unfold orE
    rw [if_pos (h i (by omega) (by omega))]
    exact nz_none x m (i + 1) (fun j h1 h2 => h j (by omega) (by omega))
theorem sp_ok {lo hi a b : Int} (h1 : a ≤ lo) (h2 : lo ≤ hi) (h3 : hi ≤ b) : eS lo hi a b = 0 := by
  have e1 : eN lo a b = 0 := if_neg (by omega)
  have e2 : eN hi a b = 0 := if_neg (by omega)
  have e3 : decide (lo ≤ hi) = true := decide_eq_true h2
  unfold eS eR
  rw [e1, e2, e3]
  rfl
theorem news_two {W : World} {g : Nat} {x y : Value} {t : TypeId} (h : Blk W g #[x, y] t) : ∀ (j : Nat) (u : Value), [x, y][j]? = some u → W.cell? ((⟨g, 0, none⟩ : Addr).add j) = some u := by
  intro j u hj
  match j with
  | 0 => simp at hj; subst hj; exact h.cell 0 rfl
  | 1 => simp at hj; subst hj; exact h.cell 1 rfl
  | k + 2 => simp at hj
theorem cat_less (C D K : Nat → Int) (q : Nat) (y : Int) : catC (spC (fun i => C i - upF K q y i) (fun i => D i - upF K q y i)) (q + 1) = catC (spC (fun i => C i - K i) (fun i => D i - K i)) q ++ [.int .i64 (C q - y), .int .i64 (D q - y)] := by
  rw [catC, catC_congr q (C := spC (fun i => C i - upF K q y i) (fun i => D i - upF K q y i)) (D := spC (fun i => C i - K i) (fun i => D i - K i)) (fun i hi => by unfold spC upF; simp only [if_neg (show ¬ i = q by omega)])]
  unfold spC upF
  simp
theorem row_sp {W : World} {base g n c : Nat} {A B : Nat → Int} (h : W.ownsRow base 26 2 (.slice (some ⟨g, 0, none⟩) n c) n (catC (spC A B) n)) {i : Nat} (hi : i < n) : W.cell? ⟨g, i * 2, none⟩ = some (.int .i64 (A i)) ∧ W.cell? ⟨g, i * 2 + 1, none⟩ = some (.int .i64 (B i)) := by
  refine ⟨?_, ?_⟩
  · rw [h.cellAt (i * 2) (by omega)]
    exact catC_at (spC A B) 2 i 0 (by omega) n (fun _ _ => rfl) hi
  · rw [h.cellAt (i * 2 + 1) (by omega)]
    exact catC_at (spC A B) 2 i 1 (by omega) n (fun _ _ => rfl) hi
theorem BuR.e {n : Nat} {U : Nat → Bu} (h : BuR n U) (h0 : 0 < n) (h4 : n ≤ 4) : eBur n U = 0 := by
  have h1 : eSm n = 0 := if_neg (by omega)
  unfold eBur eL
  rw [h1, if_neg (by omega)]
  refine nz_none _ _ _ (fun j _ hj => ?_)
  have a := h.ok j (by omega)
  have b := h.lh j (by omega)
  rw [eBu_ok (by simp; omega) (by
    cases j with
    | zero => exact .inl rfl
    | succ j => exact .inr ⟨j, rfl, h.hs j (by omega)⟩)]
  exact sp_ok (by omega) b (by omega)
theorem las_day (l0 l1 : Int) (n : Nat) (U : Nat → Bu) (vU : Value) (m : Nat) (C D : Nat → Int) (vC : Value) (hl0 : 0 ≤ l0) (hl : l0 ≤ l1) (hl1 : l1 ≤ 1000000000) (hR : BuR n U) (h0 : 0 < n) (h4 : n ≤ 4) (hm : m ≤ 12) (hC : ∀ i, i < m → -1000 ≤ C i ∧ C i ≤ D i ∧ D i ≤ 1000) (w : World) (hU : BusAt w vU n U) (hS : SpansAt w vC m C D) :
    Calls Try.prog 47 #[.agg #[.int .i64 l0, .int .i64 l1], vU, vC] w fun e w' => ∃ d0 d1 : Nat, (DayN m l0 (fun i => bnB U n (C i) (D i) n) d0 ∧ DayN m l1 (fun i => bnA U n (C i) (D i) n) d1) ∧ e = .returned (.tuple #[.agg #[.int .i64 d0, .int .i64 d1], .int .i64 0]) ∧ Below w.heap.size w w' := by
  have h1 : eLit l0 l1 = 0 := sp_ok hl0 hl hl1
  have h2 := hR.e h0 h4
  have h3 : eCol m C D = 0 := by
    unfold eCol eL
    rw [if_neg (by omega)]
    exact nz_none _ _ _ (fun j _ hj => by have := hC j (by omega); exact sp_ok this.1 this.2.1 this.2.2)
  have hz : eLas l0 l1 n U m C D = 0 := by
    unfold eLas orE
    rw [if_pos h1, if_pos h2, h3]
  refine (lasts_any l0 l1 n U vU m C D vC w hU hS).mono ?_
  rintro e w' ⟨v, rfl, ho, hb⟩
  rcases ho with ⟨h, _⟩ | ⟨_, d0, d1, hd0, hd1, rfl⟩
  · exact absurd hz h
  · exact ⟨d0, d1, ⟨hd0, hd1⟩, rfl, hb⟩
set_option maxRecDepth 100000 in
theorem has_yes (a0 a1 x : Int) (h0 : a0 ≤ x) (h1 : x ≤ a1) (w : World) : Calls Try.prog 51 #[.agg #[.int .i64 a0, .int .i64 a1], .int .i64 x] w fun e w' => e = .returned (.bool true) ∧ Below w.heap.size w w' := by
  have jA := Blk.new w #[.int .i64 a0, .int .i64 a1] 26
  have kB : Below w.heap.size w (w.alloc (.cells #[.int .i64 a0, .int .i64 a1] 26)) := by (repeat (first | exact Below.refl _ _ | assumption | refine Below.drew ?_ | refine Below.drewN ?_ _ | refine blT ?_ | refine blU ?_))
  obtain ⟨c0, c1⟩ := jA.c2
  have e0 : decide (a0 ≤ x) = true := decide_eq_true h0
  have e1 : decide (x ≤ a1) = true := decide_eq_true h1
  clear h0 h1
  go_enter Try.func51, Try.ntmps51
  go_wp2
  go_ret
  exact ⟨by simp [e0, e1], kB⟩
set_option maxRecDepth 100000 in
set_option maxHeartbeats 2000000 in
theorem lburnt_in (n : Nat) (U : Nat → Bu) (t : Int) (g c base bs : Nat) (w : World) (hs : SeedAt bs w) (h0 : 0 < n) (h4 : n ≤ 4) (hR : BuR n U) (rU : w.ownsRow base 127 3 (.slice (some ⟨g, 0, none⟩) n c) n (catC (buC U) n)) :
    Calls Try.prog 65 #[.pointer (some ⟨bs, 0, none⟩), .slice (some ⟨g, 0, none⟩) n c, .int .i64 t] w fun e w' => ∃ (a : Nat) (x : Int), Plc n U t a ∧ (U a).lo ≤ x ∧ x ≤ (U a).hi ∧ e = .returned (.int .i64 x) ∧ Drawn bs w w' := by
  have HC := Lib.hid (fun (i : Nat) (hi : i < n) => row_bu rU hi)
  have HR := Lib.hid hR
  have zg := (rU.lt g rfl).2
  clear rU hR
  go_enter Try.func65, Try.ntmps65
  go_wp2_with fail
  go_loopw [7, 8] (fun s7 i wr => ∃ a k : Nat, s7 = .int .i64 a ∧ i = .int .i64 ((k + 1 : Nat) : Int) ∧ a ≤ k ∧ k < n ∧ (a = 0 ∨ (U a).co ≤ t) ∧ (∀ i, a < i → i < k + 1 → t < (U i).co) ∧ wr = w) (fun _ i _ => n - (intOf i).toNat)
  case atStart => exact ⟨0, 0, rfl, by go_num, Nat.le_refl _, h0, .inl rfl, fun i hi hi2 => by omega, rfl⟩
  case round =>
    obtain ⟨a, k, rfl, rfl, hak, hk, ha, hno, rfl⟩ := hrel
    have HA := Lib.hid (And.intro ha hno)
    clear ha hno
    by_cases hlt : k + 1 < n
    · obtain ⟨g0, -, -⟩ := HC.out (k + 1) hlt
      by_cases hco : (U (k + 1)).co ≤ t
      · have HCO := Lib.hid hco
        obtain ⟨i, hki⟩ : ∃ i, k + 1 = i := ⟨_, rfl⟩
        rw [hki] at g0 hlt hco ⊢
        have hltI : (i : Int) < n := by omega
        generalize (U i).co = y at g0 hco
        have HKI := Lib.hid hki
        clear hki
        go_wp2
        go_roundw
        case rel => exact ⟨k + 1, k + 1, by rw [HKI.out], by rw [show k + 1 + 1 = i + 1 by have := HKI.out; omega]; go_num, Nat.le_refl _, by have := HKI.out; omega, .inr HCO.out, fun j h1 h2 => by omega, by first | rfl | trivial⟩
        case measure => have := HKI.out; simp [intOf]; omega
      · have HCO := Lib.hid hco
        obtain ⟨i, hki⟩ : ∃ i, k + 1 = i := ⟨_, rfl⟩
        rw [hki] at g0 hlt hco ⊢
        have hltI : (i : Int) < n := by omega
        generalize (U i).co = y at g0 hco
        have HKI := Lib.hid hki
        clear hki
        go_wp2
        go_roundw
        case rel => exact ⟨a, k + 1, rfl, by rw [show k + 1 + 1 = i + 1 by have := HKI.out; omega]; go_num, by omega, by have := HKI.out; omega, HA.out.1, fun j h1 h2 => by
            rcases Nat.lt_or_ge j (k + 1) with q | q
            · exact HA.out.2 j h1 q
            · obtain rfl : j = k + 1 := by omega
              have := HCO.out; omega, by first | rfl | trivial⟩
        case measure => have := HKI.out; simp [intOf]; omega
    · have hkn : k + 1 = n := by omega
      have hP := Lib.hid (show Plc n U t a from ⟨by omega, HA.out.1, fun i h1 h2 => HA.out.2 i h1 (by omega)⟩)
      obtain ⟨-, g1, g2⟩ := HC.out a (by omega)
      have hb := HR.out.ok a (by omega)
      have hlh := HR.out.lh a (by omega)
      have haI : (a : Int) < n := by omega
      have haN : a < n := by omega
      have hnI : ¬ (((k + 1 : Nat) : Int)) < n := by omega
      obtain ⟨x, hx⟩ : ∃ z, (U a).lo = z := ⟨_, rfl⟩
      obtain ⟨y, hy⟩ : ∃ z, (U a).hi = z := ⟨_, rfl⟩
      have HXY := Lib.hid (And.intro hx hy)
      rw [hx] at g1 hb hlh
      rw [hy] at g2 hb hlh
      obtain ⟨i, hki⟩ : ∃ i, k + 1 = i := ⟨_, rfl⟩
      rw [hki] at hnI ⊢
      clear hki hx hy
      go_wp2_with fail
      refine (inside_in x y bs _ hs (by omega) (by omega) hlh).mono ?_
      rintro e w2 ⟨v, rfl, v0, v1, hd⟩
      go_wp2
      go_ret
      exact ⟨a, v, hP.out, by rw [HXY.out.1]; exact v0, by rw [HXY.out.2]; exact v1, rfl, hd⟩

def belW2 {bs : Nat} {a w : World} (_ : Drawn bs a w) : World := w
set_option maxRecDepth 100000 in
set_option maxHeartbeats 16000000 in
theorem days_any (a0 : Option Addr) (n0 c0 : Nat) (w : World) (hN : NumsAt w a0 n0) :
    Calls Try.prog 13 #[.slice a0 n0 c0] w fun e w' => e = .returned (.bool true) ∧ Below w.heap.size w w' := by
  have HAw := Lib.hid (fun (W : World) => awake_any W)
  go_enter Try.func13, Try.ntmps13
  go_wp2_with fail
  refine (newseed_at a0 n0 c0 _ hN).mono ?_
  rintro e w1 ⟨rfl, hS, hb⟩
  obtain ⟨bs, hbs⟩ : ∃ x, w.heap.size = x := ⟨_, rfl⟩
  have zs1 : bs < w1.heap.size := by have := hS.choose_spec.lt; omega
  have HB := Lib.hid (fun (W : World) (h : Drawn bs w1 W) => (show Below w.heap.size w W from Drawn.below hb h (by omega)))
  rw [hbs] at hS ⊢
  clear hb hN
  go_wp2_with fail
  refine (burnup_in bs _ hS).mono ?_
  rintro e w2 ⟨vU, n, U, rfl, hn0, hn4, hR, rU, hd⟩
  obtain ⟨gU, cU, hvU, -, -⟩ := rU.form hn0
  subst hvU
  have hD := hd
  clear hd hS
  go_wp2_with fail
  refine (colds12_in bs _ hD.seed).mono ?_
  rintro e w3 ⟨vC, m, C, D, rfl, hm, hC, rC, hd⟩
  obtain ⟨aC, cC, hvC, -, -, -⟩ := row_at rC (by omega)
  subst hvC
  have zw2 : w1.heap.size ≤ w2.heap.size := hD.2.size
  replace rU := hd.row rU zs1
  replace hD := hD.trans hd
  clear hd
  go_wp2_with fail
  refine (kspan_in 0 400 bs _ hD.seed (by omega) (by omega) (by omega)).mono ?_
  rintro e w4 ⟨l0, l1, rfl, hl0, hl, hl1, hd⟩
  replace rU := hd.row rU zs1
  replace rC := hd.row rC (by omega)
  replace hD := hD.trans hd
  clear hd
  have kL := Blk.new w4 #[.int .i64 l0, .int .i64 l1] 26
  have zL : bs < w4.heap.size := by have := hD.seed.choose_spec.lt; omega
  replace hD := hD.new (.cells #[.int .i64 l0, .int .i64 l1] 26)
  replace rU := rU.alloc (.cells #[.int .i64 l0, .int .i64 l1] 26)
  replace rC := rC.alloc (.cells #[.int .i64 l0, .int .i64 l1] 26)
  obtain ⟨p0, p1⟩ := kL.c2
  go_wp2_with fail
  clear p0 p1
  obtain ⟨V0, hV⟩ : ∃ V, Blk.wld kL = V := ⟨_, rfl⟩
  simp only [Blk.wld] at hV
  rw [hV] at kL rU rC hD ⊢
  clear hV
  obtain ⟨bL, hbL⟩ : ∃ b, w4.heap.size = b := ⟨_, rfl⟩
  rw [hbL] at kL zL ⊢
  clear hbL
  have hCz : ∀ z, aC = some z → z.block < V0.heap.size := fun z e => (rC.lt z.block (by rw [e]; rfl)).2
  have M0 := Lib.hid (fun (W : World) (h : Drawn bs V0 W) => And.intro (h.blk kL (by omega)) (And.intro (h.row rU zs1) (And.intro (h.row rC (by omega)) (HB.out W (hD.trans h)))))
  have HBd := Lib.hid (And.intro hR hC)
  clear kL rU rC HB zw2
  replace hD := Drawn.refl hD.seed
  obtain ⟨_, rU, rC, _⟩ := M0.out _ hD
  refine (las_day l0 l1 n U _ m C D _ hl0 hl (by omega) HBd.out.1 hn0 hn4 hm (fun i hi => by have := HBd.out.2 i hi; omega) _ (lat_of_row rU (by omega) (fun _ _ => rfl)) (lat_of_row rC (by omega) (fun _ _ => rfl))).mono ?_
  rintro e w5 ⟨d0, d1, hdd, rfl, hb⟩
  have HA := Lib.hid hdd
  clear hdd rU rC
  replace hD := hD.after hb
  clear hb
  have kA := Blk.new w5 #[.int .i64 d0, .int .i64 d1] 26
  have zA : bs < w5.heap.size := by have := hD.seed.choose_spec.lt; omega
  have zV0 := hD.2.size
  replace hD := hD.new (.cells #[.int .i64 d0, .int .i64 d1] 26)
  obtain ⟨kL, _⟩ := M0.out _ hD
  obtain ⟨p0, p1⟩ := kL.c2
  go_wp2_with fail
  clear p0 p1 kL
  obtain ⟨V1, hV⟩ : ∃ V, Blk.wld kA = V := ⟨_, rfl⟩
  simp only [Blk.wld] at hV
  rw [hV] at kA hD ⊢
  clear hV
  obtain ⟨bA, hbA⟩ : ∃ b, w5.heap.size = b := ⟨_, rfl⟩
  rw [hbA] at kA zA zV0 ⊢
  clear hbA
  have zV1 := hD.2.size
  have M1 := Lib.hid (fun (W : World) (h : Drawn bs V1 W) => And.intro (h.blk kA (by omega)) (M0.out W (hD.trans h)))
  clear kA M0
  replace hD := Drawn.refl hD.seed
  refine (inside_in l0 l1 bs _ hD.seed (by omega) (by omega) hl).mono ?_
  rintro e w6 ⟨left, rfl, hle0, hle1, hd⟩
  replace hD := hD.trans hd
  clear hd
  have HX := Lib.hid (fun (i : Nat) (hi : i < m) => show (0 ≤ bnA U n (C i) (D i) n) ∧ bnB U n (C i) (D i) n ≤ 1000000000 from ⟨(bnA_bd HBd.out.1.ok _ _ n (Nat.le_refl _)).1, (bnB_bd HBd.out.1.ok _ _ n (Nat.le_refl _)).2⟩)
  go_wp2_with fail
  go_loopw [9, 10, 11] (fun s9 s10 i wr => ∃ (k d : Nat) (f : Nat → Int), i = .int .i64 k ∧ k ≤ m ∧ s9 = .int .i64 (left - sumT f k) ∧ s10 = .int .i64 d ∧ DayN k left f d ∧ (∀ i, i < k → bnA U n (C i) (D i) n ≤ f i ∧ f i ≤ bnB U n (C i) (D i) n) ∧ Drawn bs V1 wr) (fun _ _ i _ => m - (intOf i).toNat)
  case atStart => exact ⟨0, 0, fun _ => 0, rfl, Nat.zero_le _, by show _ = Value.int .i64 (left - 0); rw [Int.sub_zero], rfl, DayN.zero _ _, fun i hi => by omega, hD⟩
  case round =>
    clear hD
    obtain ⟨k, d, f, rfl, hk, rfl, rfl, hDay, hf, hD⟩ := hrel
    have hsb := sumT_bd2 f k (fun i hi => by have := hf i hi; have := HX.out i (by omega); omega) k (Nat.le_refl _)
    have HF := Lib.hid (And.intro hDay hf)
    clear hDay hf
    by_cases hlt : k < m
    · have hltI : (k : Int) < m := by omega
      obtain ⟨kA, kL, rU, rC, _⟩ := M1.out _ hD
      obtain ⟨g, c', hv, -, -⟩ := rC.form (by omega)
      obtain ⟨rfl, rfl⟩ : aC = some ⟨g, 0, none⟩ ∧ cC = c' := by simpa using hv
      obtain ⟨q0, q1⟩ := row_sp rC hlt
      have zq := World.block_lt_of_cell? _ _ q0
      have hcd := HBd.out.2 k hlt
      obtain ⟨x, hx⟩ : ∃ z, C k = z := ⟨_, rfl⟩
      obtain ⟨y, hy⟩ : ∃ z, D k = z := ⟨_, rfl⟩
      have HXY := Lib.hid (And.intro hx hy)
      rw [hx] at q0 hcd
      rw [hy] at q1 hcd
      clear hx hy hv kA kL rU rC
      obtain ⟨s, hs⟩ : ∃ z, sumT f k = z := ⟨_, rfl⟩
      rw [hs] at hsb ⊢
      go_wp2_with fail
      refine (inside_in x y bs _ hD.seed (by omega) (by omega) (by omega)).mono ?_
      rintro e w7 ⟨t, rfl, ht0, ht1, hd⟩
      replace hD := hD.trans hd
      clear hd q0 q1
      obtain ⟨_, _, rU, _⟩ := M1.out _ hD
      go_wp2_with fail
      refine (lburnt_in n U t gU cU w1.heap.size bs _ hD.seed hn0 hn4 HBd.out.1 rU).mono ?_
      rintro e w8 ⟨a, z, hP, hz0, hz1, rfl, hd⟩
      replace hD := hD.trans hd
      clear hd rU
      have hz : bnA U n (C k) (D k) n ≤ z ∧ z ≤ bnB U n (C k) (D k) n := by
        have q := HBd.out.1.at hn0 (c0 := C k) (c1 := D k) (t := t) (by rw [HXY.out.1]; omega) (by rw [HXY.out.2]; omega) (by rw [HXY.out.1]; exact ht0) (by rw [HXY.out.2]; exact ht1) hP
        omega
      have hzb := HX.out k hlt
      clear hP hz0 hz1
      have HN := Lib.hid (HF.out.1.step (x := z) (fun i hi => by have := HF.out.2 i hi; have := HX.out i (by omega); omega) (by omega))
      have HZ := Lib.hid hz
      have z0 : 0 ≤ z := by omega
      have z1 : z ≤ 1000000000 := by omega
      clear hz hzb
      have e1 : IntKind.i64.wrap (left - s - z) = left - s - z := IntWalk.i64_in _ (by omega)
      have e2 : left - s - z = left - (s + z) := by omega
      by_cases hge : 0 ≤ left - s - z
      · have f1 : decide (0 ≤ left - s - z) = true := decide_eq_true hge
        have HG := Lib.hid (show DayN (k + 1) left (fun i => if i = k then z else f i) (k + 1) from by have q := HN.out.2; rw [if_pos (show 0 ≤ left - (sumT f k + z) by rw [hs]; omega)] at q; exact q)
        clear e2
        go_wp2
        go_roundw
        case rel => exact ⟨k + 1, k + 1, fun i => if i = k then z else f i, by go_num, by omega, by rw [HN.out.1, hs, show left - (s + z) = left - s - z by omega], by go_num, HG.out, fun i hi => by
            dsimp only
            by_cases e : i = k
            · rw [if_pos e, e]; exact HZ.out
            · rw [if_neg e]; exact HF.out.2 i (by omega), hD⟩
        case measure => simp [intOf]; omega
      · have f1 : decide (0 ≤ left - s - z) = false := decide_eq_false hge
        have HG := Lib.hid (show DayN (k + 1) left (fun i => if i = k then z else f i) d from by have q := HN.out.2; rw [if_neg (show ¬ 0 ≤ left - (sumT f k + z) by rw [hs]; omega)] at q; exact q)
        clear e2
        go_wp2
        go_roundw
        case rel => exact ⟨k + 1, d, fun i => if i = k then z else f i, by go_num, by omega, by rw [HN.out.1, hs, show left - (s + z) = left - s - z by omega], rfl, HG.out, fun i hi => by
            dsimp only
            by_cases e : i = k
            · rw [if_pos e, e]; exact HZ.out
            · rw [if_neg e]; exact HF.out.2 i (by omega), hD⟩
        case measure => simp [intOf]; omega
    · obtain rfl : k = m := by omega
      have hd0 := HA.out.1.more HF.out.1 hle0 (fun i hi => (HF.out.2 i hi).2)
      have hd1 := HF.out.1.more HA.out.2 hle1 (fun i hi => (HF.out.2 i hi).1)
      have HD0 := Lib.hid (And.intro hd0 hd1)
      clear hd0 hd1 HF hsb HX
      obtain ⟨V2, hV⟩ : ∃ V, belW2 hD = V := ⟨_, rfl⟩
      simp only [belW2] at hV
      rw [hV] at hD ⊢
      clear hV
      have zV2 := hD.2.size
      have M2 := Lib.hid (fun (W : World) (h : Drawn bs V2 W) => M1.out W (hD.trans h))
      clear M1
      replace hD := Drawn.refl hD.seed
      have hbV : bs < V2.heap.size := hD.seed.choose_spec.lt
      have rL : V2.ownsRow V2.heap.size 26 2 (.slice none 0 0) 0 (catC (spC (fun i => C i - 0) (fun i => D i - 0)) 0) := World.ownsRow_nil _ _ _ _
      obtain ⟨i0, hi0, hz0, hz1, hz2⟩ := info_parts Try.infoSpan
      go_wp2_with fail
      go_loopw [12, 13, 14] (fun l i _ wr => ∃ (q : Nat) (K : Nat → Int), i = .int .i64 q ∧ q ≤ k ∧ (∀ i, i < q → 0 ≤ K i ∧ K i ≤ 99) ∧ wr.ownsRow V2.heap.size 26 2 l q (catC (spC (fun i => C i - K i) (fun i => D i - K i)) q) ∧ Drawn bs V2 wr) (fun _ i _ _ => k - (intOf i).toNat)
      case atStart => exact ⟨0, fun _ => 0, rfl, Nat.zero_le _, fun i hi => by omega, rL, hD⟩
      case round =>
        clear hD rL
        obtain ⟨q, K, rfl, hq, hK, rL, hD⟩ := hrel
        have HK := Lib.hid hK
        clear hK
        obtain ⟨aL, cL, hvL, -, -, -⟩ := row_at rL (by omega)
        subst hvL
        by_cases hlt2 : q < k
        · have hltI : (q : Int) < k := by omega
          go_wp2_with fail
          refine (below_in 100 bs _ hD.seed (by omega)).mono ?_
          rintro e w9 ⟨y9, rfl, hy0, hy1, hd⟩
          replace rL := hd.row rL hbV
          replace hD := hD.trans hd
          clear hd
          go_upto_region 16 with fail
          obtain ⟨_, _, _, rC, _⟩ := M2.out _ hD
          obtain ⟨g, c', hv, -, -⟩ := rC.form (by omega)
          obtain ⟨rfl, rfl⟩ : aC = some ⟨g, 0, none⟩ ∧ cC = c' := by simpa using hv
          clear hv rC
          have HC := Lib.hid (fun (W : World) (h : Drawn bs V2 W) => row_sp (M2.out W h).2.2.2.1 hlt2)
          have hcd := HBd.out.2 q hlt2
          obtain ⟨x, hx⟩ : ∃ z, C q = z := ⟨_, rfl⟩
          obtain ⟨y, hy⟩ : ∃ z, D q = z := ⟨_, rfl⟩
          have HXY := Lib.hid (And.intro hx hy)
          simp only [hx, hy] at HC hcd
          clear hx hy
          have e1 : IntKind.i64.wrap (x - y9) = x - y9 := IntWalk.i64_in _ (by omega)
          have e2 : IntKind.i64.wrap (y - y9) = y - y9 := IntWalk.i64_in _ (by omega)
          have HCat := Lib.hid (show catC (spC (fun i => C i - upF K q y9 i) (fun i => D i - upF K q y9 i)) (q + 1) = catC (spC (fun i => C i - K i) (fun i => D i - K i)) q ++ [.int .i64 (x - y9), .int .i64 (y - y9)] from by rw [← HXY.out.1, ← HXY.out.2]; exact cat_less C D K q y9)
          (
 refine wp_region_held_drew (S := (fun wx => Drawn bs V2 wx)) (by kernel_rfl) ?_ (fun hH => ?_)
 · (try dsimp only); (exact hD.trans (Drawn.drew hD.seed))
 refine tkY 0 (some 67) ?_ ?_ ?_
 rotate_left
 · intro w _; go_simp; (try with_reducible rfl)
 (try simp only [cq])
 refine tkY 1 (some 68) ?_ ?_ ?_
 rotate_left
 · intro w _; go_simp; (try with_reducible rfl)
 (try simp only [cq])
 refine tkY 2 (some 69) ?_ ?_ ?_
 rotate_left
 · intro w _; go_simp; (try with_reducible rfl)
 (try simp only [cq])
 refine tkY 3 (some 70) ?_ ?_ ?_
 rotate_left
 · intro w hS0; (try dsimp only at hS0); obtain ⟨q0, q1⟩ := HC.out _ hS0; have y1 := World.block_lt_of_cell? _ _ q0;go_simp; (try with_reducible rfl)
 (try simp only [cq])
 refine tkY 4 (some 71) ?_ ?_ ?_
 rotate_left
 · intro w hS0; (try dsimp only at hS0); obtain ⟨q0, q1⟩ := HC.out _ hS0; have y1 := World.block_lt_of_cell? _ _ q0;go_simp; (try with_reducible rfl)
 (try simp only [cq])
 refine tkY 5 (some 72) ?_ ?_ ?_
 rotate_left
 · intro w hS0; (try dsimp only at hS0); obtain ⟨q0, q1⟩ := HC.out _ hS0; have y1 := World.block_lt_of_cell? _ _ q0;go_simp; (try with_reducible rfl)
 (try simp only [cq])
 refine tkY 6 (some 73) ?_ ?_ ?_
 rotate_left
 · intro w _; go_simp; (try with_reducible rfl)
 (try simp only [cq])
 refine tkY 7 (some 74) ?_ ?_ ?_
 rotate_left
 · intro w _; go_simp; (try with_reducible rfl)
 (try simp only [cq])
 refine tkY 8 (some 75) ?_ ?_ ?_
 rotate_left
 · intro w _; go_simp; (try with_reducible rfl)
 (try simp only [cq])
 refine tkY 9 (some 76) ?_ ?_ ?_
 rotate_left
 · intro w _; go_simp; (try with_reducible rfl)
 (try simp only [cq])
 refine tkY 10 (some 77) ?_ ?_ ?_
 rotate_left
 · intro w hS0; (try dsimp only at hS0); obtain ⟨q0, q1⟩ := HC.out _ hS0; have y1 := World.block_lt_of_cell? _ _ q0;go_simp; (try with_reducible rfl)
 (try simp only [cq])
 refine tkY 11 (some 78) ?_ ?_ ?_
 rotate_left
 · intro w hS0; (try dsimp only at hS0); obtain ⟨q0, q1⟩ := HC.out _ hS0; have y1 := World.block_lt_of_cell? _ _ q0;go_simp; (try with_reducible rfl)
 (try simp only [cq])
 refine tkY 12 (some 79) ?_ ?_ ?_
 rotate_left
 · intro w hS0; (try dsimp only at hS0); obtain ⟨q0, q1⟩ := HC.out _ hS0; have y1 := World.block_lt_of_cell? _ _ q0;go_simp; (try with_reducible rfl)
 (try simp only [cq])
 refine tkY 13 (some 80) ?_ ?_ ?_
 rotate_left
 · intro w _; go_simp; (try with_reducible rfl)
 (try simp only [cq])
 refine tkY 14 (some 81) ?_ ?_ ?_
 rotate_left
 · intro w _; go_simp; (try with_reducible rfl)
 (try simp only [cq])
 refine wpAnyH_ready (rs := [15]) (by kernel_rfl) (by simp) ?_
 refine arc1 (some 82) fun K hK => ?_
 go_simp
 (refine (span0_any (x - y9) (y - y9) _).mono ?_; rintro e w' ⟨rfl, hb⟩; replace rL := row_call (rL.drew) hb)
 refine hK.out _ _ ?_ ?_
 · (exact hH.after hb)
 (try clear hH); (try clear hb)
 intro hH
 clear hK K
 (try simp only [cq])
 refine wpAnyH_ready (rs := [16]) (by kernel_rfl) (by simp) ?_
 refine arc1 (some 83) fun K hK => ?_
 go_simp
 first | refine oA hK ?_ (fun hH hA => ?_) | refine oD hK ?_ (fun hH hA => ?_)
 · exact hH.new _
 obtain ⟨bN, hbA⟩ : ∃ b, Blk.num hA = b := ⟨_, rfl⟩
 obtain ⟨Vn, hV⟩ : ∃ V, Blk.wld hA = V := ⟨_, rfl⟩
 simp only [Blk.num] at hbA
 simp only [Blk.wld] at hV
 first | replace rL := awR hV rL | replace rL := awR3 hV rL
 rw [hV] at hH hA ⊢
 rw [hbA] at hA ⊢
 clear hV hbA
 have kN := hA
 clear hA
 clear hK K
 (try simp only [cq])
 refine wpAnyH_ready (rs := [17]) (by kernel_rfl) (by simp) ?_
 refine arc1 (some 84) fun K hK => ?_
 rw [if_pos (by rfl)]
 obtain ⟨gN, cN, w8, hr, hown, hgrow, hat, hlt'⟩ := run_append_lies (P := Try.prog) _ 33 33 V2.heap.size 26 i0 (.agg #[.int .i64 0, .int .i64 0]) 2 16 Try.underlying33 hi0 hz0 hz1 hz2 rfl (by decide) (.slice aL q cL) q _ rL ⟨bN, 0, none⟩ 1 1 [.int .i64 (x - y9), .int .i64 (y - y9)] rfl (news_two kN) (one2 _ _) (by omega) (by unfold maxLen; omega) (by omega) hH.2.size _ rfl
 simp only [Oper.wp, execOp, resolve, invoke, builtin, Sem.run_bind, Sem.run_pure, Result.andThen_ok, List.map_toArray, List.map_cons, List.map_nil]
 change Oper.upon _ _ _ _ _ ((Sem.run Try.prog (Builtin.append_ #[33, 33] 33 #[.slice aL q cL, .slice (some ⟨bN, 0, none⟩) 1 1]) _).andThen _)
 rw [hr]
 have HG := Lib.hid (hH.grown hgrow (fun z e => (rL.lt z e).1) hbV)
 clear hgrow hat hlt' hr kN rL
 simp only [Result.andThen_ok, Oper.upon]
 refine hK.out _ _ ?_ ?_
 · exact HG.out
 (try clear hH); (try clear hb)
 intro hH
 clear hK K
 (try simp only [cq])
 refine tkY 18 (some 12) ?_ ?_ ?_
 rotate_left
 · intro w _; go_simp; (try with_reducible rfl)
 (try simp only [cq])
 refine wpAnyH_done (by kernel_rfl) ?_ _
 (try dsimp only [Act.put])
 (try simp only [cq])
 have rL2 := hown
 rw [← HCat.out] at rL2
 have hD2 := hH
 clear hown hH hD HG
 go_wp2
 go_roundw
 case rel => exact ⟨q + 1, upF K q y9, by go_num, by omega, fun i hi => by
     unfold upF
     by_cases e : i = q
     · rw [if_pos e]; omega
     · rw [if_neg e]; exact HK.out i (by omega), rL2, hD2⟩
 case measure => simp [intOf]; omega )
        · obtain rfl : q = k := by omega
          go_wp2_with fail
          refine (below_in 50 bs _ hD.seed (by omega)).mono ?_
          rintro e w9 ⟨by9, rfl, hy0, hy1, hd⟩
          replace rL := hd.row rL hbV
          replace hD := hD.trans hd
          clear hd
          have hy49 : by9 ≤ 50 := by omega
          clear hy1
          have e1 : IntKind.i64.wrap (l0 + by9) = l0 + by9 := IntWalk.i64_in _ (by omega)
          have e2 : IntKind.i64.wrap (l1 + by9) = l1 + by9 := IntWalk.i64_in _ (by omega)
          obtain ⟨_, kL, _⟩ := M2.out _ hD
          obtain ⟨p0, p1⟩ := kL.c2
          go_wp2_with fail
          clear p0 p1 kL
          refine (span0_any (l0 + by9) (l1 + by9) _).mono ?_
          rintro e w10 ⟨rfl, hb⟩
          replace rL := row_call rL hb
          replace hD := hD.after hb
          clear hb
          obtain ⟨_, _, rU, rC, _⟩ := M2.out _ hD
          go_wp2_with fail
          refine (las_day (l0 + by9) (l1 + by9) n U _ q C D _ (by omega) (by omega) (by omega) HBd.out.1 hn0 hn4 hm (fun i hi => by have := HBd.out.2 i hi; omega) _ (lat_of_row rU (by omega) (fun _ _ => rfl)) (lat_of_row rC (by omega) (fun _ _ => rfl))).mono ?_
          rintro e w11 ⟨x0, x1, hxx, rfl, hb⟩
          have q0 := HA.out.1.more hxx.1 (by omega) (fun i hi => Int.le_refl _)
          have q1 := HA.out.2.more hxx.2 (by omega) (fun i hi => Int.le_refl _)
          clear hxx rU rC e1 e2
          replace rL := row_call rL hb
          replace hD := hD.after hb
          clear hb
          have kX := Blk.new w11 #[.int .i64 x0, .int .i64 x1] 26
          have zX : bs < w11.heap.size := by have := hD.seed.choose_spec.lt; omega
          replace hD := hD.new (.cells #[.int .i64 x0, .int .i64 x1] 26)
          replace rL := rL.alloc (.cells #[.int .i64 x0, .int .i64 x1] 26)
          obtain ⟨_, kL, rU, rC, _⟩ := M2.out _ hD
          obtain ⟨p0, p1⟩ := kL.c2
          go_wp2_with fail
          clear p0 p1 kL
          refine (las_day l0 l1 n U _ q (fun i => C i - K i) (fun i => D i - K i) _ hl0 hl (by omega) HBd.out.1 hn0 hn4 hm (fun i hi => by have := HBd.out.2 i hi; have := HK.out i hi; omega) _ (lat_of_row rU (by omega) (fun _ _ => rfl)) (lat_of_row rL (by omega) (fun _ _ => rfl))).mono ?_
          rintro e w12 ⟨y0, y1, hyy, rfl, hb⟩
          have q2 := HA.out.1.more hyy.1 (Int.le_refl _) (fun i hi => by have a := HBd.out.2 i hi; have b := HK.out i hi; exact (HBd.out.1.less hn0 (k := K i) (by omega) (by omega) (by omega) (by omega) (by omega)).2)
          have q3 := HA.out.2.more hyy.2 (Int.le_refl _) (fun i hi => by have a := HBd.out.2 i hi; have b := HK.out i hi; exact (HBd.out.1.less hn0 (k := K i) (by omega) (by omega) (by omega) (by omega) (by omega)).1)
          clear hyy rU rC rL
          replace kX := kX.call hb
          replace hD := hD.after hb
          clear hb
          have kY := Blk.new w12 #[.int .i64 y0, .int .i64 y1] 26
          replace kX := kX.alloc (.cells #[.int .i64 y0, .int .i64 y1] 26)
          replace hD := hD.new (.cells #[.int .i64 y0, .int .i64 y1] 26)
          obtain ⟨kA, _⟩ := M2.out _ hD
          have f1 : decide ((d0 : Int) ≤ x0) = true := decide_eq_true (by omega)
          have f2 : decide ((d1 : Int) ≤ x1) = true := decide_eq_true (by omega)
          have f3 : decide ((d0 : Int) ≤ y0) = true := decide_eq_true (by omega)
          have f4 : decide ((d1 : Int) ≤ y1) = true := decide_eq_true (by omega)
          have f5 : decide (d0 ≤ x0) = true := decide_eq_true q0
          have f6 : decide (d1 ≤ x1) = true := decide_eq_true q1
          have f7 : decide (d0 ≤ y0) = true := decide_eq_true q2
          have f8 : decide (d1 ≤ y1) = true := decide_eq_true q3
          have I1 := Lib.hid (fun (W : World) => has_yes (d0 : Int) (d1 : Int) (d : Int) (by have := HD0.out.1; omega) (by have := HD0.out.2; omega) W)
          clear q0 q1 q2 q3
          obtain ⟨p0, p1⟩ := kA.c2
          obtain ⟨p2, p3⟩ := kX.c2
          obtain ⟨p4, p5⟩ := kY.c2
          go_wp2_with fail
          clear p0 p1 p2 p3 p4 p5 kA
          refine (I1.out _).mono ?_
          rintro e w13 ⟨rfl, hb⟩
          replace kX := kX.call hb
          replace kY := kY.call hb
          replace hD := hD.after hb
          clear hb I1
          obtain ⟨kA, _⟩ := M2.out _ hD
          obtain ⟨p0, p1⟩ := kA.c2
          obtain ⟨p2, p3⟩ := kX.c2
          obtain ⟨p4, p5⟩ := kY.c2
          go_wp2_with fail
          clear p0 p1 p2 p3 p4 p5 kA kX kY
          refine (HAw.out _).mono ?_
          rintro e w14 ⟨rfl, hb⟩
          obtain ⟨_, _, _, _, jB⟩ := M2.out _ hD
          replace jB := jB.trans (hb.mono jB.size)
          clear hb
          go_wp2
          go_ret
          exact ⟨rfl, jB⟩
end Go.Proofs.Ytegdflikeoiaaaa
