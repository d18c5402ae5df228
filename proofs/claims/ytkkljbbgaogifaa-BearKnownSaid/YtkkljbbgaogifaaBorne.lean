/-
  What truly is: table, far, borne (sastrugilaw03).
-/
import Derived.Test.YtkkljbbgaogifaaTail
import Derived.Test.YtkkljbbgaogifaaHolds
set_option linter.unusedVariables false
set_option linter.unusedSimpArgs false
namespace Go.Proofs.Ytkkljbbgaogifaa
open Go.RowKit

theorem kfar_any (a b : Int) (ha : -1000000000000 ≤ a ∧ a ≤ 1000000000000) (hb : -1000000000000 ≤ b ∧ b ≤ 1000000000000) (w : World) :
    Calls Try.prog 64 #[.int .i64 a, .int .i64 b] w fun e w' => e = .returned (.int .i64 (farV a b)) ∧ Below w.heap.size w w' := by
  have e1 : IntKind.i64.wrap (a - b) = a - b := IntWalk.i64_in _ (by omega)
  have e2 : IntKind.i64.wrap (b - a) = b - a := IntWalk.i64_in _ (by omega)
  have HF : Hid (farV a b = max (a - b) (b - a)) := rfl
  generalize farV a b = r at HF ⊢
  go_enter Try.func64, Try.ntmps64
  go_wp2
  go_ret
  have hr := HF.out
  subst hr
  exact ⟨rfl, Below.refl _ _⟩

set_option maxHeartbeats 2000000 in
theorem ktable_any (v : Value) (t : Tab) (n : Int) (w : World) (hv : TabAt w v t) :
    Calls Try.prog 63 #[v, .int .i64 n] w fun e w' => e = .returned (.int .i64 (t.val n)) ∧ Below w.heap.size w w' := by
  obtain ⟨a, cap, rfl, hcap, hm, h3⟩ := hv
  have H3 := Lib.hid h3
  have HV : Hid (t.val n = scanP t.F t.P n 0 t.n) := rfl
  clear h3
  generalize t.val n = r at HV ⊢
  go_enter Try.func63, Try.ntmps63
  go_wp2_with fail
  go_loopw [5, 6] (fun q i wr => ∃ k : Nat, k ≤ t.n ∧ i = .int .i64 k ∧ q = .int .i64 (scanP t.F t.P n 0 k) ∧ wr = w) (fun _ i _ => t.n - (intOf i).toNat)
  case atStart => exact ⟨0, Nat.zero_le _, rfl, rfl, rfl⟩
  case round =>
    obtain ⟨k, hk, rfl, rfl, rfl⟩ := hrel
    by_cases hlt2 : k < t.n
    · obtain ⟨b, o, ha, hc⟩ := H3.out (by omega)
      subst ha
      obtain ⟨a0, a1⟩ := hc k hlt2
      clear hc
      have hbs := World.block_lt_of_cell? _ _ a0
      have HS : Hid (scanP t.F t.P n 0 (k + 1) = if t.F k ≤ n then t.P k else scanP t.F t.P n 0 k) := rfl
      generalize hs' : scanP t.F t.P n 0 (k + 1) = s' at HS
      have HS' := Lib.hid hs'
      generalize scanP t.F t.P n 0 k = s at HS ⊢
      clear hs'
      by_cases hF : t.F k ≤ n
      · have hr := HS.out
        rw [if_pos hF] at hr
        have HR := Lib.hid hr
        clear hr HS
        go_wp2
        go_roundw
        case rel => exact ⟨k + 1, by omega, by go_num, by rw [HS'.out, HR.out], trivial⟩
        case measure => simp [intOf]; omega
      · have hr := HS.out
        rw [if_neg hF] at hr
        have HR := Lib.hid hr
        clear hr HS
        go_wp2
        go_roundw
        case rel => exact ⟨k + 1, by omega, by go_num, by rw [HS'.out, HR.out], trivial⟩
        case measure => simp [intOf]; omega
    · obtain rfl : k = t.n := by omega
      have hr := HV.out
      subst hr
      go_wp2
      go_ret
      exact ⟨rfl, Below.refl _ _⟩

structure TruthIn (t : Tr) (nT nc n : Nat) (L : Nat → Ld) (x : Ld) : Prop where
  σ : 0 ≤ t.σ ∧ t.σ ≤ 100000
  T : ∀ k, k < nT → 0 ≤ t.T k ∧ t.T k ≤ 5000
  c : ∀ k, k < nc → -1000000000 ≤ t.c k ∧ t.c k ≤ 1000000000
  W : ∀ k, k < n → 0 ≤ t.W k ∧ t.W k ≤ 200000
  n30 : n ≤ 30
  L : ∀ k, k < n → 0 ≤ (L k).me ∧ (L k).me ≤ 1000000000
  x0 : 0 ≤ x.me ∧ x.me ≤ 1000000000
  x1 : x.me < 100 * (nT : Int)
theorem tburd_in {p : Pl} (hp : p.Ok) {t : Tr} {nT nc n : Nat} {L : Nat → Ld} {x : Ld} (h : TruthIn t nT nc n L x) (k : Nat) (hk : k ≤ n) : 0 ≤ burdT p t k L x.me ∧ burdT p t k L x.me ≤ 6000000000000 := by
  have q := sumV_in (f := fun i => t.W i * partL p L x.me i) (B := 200000000000) k fun i hi => by
    have a := h.W i (by omega)
    have r := part_in hp L x.me i
    exact ⟨Int.mul_nonneg a.1 r.1, by have := Int.mul_le_mul a.2 r.2 r.1 (by omega : (0:Int) ≤ 200000); omega⟩
  have := h.n30
  unfold burdT
  omega

set_option maxRecDepth 100000 in
set_option maxHeartbeats 8000000 in
theorem borne_any (p : Pl) (hp : p.Ok) (vS vC vL vT vc vW : Value) (t : Tr) (nT nc n : Nat) (L : Nat → Ld) (i : Nat) (hi : i < n) (ht : TruthIn t nT nc n L (L i)) (w : World)
    (hS : TabAt w vS p.S) (hC : TabAt w vC p.C) (hL : LoadsAt w vL n L) (hT : IntsAt w vT nT t.T) (hc : IntsAt w vc nc t.c) (hW : IntsAt w vW n t.W) :
    Calls Try.prog 58 #[.agg #[.int .i64 p.s0, .int .i64 p.s1, vS, vC, .int .i64 p.ne, .int .i64 p.ed, .int .i64 p.gr, .int .i64 p.lo, .int .i64 p.hi, .int .i64 p.sh, .int .i64 p.wi], vL, .agg #[.int .i64 t.σ, vT, vc, vW], .int .i64 i] w fun e w' => e = .returned (.bool (borneT p t nc n L (L i))) ∧ Below w.heap.size w w' := by
  obtain ⟨aS, cS, rfl, _, _, _⟩ := id hS
  obtain ⟨aC, cC, rfl, _, _, _⟩ := id hC
  obtain ⟨aL, cL, rfl, hcL, hmL, hL3⟩ := id hL
  obtain ⟨aT, cT, rfl, hcT, hmT, hT3⟩ := id hT
  obtain ⟨ac, cc, rfl, hcc, hmc, hc3⟩ := id hc
  obtain ⟨aW, cW, rfl, hcW, hmW, hW3⟩ := id hW
  obtain ⟨bl, ol, rfl, hlc⟩ := hL3 (by omega)
  obtain ⟨l0, l1, l2, l3⟩ := hlc i hi
  have HLC := Lib.hid hlc
  have Hc3 := Lib.hid hc3
  have HW3 := Lib.hid hW3
  obtain ⟨x, hx⟩ : ∃ x, L i = x := ⟨_, rfl⟩
  rw [hx] at ht l0 l1 l2 l3 ⊢
  have hx0 := ht.x0
  have hx1 := ht.x1
  obtain ⟨j, hj⟩ : ∃ j : Nat, x.me / 100 = (j : Int) := ⟨(x.me / 100).toNat, by omega⟩
  have hjn : j < nT := by omega
  have et : IntKind.i64.wrap (x.me.tdiv 100) = (j : Int) := by rw [Int.tdiv_eq_ediv_of_nonneg hx0.1, hj]; exact IntWalk.i64_in _ (by omega)
  have hjc : (j : Int) < (nT : Int) := by omega
  obtain ⟨bt, ot, rfl, htc⟩ := hT3 (by omega)
  have t0 := htc j hjn
  have hTj := ht.T j hjn
  have HFC : Hid (∀ k : Nat, k < nc → ∀ W, Calls Try.prog 64 #[.int .i64 (t.c k), .int .i64 x.me] W fun e w' => e = .returned (.int .i64 (farV (t.c k) x.me)) ∧ Below W.heap.size W w') := fun k hk W => kfar_any _ _ (by have := ht.c k hk; omega) (by omega) W
  have HFL : Hid (∀ k : Nat, k < n → ∀ W, Calls Try.prog 64 #[.int .i64 (L k).me, .int .i64 x.me] W fun e w' => e = .returned (.int .i64 (farV (L k).me x.me)) ∧ Below W.heap.size W w') := fun k hk W => kfar_any _ _ (by have := ht.L k hk; omega) (by omega) W
  have HTS : Hid (∀ (z : Int) W, Below w.heap.size w W → Calls Try.prog 63 #[.slice aS p.S.n cS, .int .i64 z] W fun e w' => e = .returned (.int .i64 (p.S.val z)) ∧ Below W.heap.size W w') := fun z W hW => ktable_any _ _ z W (hS.later hW)
  have HTC : Hid (∀ (z : Int) W, Below w.heap.size w W → Calls Try.prog 63 #[.slice aC p.C.n cC, .int .i64 z] W fun e w' => e = .returned (.int .i64 (p.C.val z)) ∧ Below W.heap.size W w') := fun z W hW => ktable_any _ _ z W (hC.later hW)
  have HB : Hid (∀ k : Nat, k < n → (0 ≤ burdT p t k L x.me ∧ burdT p t k L x.me ≤ 6000000000000) ∧ (0 ≤ t.W k * p.S.val (farV (L k).me x.me) ∧ t.W k * p.S.val (farV (L k).me x.me) ≤ 200000000000) ∧ burdT p t (k + 1) L x.me = burdT p t k L x.me + t.W k * p.S.val (farV (L k).me x.me)) := fun k hk => by
    refine ⟨tburd_in hp ht k (by omega), ?_, ?_⟩
    · have a := ht.W k hk
      have r := hp.S.val_in (farV (L k).me x.me)
      exact ⟨Int.mul_nonneg a.1 r.1, by have := Int.mul_le_mul a.2 r.2 r.1 (by omega : (0:Int) ≤ 200000); omega⟩
    · show sumV _ (k + 1) = _
      rw [sumV]
      have e : farV (L k).me x.me = farV x.me (L k).me := by unfold farV; exact Int.max_comm _ _
      simp only [partL, burdT, e]
  have hBn := tburd_in hp ht n (Nat.le_refl _)
  have hQ : Hid (borneT p t nc n L x = decide (burdT p t n L x.me * 1000000 ≤ t.σ * thickT p t nc x.me * thickT p t nc x.me * p.C.val x.st)) := rfl
  have hTh : Hid (thickT p t nc x.me = thinV p (nearT p t nc x.me) (t.T j)) := by unfold thickT Hid; rw [hj]; simp
  have hNr : Hid (nearT p t nc x.me = anyV (fun k => decide (farV (t.c k) x.me ≤ p.ne)) nc) := rfl
  have hσ := ht.σ
  have hcv := hp.C.val_in x.st
  have hed0 := hp.ed0
  have hed1 := hp.ed1
  generalize borneT p t nc n L x = res at hQ ⊢
  clear hS hC hL hT hc hW hL3 hT3 hc3 hW3 hlc htc ht hp hx hj hx1
  have jP := (Blk.new w #[.int .i64 p.s0, .int .i64 p.s1, (.slice aS p.S.n cS), (.slice aC p.C.n cC), .int .i64 p.ne, .int .i64 p.ed, .int .i64 p.gr, .int .i64 p.lo, .int .i64 p.hi, .int .i64 p.sh, .int .i64 p.wi] 26).alloc (.cells #[.int .i64 t.σ, .slice (some ⟨bt, ot, none⟩) nT cT, .slice ac nc cc, .slice aW n cW] 77)
  have jT := Blk.new1 w (.cells #[.int .i64 p.s0, .int .i64 p.s1, (.slice aS p.S.n cS), (.slice aC p.C.n cC), .int .i64 p.ne, .int .i64 p.ed, .int .i64 p.gr, .int .i64 p.lo, .int .i64 p.hi, .int .i64 p.sh, .int .i64 p.wi] 26) #[.int .i64 t.σ, .slice (some ⟨bt, ot, none⟩) nT cT, .slice ac nc cc, .slice aW n cW] 77
  have jB : Below w.heap.size w ((w.alloc (.cells #[.int .i64 p.s0, .int .i64 p.s1, (.slice aS p.S.n cS), (.slice aC p.C.n cC), .int .i64 p.ne, .int .i64 p.ed, .int .i64 p.gr, .int .i64 p.lo, .int .i64 p.hi, .int .i64 p.sh, .int .i64 p.wi] 26)).alloc (.cells #[.int .i64 t.σ, .slice (some ⟨bt, ot, none⟩) nT cT, .slice ac nc cc, .slice aW n cW] 77)) := by (repeat (first | exact Below.refl _ _ | assumption | refine Below.drew ?_ | refine Below.drewN ?_ _ | refine blT ?_ | refine blU ?_))
  replace l0 := cell_later jB l0
  replace l1 := cell_later jB l1
  replace l2 := cell_later jB l2
  replace l3 := cell_later jB l3
  have zl := World.block_lt_of_cell? _ _ l0
  go_enter Try.func58, Try.ntmps58
  go_upto_region 2 with fail
  have jX := Blk.new2 w (.cells #[.int .i64 p.s0, .int .i64 p.s1, (.slice aS p.S.n cS), (.slice aC p.C.n cC), .int .i64 p.ne, .int .i64 p.ed, .int .i64 p.gr, .int .i64 p.lo, .int .i64 p.hi, .int .i64 p.sh, .int .i64 p.wi] 26) (.cells #[.int .i64 t.σ, .slice (some ⟨bt, ot, none⟩) nT cT, .slice ac nc cc, .slice aW n cW] 77) #[.int .i64 x.me, .int .i64 x.w0, .int .i64 x.w1, .int .i64 x.st] 53
  replace jP := jP.alloc (.cells #[.int .i64 x.me, .int .i64 x.w0, .int .i64 x.w1, .int .i64 x.st] 53)
  replace jT := jT.alloc (.cells #[.int .i64 x.me, .int .i64 x.w0, .int .i64 x.w1, .int .i64 x.st] 53)
  replace jB := bwA jB (by first | exact Nat.le_refl _ | (simp; done) | (simp; omega)) (.cells #[.int .i64 x.me, .int .i64 x.w0, .int .i64 x.w1, .int .i64 x.st] 53)
  clear l0 l1 l2 l3 zl
  replace t0 := cell_later jB t0
  generalize ((w.alloc (.cells #[.int .i64 p.s0, .int .i64 p.s1, (.slice aS p.S.n cS), (.slice aC p.C.n cC), .int .i64 p.ne, .int .i64 p.ed, .int .i64 p.gr, .int .i64 p.lo, .int .i64 p.hi, .int .i64 p.sh, .int .i64 p.wi] 26)).alloc (.cells #[.int .i64 t.σ, .slice (some ⟨bt, ot, none⟩) nT cT, .slice ac nc cc, .slice aW n cW] 77)).alloc (.cells #[.int .i64 x.me, .int .i64 x.w0, .int .i64 x.w1, .int .i64 x.st] 53) = V at jP jT jX jB t0 ⊢
  obtain ⟨c0, c1, c2, c3, c4, c5, c6, c7, c8, c9, c10⟩ := jP.c11
  obtain ⟨d0, d1, d2, d3⟩ := jT.c4
  obtain ⟨x0, x1, x2, x3⟩ := jX.c4
  have y1 := jP.lt
  have y2 := jT.lt
  have y3 := jX.lt
  have yt := World.block_lt_of_cell? _ _ t0
  go_wp2_with fail
  clear c0 c1 c2 c3 c4 c5 c6 c7 c8 c9 c10 d0 d1 d2 d3 x0 x1 x2 x3 y1 y2 y3 yt t0
  have HFD : ∃ f : Nat → Bool, f = fun k => decide (farV (t.c k) x.me ≤ p.ne) := ⟨_, rfl⟩
  obtain ⟨f, hf⟩ := HFD
  have Hfk : Hid (∀ k, f k = decide (farV (t.c k) x.me ≤ p.ne)) := fun k => by rw [hf]
  have HNf : Hid (nearT p t nc x.me = anyV f nc) := by rw [hf]; exact hNr.out
  clear hf hNr
  go_loopw [11, 12] (fun q i wr => ∃ k : Nat, k ≤ nc ∧ i = .int .i64 k ∧ q = .bool (anyV f k) ∧ Blk wr w.heap.size #[.int .i64 p.s0, .int .i64 p.s1, (.slice aS p.S.n cS), (.slice aC p.C.n cC), .int .i64 p.ne, .int .i64 p.ed, .int .i64 p.gr, .int .i64 p.lo, .int .i64 p.hi, .int .i64 p.sh, .int .i64 p.wi] 26 ∧ Blk wr (w.heap.size + 1) #[.int .i64 t.σ, .slice (some ⟨bt, ot, none⟩) nT cT, .slice ac nc cc, .slice aW n cW] 77 ∧ Blk wr (w.heap.size + 1 + 1) #[.int .i64 x.me, .int .i64 x.w0, .int .i64 x.w1, .int .i64 x.st] 53 ∧ Below w.heap.size w wr) (fun _ i _ => nc - (intOf i).toNat)
  case atStart => exact ⟨0, Nat.zero_le _, rfl, rfl, jP, jT, jX, jB⟩
  case round =>
    clear jP jT jX jB
    obtain ⟨k, hk, rfl, rfl, jP, jT, jX, jB⟩ := hrel
    obtain ⟨d0, d1, d2, d3⟩ := jT.c4
    have y2 := jT.lt
    by_cases hlt2 : k < nc
    · have HA1 : Hid (anyV f (k + 1) = (anyV f k || f k)) := rfl
      generalize hs' : anyV f (k + 1) = s' at HA1
      have HS' := Lib.hid hs'
      clear hs'
      generalize anyV f k = q at HA1 ⊢
      cases q with
      | true =>
        go_upto_region 7 with fail
        clear d0 d1 d2 d3 y2
        refine wp_region_held_drew (S := (fun w' => Blk w' w.heap.size #[.int .i64 p.s0, .int .i64 p.s1, (.slice aS p.S.n cS), (.slice aC p.C.n cC), .int .i64 p.ne, .int .i64 p.ed, .int .i64 p.gr, .int .i64 p.lo, .int .i64 p.hi, .int .i64 p.sh, .int .i64 p.wi] 26 ∧ Blk w' (w.heap.size + 1) #[.int .i64 t.σ, .slice (some ⟨bt, ot, none⟩) nT cT, .slice ac nc cc, .slice aW n cW] 77 ∧ Blk w' (w.heap.size + 1 + 1) #[.int .i64 x.me, .int .i64 x.w0, .int .i64 x.w1, .int .i64 x.st] 53 ∧ Below w.heap.size w w')) (by kernel_rfl) ?_ (fun hH => ?_)
        · (try dsimp only); (exact ⟨jP.drew, jT.drew, jX.drew, jB.drew⟩)
        refine tkY 0 (some 33) ?_ ?_ ?_
        rotate_left
        · intro w _; go_simp; (try with_reducible rfl)
        (try simp only [cq])
        refine tkY 1 (some 34) ?_ ?_ ?_
        rotate_left
        · intro w _; go_simp; (try with_reducible rfl)
        (try simp only [cq])
        refine tkN 2 (some 35) ?_
        (try simp only [cq])
        refine tkN 3 (some 36) ?_
        (try simp only [cq])
        refine tkN 4 (some 37) ?_
        (try simp only [cq])
        refine tkN 5 (some 38) ?_
        (try simp only [cq])
        refine tkN 6 (some 39) ?_
        (try simp only [cq])
        refine tkN 7 (some 40) ?_
        (try simp only [cq])
        refine tkN 8 (some 41) ?_
        (try simp only [cq])
        refine tkN 9 (some 42) ?_
        (try simp only [cq])
        refine tkN 10 (some 43) ?_
        (try simp only [cq])
        refine tkN 11 (some 44) ?_
        (try simp only [cq])
        refine tkN 12 (some 45) ?_
        (try simp only [cq])
        refine tkY 13 (some 46) ?_ ?_ ?_
        rotate_left
        · intro w _; go_simp; (try with_reducible rfl)
        (try simp only [cq])
        refine tkY 14 (some 11) ?_ ?_ ?_
        rotate_left
        · intro w _; go_simp; (try with_reducible rfl)
        (try simp only [cq])
        refine wpAnyH_done (by kernel_rfl) ?_ _
        (try dsimp only [Act.put])
        (try simp only [cq])
        obtain ⟨jP, jT, jX, jB⟩ := hH
        have HR := Lib.hid (show s' = true by rw [HA1.out]; rfl)
        go_wp2
        go_roundw
        case rel => exact ⟨k + 1, by omega, by go_num, by rw [HS'.out, HR.out], jP, jT, jX, jB⟩
        case measure => simp [intOf]; omega
      | false =>
        obtain ⟨bc, oc, hac, hcc3⟩ := Hc3.out (by omega)
        subst hac
        have c0 := cell_later jB (hcc3 k hlt2)
        clear hcc3
        have zc := World.block_lt_of_cell? _ _ c0
        have HFk := Lib.hid (HFC.out k hlt2)
        have Hfk2 := Lib.hid (Hfk.out k)
        generalize farV (t.c k) x.me = fv at HFk Hfk2
        go_upto_region 7 with fail
        clear d0 d1 d2 d3 y2
        refine wp_region_held_drew (S := (fun w' => Blk w' w.heap.size #[.int .i64 p.s0, .int .i64 p.s1, (.slice aS p.S.n cS), (.slice aC p.C.n cC), .int .i64 p.ne, .int .i64 p.ed, .int .i64 p.gr, .int .i64 p.lo, .int .i64 p.hi, .int .i64 p.sh, .int .i64 p.wi] 26 ∧ Blk w' (w.heap.size + 1) #[.int .i64 t.σ, .slice (some ⟨bt, ot, none⟩) nT cT, .slice (some ⟨bc, oc, none⟩) nc cc, .slice aW n cW] 77 ∧ Blk w' (w.heap.size + 1 + 1) #[.int .i64 x.me, .int .i64 x.w0, .int .i64 x.w1, .int .i64 x.st] 53 ∧ Below w.heap.size w w' ∧ w'.cell? ⟨bc, oc + k, none⟩ = some (.int .i64 (t.c k)))) (by kernel_rfl) ?_ (fun hH => ?_)
        · (try dsimp only); (exact ⟨jP.drew, jT.drew, jX.drew, jB.drew, c0⟩)
        refine tkY 0 (some 33) ?_ ?_ ?_
        rotate_left
        · intro w _; go_simp; (try with_reducible rfl)
        (try simp only [cq])
        refine tkY 1 (some 34) ?_ ?_ ?_
        rotate_left
        · intro w _; go_simp; (try with_reducible rfl)
        (try simp only [cq])
        refine tkY 2 (some 35) ?_ ?_ ?_
        rotate_left
        · intro w hS0; (try dsimp only at hS0); obtain ⟨kP, kT, kX, kB, kc⟩ := hS0; obtain ⟨c0, c1, c2, c3, c4, c5, c6, c7, c8, c9, c10⟩ := kP.c11; obtain ⟨d0, d1, d2, d3⟩ := kT.c4; obtain ⟨x0, x1, x2, x3⟩ := kX.c4; have y1 := kP.lt; have y2 := kT.lt; have y3 := kX.lt; have y4 := World.block_lt_of_cell? _ _ kc;go_simp; (try with_reducible rfl)
        (try simp only [cq])
        refine tkY 3 (some 36) ?_ ?_ ?_
        rotate_left
        · intro w hS0; (try dsimp only at hS0); obtain ⟨kP, kT, kX, kB, kc⟩ := hS0; obtain ⟨c0, c1, c2, c3, c4, c5, c6, c7, c8, c9, c10⟩ := kP.c11; obtain ⟨d0, d1, d2, d3⟩ := kT.c4; obtain ⟨x0, x1, x2, x3⟩ := kX.c4; have y1 := kP.lt; have y2 := kT.lt; have y3 := kX.lt; have y4 := World.block_lt_of_cell? _ _ kc;go_simp; (try with_reducible rfl)
        (try simp only [cq])
        refine tkY 4 (some 37) ?_ ?_ ?_
        rotate_left
        · intro w _; go_simp; (try with_reducible rfl)
        (try simp only [cq])
        refine tkY 5 (some 38) ?_ ?_ ?_
        rotate_left
        · intro w hS0; (try dsimp only at hS0); obtain ⟨kP, kT, kX, kB, kc⟩ := hS0; obtain ⟨c0, c1, c2, c3, c4, c5, c6, c7, c8, c9, c10⟩ := kP.c11; obtain ⟨d0, d1, d2, d3⟩ := kT.c4; obtain ⟨x0, x1, x2, x3⟩ := kX.c4; have y1 := kP.lt; have y2 := kT.lt; have y3 := kX.lt; have y4 := World.block_lt_of_cell? _ _ kc;go_simp; (try with_reducible rfl)
        (try simp only [cq])
        refine tkY 6 (some 39) ?_ ?_ ?_
        rotate_left
        · intro w hS0; (try dsimp only at hS0); obtain ⟨kP, kT, kX, kB, kc⟩ := hS0; obtain ⟨c0, c1, c2, c3, c4, c5, c6, c7, c8, c9, c10⟩ := kP.c11; obtain ⟨d0, d1, d2, d3⟩ := kT.c4; obtain ⟨x0, x1, x2, x3⟩ := kX.c4; have y1 := kP.lt; have y2 := kT.lt; have y3 := kX.lt; have y4 := World.block_lt_of_cell? _ _ kc;go_simp; (try with_reducible rfl)
        (try simp only [cq])
        refine tkY 7 (some 40) ?_ ?_ ?_
        rotate_left
        · intro w hS0; (try dsimp only at hS0); obtain ⟨kP, kT, kX, kB, kc⟩ := hS0; obtain ⟨c0, c1, c2, c3, c4, c5, c6, c7, c8, c9, c10⟩ := kP.c11; obtain ⟨d0, d1, d2, d3⟩ := kT.c4; obtain ⟨x0, x1, x2, x3⟩ := kX.c4; have y1 := kP.lt; have y2 := kT.lt; have y3 := kX.lt; have y4 := World.block_lt_of_cell? _ _ kc;go_simp; (try with_reducible rfl)
        (try simp only [cq])
        refine tkY 8 (some 41) ?_ ?_ ?_
        rotate_left
        · intro w hS0; (try dsimp only at hS0); obtain ⟨kP, kT, kX, kB, kc⟩ := hS0; obtain ⟨c0, c1, c2, c3, c4, c5, c6, c7, c8, c9, c10⟩ := kP.c11; obtain ⟨d0, d1, d2, d3⟩ := kT.c4; obtain ⟨x0, x1, x2, x3⟩ := kX.c4; have y1 := kP.lt; have y2 := kT.lt; have y3 := kX.lt; have y4 := World.block_lt_of_cell? _ _ kc;go_simp; (try with_reducible rfl)
        (try simp only [cq])
        refine tkY 10 (some 43) ?_ ?_ ?_
        rotate_left
        · intro w hS0; (try dsimp only at hS0); obtain ⟨kP, kT, kX, kB, kc⟩ := hS0; obtain ⟨c0, c1, c2, c3, c4, c5, c6, c7, c8, c9, c10⟩ := kP.c11; obtain ⟨d0, d1, d2, d3⟩ := kT.c4; obtain ⟨x0, x1, x2, x3⟩ := kX.c4; have y1 := kP.lt; have y2 := kT.lt; have y3 := kX.lt; have y4 := World.block_lt_of_cell? _ _ kc;go_simp; (try with_reducible rfl)
        (try simp only [cq])
        refine tkY 11 (some 44) ?_ ?_ ?_
        rotate_left
        · intro w hS0; (try dsimp only at hS0); obtain ⟨kP, kT, kX, kB, kc⟩ := hS0; obtain ⟨c0, c1, c2, c3, c4, c5, c6, c7, c8, c9, c10⟩ := kP.c11; obtain ⟨d0, d1, d2, d3⟩ := kT.c4; obtain ⟨x0, x1, x2, x3⟩ := kX.c4; have y1 := kP.lt; have y2 := kT.lt; have y3 := kX.lt; have y4 := World.block_lt_of_cell? _ _ kc;go_simp; (try with_reducible rfl)
        (try simp only [cq])
        refine wpAnyH_ready (rs := [9]) (by kernel_rfl) (by simp) ?_
        refine arc1 (some 42) fun K hK => ?_
        go_simp
        (refine (HFk.out _).mono ?_; rintro e w' ⟨rfl, hb⟩)
        refine hK.out _ _ ?_ ?_
        · (exact ⟨hH.1.call hb, hH.2.1.call hb, hH.2.2.1.call hb, bwS hH.2.2.2.1 (Nat.le_refl _) hb, cell_later hb (hH.2.2.2.2)⟩)
        (try clear hH); (try clear hb)
        intro hH
        clear hK K
        (try simp only [cq])
        refine tkY 12 (some 45) ?_ ?_ ?_
        rotate_left
        · intro w _; go_simp; (try with_reducible rfl)
        (try simp only [cq])
        refine tkY 13 (some 46) ?_ ?_ ?_
        rotate_left
        · intro w _; go_simp; (try with_reducible rfl)
        (try simp only [cq])
        refine tkY 14 (some 11) ?_ ?_ ?_
        rotate_left
        · intro w _; go_simp; (try with_reducible rfl)
        (try simp only [cq])
        refine wpAnyH_done (by kernel_rfl) ?_ _
        (try dsimp only [Act.put])
        (try simp only [cq])
        obtain ⟨jP, jT, jX, jB, _⟩ := hH
        have HR := Lib.hid (show s' = decide (fv ≤ p.ne) by rw [HA1.out, Hfk2.out]; rfl)
        clear c0 zc
        go_wp2
        go_roundw
        case rel => exact ⟨k + 1, by omega, by go_num, by rw [HS'.out, HR.out], jP, jT, jX, jB⟩
        case measure => simp [intOf]; omega
    · have hkn : nc = k := by omega
      subst hkn
      have HN2 := Lib.hid HNf.out
      generalize nearT p t nc x.me = nq at HN2 hTh
      have hnq : anyV f nc = nq := HN2.out.symm
      rw [hnq]
      clear hnq HN2 HNf HFC Hfk
      generalize t.T j = h at hTj hTh ⊢
      have hth := thin_in hed0 hed1 nq hTj.1
      have hmul : 0 ≤ h * p.ed ∧ h * p.ed ≤ 5000000000 := ⟨Int.mul_nonneg hTj.1 hed0, by have := Int.mul_le_mul hTj.2 hed1 hed0 (by omega : (0:Int) ≤ 5000); omega⟩
      have e1 : IntKind.i64.wrap (h * p.ed) = h * p.ed := IntWalk.i64_in _ (by omega)
      have e2 : IntKind.i64.wrap ((h * p.ed).tdiv 1000000) = h * p.ed / 1000000 := by rw [Int.tdiv_eq_ediv_of_nonneg hmul.1]; exact IntWalk.i64_in _ (by omega)
      have hth2 : 0 ≤ thinV p nq h ∧ thinV p nq h ≤ 5000 := ⟨hth.1, by omega⟩
      have HT1 : Hid (nq = true → thinV p nq h = h * p.ed / 1000000) := fun e => by subst e; rfl
      have HT2 : Hid (nq = false → thinV p nq h = h) := fun e => by subst e; rfl
      have hTh2 := hTh.out
      generalize thinV p nq h = th at hth2 HT1 HT2 hTh2
      rw [hTh2] at hQ
      clear hTh2 hTh hth hmul hTj
      go_upto_if 47 with fail
      go_cut [10] (fun s10 wx => s10 = .int .i64 th ∧ Blk wx w.heap.size #[.int .i64 p.s0, .int .i64 p.s1, (.slice aS p.S.n cS), (.slice aC p.C.n cC), .int .i64 p.ne, .int .i64 p.ed, .int .i64 p.gr, .int .i64 p.lo, .int .i64 p.hi, .int .i64 p.sh, .int .i64 p.wi] 26 ∧ Blk wx (w.heap.size + 1) #[.int .i64 t.σ, .slice (some ⟨bt, ot, none⟩) nT cT, .slice ac nc cc, .slice aW n cW] 77 ∧ Blk wx (w.heap.size + 1 + 1) #[.int .i64 x.me, .int .i64 x.w0, .int .i64 x.w1, .int .i64 x.st] 53 ∧ Below w.heap.size w wx)
      case first =>
        cases nq with
        | true =>
          obtain ⟨c0, c1, c2, c3, c4, c5, c6, c7, c8, c9, c10⟩ := jP.c11
          have y1 := jP.lt
          have HT := Lib.hid (HT1.out rfl)
          clear HT1 HT2
          go_wp2
          go_meet
          exact ⟨by rw [HT.out], jP, jT, jX, jB⟩
        | false =>
          have HT := Lib.hid (HT2.out rfl)
          clear HT1 HT2
          go_wp2
          go_meet
          exact ⟨by rw [HT.out], jP, jT, jX, jB⟩
      case rest =>
        clear jP jT jX jB HT1 HT2 e1 e2 d0 d1 d2 d3 y2
        obtain ⟨rfl, jP, jT, jX, jB⟩ := hcut
        go_wp2_with fail
        go_loopw [13, 14] (fun q i wr => ∃ k : Nat, k ≤ n ∧ i = .int .i64 k ∧ q = .int .i64 (burdT p t k L x.me) ∧ Blk wr w.heap.size #[.int .i64 p.s0, .int .i64 p.s1, (.slice aS p.S.n cS), (.slice aC p.C.n cC), .int .i64 p.ne, .int .i64 p.ed, .int .i64 p.gr, .int .i64 p.lo, .int .i64 p.hi, .int .i64 p.sh, .int .i64 p.wi] 26 ∧ Blk wr (w.heap.size + 1) #[.int .i64 t.σ, .slice (some ⟨bt, ot, none⟩) nT cT, .slice ac nc cc, .slice aW n cW] 77 ∧ Blk wr (w.heap.size + 1 + 1) #[.int .i64 x.me, .int .i64 x.w0, .int .i64 x.w1, .int .i64 x.st] 53 ∧ Below w.heap.size w wr) (fun _ i _ => n - (intOf i).toNat)
        case atStart => exact ⟨0, Nat.zero_le _, rfl, rfl, jP, jT, jX, jB⟩
        case round =>
          clear jP jT jX jB
          obtain ⟨k, hk, rfl, rfl, jP, jT, jX, jB⟩ := hrel
          by_cases hlt2 : k < n
          · obtain ⟨hb1, hb2, hb3⟩ := HB.out k hlt2
            have HB3 := Lib.hid hb3
            clear hb3 HB
            obtain ⟨bw, ow, haw, hww⟩ := HW3.out (by omega)
            subst haw
            have g0 := cell_later jB (hww k hlt2)
            obtain ⟨l0, l1, l2, l3⟩ := HLC.out k hlt2
            have g1 := cell_later jB l0
            clear hww l0 l1 l2 l3
            have z0 := World.block_lt_of_cell? _ _ g0
            have z1 := World.block_lt_of_cell? _ _ g1
            have HFk := Lib.hid (HFL.out k hlt2)
            have HTk := Lib.hid (HTS.out (farV (L k).me x.me))
            generalize (L k).me = lme at g1 HFk HTk hb2 HB3
            generalize farV lme x.me = fv at HFk HTk hb2 HB3
            generalize p.S.val fv = pv at HTk hb2 HB3
            generalize burdT p t k L x.me = s at hb1 HB3 ⊢
            generalize t.W k = wv at g0 hb2 HB3
            have e3 : IntKind.i64.wrap (wv * pv) = wv * pv := IntWalk.i64_in _ (by omega)
            have e4 : IntKind.i64.wrap (s + wv * pv) = s + wv * pv := IntWalk.i64_in _ (by omega)
            clear hb1 hb2
            go_upto_region 14 with fail
            refine wp_region_held_drew (S := (fun w' => Blk w' w.heap.size #[.int .i64 p.s0, .int .i64 p.s1, (.slice aS p.S.n cS), (.slice aC p.C.n cC), .int .i64 p.ne, .int .i64 p.ed, .int .i64 p.gr, .int .i64 p.lo, .int .i64 p.hi, .int .i64 p.sh, .int .i64 p.wi] 26 ∧ Blk w' (w.heap.size + 1) #[.int .i64 t.σ, .slice (some ⟨bt, ot, none⟩) nT cT, .slice ac nc cc, .slice (some ⟨bw, ow, none⟩) n cW] 77 ∧ Blk w' (w.heap.size + 1 + 1) #[.int .i64 x.me, .int .i64 x.w0, .int .i64 x.w1, .int .i64 x.st] 53 ∧ Below w.heap.size w w' ∧ w'.cell? ⟨bw, ow + k, none⟩ = some (.int .i64 wv) ∧ w'.cell? ⟨bl, ol + k * 4, none⟩ = some (.int .i64 lme))) (by kernel_rfl) ?_ (fun hH => ?_)
            · (try dsimp only); (exact ⟨jP.drew, jT.drew, jX.drew, jB.drew, g0, g1⟩)
            refine tkY 0 (some 59) ?_ ?_ ?_
            rotate_left
            · intro w _; go_simp; (try with_reducible rfl)
            (try simp only [cq])
            refine tkY 1 (some 60) ?_ ?_ ?_
            rotate_left
            · intro w hS0; (try dsimp only at hS0); obtain ⟨kP, kT, kX, kB, kc, kd⟩ := hS0; obtain ⟨c0, c1, c2, c3, c4, c5, c6, c7, c8, c9, c10⟩ := kP.c11; obtain ⟨d0, d1, d2, d3⟩ := kT.c4; obtain ⟨x0, x1, x2, x3⟩ := kX.c4; have y1 := kP.lt; have y2 := kT.lt; have y3 := kX.lt; have y4 := World.block_lt_of_cell? _ _ kc; have y5 := World.block_lt_of_cell? _ _ kd;go_simp; (try with_reducible rfl)
            (try simp only [cq])
            refine tkY 2 (some 61) ?_ ?_ ?_
            rotate_left
            · intro w hS0; (try dsimp only at hS0); obtain ⟨kP, kT, kX, kB, kc, kd⟩ := hS0; obtain ⟨c0, c1, c2, c3, c4, c5, c6, c7, c8, c9, c10⟩ := kP.c11; obtain ⟨d0, d1, d2, d3⟩ := kT.c4; obtain ⟨x0, x1, x2, x3⟩ := kX.c4; have y1 := kP.lt; have y2 := kT.lt; have y3 := kX.lt; have y4 := World.block_lt_of_cell? _ _ kc; have y5 := World.block_lt_of_cell? _ _ kd;go_simp; (try with_reducible rfl)
            (try simp only [cq])
            refine tkY 3 (some 62) ?_ ?_ ?_
            rotate_left
            · intro w _; go_simp; (try with_reducible rfl)
            (try simp only [cq])
            refine tkY 4 (some 63) ?_ ?_ ?_
            rotate_left
            · intro w hS0; (try dsimp only at hS0); obtain ⟨kP, kT, kX, kB, kc, kd⟩ := hS0; obtain ⟨c0, c1, c2, c3, c4, c5, c6, c7, c8, c9, c10⟩ := kP.c11; obtain ⟨d0, d1, d2, d3⟩ := kT.c4; obtain ⟨x0, x1, x2, x3⟩ := kX.c4; have y1 := kP.lt; have y2 := kT.lt; have y3 := kX.lt; have y4 := World.block_lt_of_cell? _ _ kc; have y5 := World.block_lt_of_cell? _ _ kd;go_simp; (try with_reducible rfl)
            (try simp only [cq])
            refine tkY 5 (some 64) ?_ ?_ ?_
            rotate_left
            · intro w hS0; (try dsimp only at hS0); obtain ⟨kP, kT, kX, kB, kc, kd⟩ := hS0; obtain ⟨c0, c1, c2, c3, c4, c5, c6, c7, c8, c9, c10⟩ := kP.c11; obtain ⟨d0, d1, d2, d3⟩ := kT.c4; obtain ⟨x0, x1, x2, x3⟩ := kX.c4; have y1 := kP.lt; have y2 := kT.lt; have y3 := kX.lt; have y4 := World.block_lt_of_cell? _ _ kc; have y5 := World.block_lt_of_cell? _ _ kd;go_simp; (try with_reducible rfl)
            (try simp only [cq])
            refine tkY 6 (some 65) ?_ ?_ ?_
            rotate_left
            · intro w hS0; (try dsimp only at hS0); obtain ⟨kP, kT, kX, kB, kc, kd⟩ := hS0; obtain ⟨c0, c1, c2, c3, c4, c5, c6, c7, c8, c9, c10⟩ := kP.c11; obtain ⟨d0, d1, d2, d3⟩ := kT.c4; obtain ⟨x0, x1, x2, x3⟩ := kX.c4; have y1 := kP.lt; have y2 := kT.lt; have y3 := kX.lt; have y4 := World.block_lt_of_cell? _ _ kc; have y5 := World.block_lt_of_cell? _ _ kd;go_simp; (try with_reducible rfl)
            (try simp only [cq])
            refine tkY 7 (some 66) ?_ ?_ ?_
            rotate_left
            · intro w hS0; (try dsimp only at hS0); obtain ⟨kP, kT, kX, kB, kc, kd⟩ := hS0; obtain ⟨c0, c1, c2, c3, c4, c5, c6, c7, c8, c9, c10⟩ := kP.c11; obtain ⟨d0, d1, d2, d3⟩ := kT.c4; obtain ⟨x0, x1, x2, x3⟩ := kX.c4; have y1 := kP.lt; have y2 := kT.lt; have y3 := kX.lt; have y4 := World.block_lt_of_cell? _ _ kc; have y5 := World.block_lt_of_cell? _ _ kd;go_simp; (try with_reducible rfl)
            (try simp only [cq])
            refine tkY 8 (some 67) ?_ ?_ ?_
            rotate_left
            · intro w _; go_simp; (try with_reducible rfl)
            (try simp only [cq])
            refine tkY 9 (some 68) ?_ ?_ ?_
            rotate_left
            · intro w _; go_simp; (try with_reducible rfl)
            (try simp only [cq])
            refine tkY 10 (some 69) ?_ ?_ ?_
            rotate_left
            · intro w hS0; (try dsimp only at hS0); obtain ⟨kP, kT, kX, kB, kc, kd⟩ := hS0; obtain ⟨c0, c1, c2, c3, c4, c5, c6, c7, c8, c9, c10⟩ := kP.c11; obtain ⟨d0, d1, d2, d3⟩ := kT.c4; obtain ⟨x0, x1, x2, x3⟩ := kX.c4; have y1 := kP.lt; have y2 := kT.lt; have y3 := kX.lt; have y4 := World.block_lt_of_cell? _ _ kc; have y5 := World.block_lt_of_cell? _ _ kd;go_simp; (try with_reducible rfl)
            (try simp only [cq])
            refine tkY 11 (some 70) ?_ ?_ ?_
            rotate_left
            · intro w hS0; (try dsimp only at hS0); obtain ⟨kP, kT, kX, kB, kc, kd⟩ := hS0; obtain ⟨c0, c1, c2, c3, c4, c5, c6, c7, c8, c9, c10⟩ := kP.c11; obtain ⟨d0, d1, d2, d3⟩ := kT.c4; obtain ⟨x0, x1, x2, x3⟩ := kX.c4; have y1 := kP.lt; have y2 := kT.lt; have y3 := kX.lt; have y4 := World.block_lt_of_cell? _ _ kc; have y5 := World.block_lt_of_cell? _ _ kd;go_simp; (try with_reducible rfl)
            (try simp only [cq])
            refine tkY 12 (some 71) ?_ ?_ ?_
            rotate_left
            · intro w hS0; (try dsimp only at hS0); obtain ⟨kP, kT, kX, kB, kc, kd⟩ := hS0; obtain ⟨c0, c1, c2, c3, c4, c5, c6, c7, c8, c9, c10⟩ := kP.c11; obtain ⟨d0, d1, d2, d3⟩ := kT.c4; obtain ⟨x0, x1, x2, x3⟩ := kX.c4; have y1 := kP.lt; have y2 := kT.lt; have y3 := kX.lt; have y4 := World.block_lt_of_cell? _ _ kc; have y5 := World.block_lt_of_cell? _ _ kd;go_simp; (try with_reducible rfl)
            (try simp only [cq])
            refine tkY 13 (some 72) ?_ ?_ ?_
            rotate_left
            · intro w hS0; (try dsimp only at hS0); obtain ⟨kP, kT, kX, kB, kc, kd⟩ := hS0; obtain ⟨c0, c1, c2, c3, c4, c5, c6, c7, c8, c9, c10⟩ := kP.c11; obtain ⟨d0, d1, d2, d3⟩ := kT.c4; obtain ⟨x0, x1, x2, x3⟩ := kX.c4; have y1 := kP.lt; have y2 := kT.lt; have y3 := kX.lt; have y4 := World.block_lt_of_cell? _ _ kc; have y5 := World.block_lt_of_cell? _ _ kd;go_simp; (try with_reducible rfl)
            (try simp only [cq])
            refine tkY 14 (some 73) ?_ ?_ ?_
            rotate_left
            · intro w hS0; (try dsimp only at hS0); obtain ⟨kP, kT, kX, kB, kc, kd⟩ := hS0; obtain ⟨c0, c1, c2, c3, c4, c5, c6, c7, c8, c9, c10⟩ := kP.c11; obtain ⟨d0, d1, d2, d3⟩ := kT.c4; obtain ⟨x0, x1, x2, x3⟩ := kX.c4; have y1 := kP.lt; have y2 := kT.lt; have y3 := kX.lt; have y4 := World.block_lt_of_cell? _ _ kc; have y5 := World.block_lt_of_cell? _ _ kd;go_simp; (try with_reducible rfl)
            (try simp only [cq])
            refine wpAnyH_ready (rs := [15]) (by kernel_rfl) (by simp) ?_
            refine arc1 (some 74) fun K hK => ?_
            go_simp
            (refine (HFk.out _).mono ?_; rintro e w' ⟨rfl, hb⟩)
            refine hK.out _ _ ?_ ?_
            · (exact ⟨hH.1.call hb, hH.2.1.call hb, hH.2.2.1.call hb, bwS hH.2.2.2.1 (Nat.le_refl _) hb, cell_later hb (hH.2.2.2.2.1), cell_later hb (hH.2.2.2.2.2)⟩)
            (try clear hH); (try clear hb)
            intro hH
            clear hK K
            (try simp only [cq])
            refine wpAnyH_ready (rs := [16]) (by kernel_rfl) (by simp) ?_
            refine arc1 (some 75) fun K hK => ?_
            go_simp
            (refine (HTk.out _ hH.2.2.2.1).mono ?_; rintro e w' ⟨rfl, hb⟩)
            refine hK.out _ _ ?_ ?_
            · (exact ⟨hH.1.call hb, hH.2.1.call hb, hH.2.2.1.call hb, bwS hH.2.2.2.1 (Nat.le_refl _) hb, cell_later hb (hH.2.2.2.2.1), cell_later hb (hH.2.2.2.2.2)⟩)
            (try clear hH); (try clear hb)
            intro hH
            clear hK K
            (try simp only [cq])
            refine tkY 17 (some 76) ?_ ?_ ?_
            rotate_left
            · intro w _; go_simp; (try with_reducible rfl)
            (try simp only [cq])
            refine tkY 18 (some 77) ?_ ?_ ?_
            rotate_left
            · intro w _; go_simp; (try with_reducible rfl)
            (try simp only [cq])
            refine tkY 19 (some 13) ?_ ?_ ?_
            rotate_left
            · intro w _; go_simp; (try with_reducible rfl)
            (try simp only [cq])
            refine wpAnyH_done (by kernel_rfl) ?_ _
            (try dsimp only [Act.put])
            (try simp only [cq])
            obtain ⟨jP, jT, jX, jB, _⟩ := hH
            clear g0 g1 z0 z1
            go_wp2
            go_roundw
            case rel => exact ⟨k + 1, by omega, by go_num, by rw [HB3.out], jP, jT, jX, jB⟩
            case measure => simp [intOf]; omega
          · have hkn : n = k := by omega
            subst hkn
            generalize burdT p t n L x.me = s at hBn hQ ⊢
            have hl := lim_in hσ hth2 hcv
            have HTk := Lib.hid (HTC.out x.st)
            generalize p.C.val x.st = cv at HTk hl hQ
            have e3 : IntKind.i64.wrap (s * 1000000) = s * 1000000 := IntWalk.i64_in _ (by omega)
            have e4 : IntKind.i64.wrap (t.σ * th) = t.σ * th := IntWalk.i64_in _ (by omega)
            have e5 : IntKind.i64.wrap (t.σ * th * th) = t.σ * th * th := IntWalk.i64_in _ (by omega)
            have e6 : IntKind.i64.wrap (t.σ * th * th * cv) = t.σ * th * th * cv := IntWalk.i64_in _ (by omega)
            clear hl hcv hσ hth2 hBn
            go_upto_region 15 with fail
            refine wp_region_held_drew (S := (fun w' => Blk w' w.heap.size #[.int .i64 p.s0, .int .i64 p.s1, (.slice aS p.S.n cS), (.slice aC p.C.n cC), .int .i64 p.ne, .int .i64 p.ed, .int .i64 p.gr, .int .i64 p.lo, .int .i64 p.hi, .int .i64 p.sh, .int .i64 p.wi] 26 ∧ Blk w' (w.heap.size + 1) #[.int .i64 t.σ, .slice (some ⟨bt, ot, none⟩) nT cT, .slice ac nc cc, .slice aW n cW] 77 ∧ Blk w' (w.heap.size + 1 + 1) #[.int .i64 x.me, .int .i64 x.w0, .int .i64 x.w1, .int .i64 x.st] 53 ∧ Below w.heap.size w w')) (by kernel_rfl) ?_ (fun hH => ?_)
            · (try dsimp only); (exact ⟨jP.drew, jT.drew, jX.drew, jB.drew⟩)
            refine tkY 0 (some 78) ?_ ?_ ?_
            rotate_left
            · intro w _; go_simp; (try with_reducible rfl)
            (try simp only [cq])
            refine tkY 1 (some 79) ?_ ?_ ?_
            rotate_left
            · intro w _; go_simp; (try with_reducible rfl)
            (try simp only [cq])
            refine tkY 2 (some 80) ?_ ?_ ?_
            rotate_left
            · intro w hS0; (try dsimp only at hS0); obtain ⟨kP, kT, kX, kB⟩ := hS0; obtain ⟨c0, c1, c2, c3, c4, c5, c6, c7, c8, c9, c10⟩ := kP.c11; obtain ⟨d0, d1, d2, d3⟩ := kT.c4; obtain ⟨x0, x1, x2, x3⟩ := kX.c4; have y1 := kP.lt; have y2 := kT.lt; have y3 := kX.lt;go_simp; (try with_reducible rfl)
            (try simp only [cq])
            refine tkY 3 (some 81) ?_ ?_ ?_
            rotate_left
            · intro w hS0; (try dsimp only at hS0); obtain ⟨kP, kT, kX, kB⟩ := hS0; obtain ⟨c0, c1, c2, c3, c4, c5, c6, c7, c8, c9, c10⟩ := kP.c11; obtain ⟨d0, d1, d2, d3⟩ := kT.c4; obtain ⟨x0, x1, x2, x3⟩ := kX.c4; have y1 := kP.lt; have y2 := kT.lt; have y3 := kX.lt;go_simp; (try with_reducible rfl)
            (try simp only [cq])
            refine tkY 4 (some 82) ?_ ?_ ?_
            rotate_left
            · intro w _; go_simp; (try with_reducible rfl)
            (try simp only [cq])
            refine tkY 5 (some 83) ?_ ?_ ?_
            rotate_left
            · intro w _; go_simp; (try with_reducible rfl)
            (try simp only [cq])
            refine tkY 6 (some 84) ?_ ?_ ?_
            rotate_left
            · intro w _; go_simp; (try with_reducible rfl)
            (try simp only [cq])
            refine tkY 7 (some 85) ?_ ?_ ?_
            rotate_left
            · intro w _; go_simp; (try with_reducible rfl)
            (try simp only [cq])
            refine tkY 8 (some 86) ?_ ?_ ?_
            rotate_left
            · intro w hS0; (try dsimp only at hS0); obtain ⟨kP, kT, kX, kB⟩ := hS0; obtain ⟨c0, c1, c2, c3, c4, c5, c6, c7, c8, c9, c10⟩ := kP.c11; obtain ⟨d0, d1, d2, d3⟩ := kT.c4; obtain ⟨x0, x1, x2, x3⟩ := kX.c4; have y1 := kP.lt; have y2 := kT.lt; have y3 := kX.lt;go_simp; (try with_reducible rfl)
            (try simp only [cq])
            refine tkY 9 (some 87) ?_ ?_ ?_
            rotate_left
            · intro w hS0; (try dsimp only at hS0); obtain ⟨kP, kT, kX, kB⟩ := hS0; obtain ⟨c0, c1, c2, c3, c4, c5, c6, c7, c8, c9, c10⟩ := kP.c11; obtain ⟨d0, d1, d2, d3⟩ := kT.c4; obtain ⟨x0, x1, x2, x3⟩ := kX.c4; have y1 := kP.lt; have y2 := kT.lt; have y3 := kX.lt;go_simp; (try with_reducible rfl)
            (try simp only [cq])
            refine tkY 10 (some 88) ?_ ?_ ?_
            rotate_left
            · intro w hS0; (try dsimp only at hS0); obtain ⟨kP, kT, kX, kB⟩ := hS0; obtain ⟨c0, c1, c2, c3, c4, c5, c6, c7, c8, c9, c10⟩ := kP.c11; obtain ⟨d0, d1, d2, d3⟩ := kT.c4; obtain ⟨x0, x1, x2, x3⟩ := kX.c4; have y1 := kP.lt; have y2 := kT.lt; have y3 := kX.lt;go_simp; (try with_reducible rfl)
            (try simp only [cq])
            refine tkY 11 (some 89) ?_ ?_ ?_
            rotate_left
            · intro w hS0; (try dsimp only at hS0); obtain ⟨kP, kT, kX, kB⟩ := hS0; obtain ⟨c0, c1, c2, c3, c4, c5, c6, c7, c8, c9, c10⟩ := kP.c11; obtain ⟨d0, d1, d2, d3⟩ := kT.c4; obtain ⟨x0, x1, x2, x3⟩ := kX.c4; have y1 := kP.lt; have y2 := kT.lt; have y3 := kX.lt;go_simp; (try with_reducible rfl)
            (try simp only [cq])
            refine wpAnyH_ready (rs := [12]) (by kernel_rfl) (by simp) ?_
            refine arc1 (some 90) fun K hK => ?_
            go_simp
            (refine (HTk.out _ hH.2.2.2).mono ?_; rintro e w' ⟨rfl, hb⟩)
            refine hK.out _ _ ?_ ?_
            · (exact ⟨hH.1.call hb, hH.2.1.call hb, hH.2.2.1.call hb, bwS hH.2.2.2 (Nat.le_refl _) hb⟩)
            (try clear hH); (try clear hb)
            intro hH
            clear hK K
            (try simp only [cq])
            refine tkY 13 (some 91) ?_ ?_ ?_
            rotate_left
            · intro w _; go_simp; (try with_reducible rfl)
            (try simp only [cq])
            refine tkY 14 (some 92) ?_ ?_ ?_
            rotate_left
            · intro w _; go_simp; (try with_reducible rfl)
            (try simp only [cq])
            refine tkY 15 (some 8) ?_ ?_ ?_
            rotate_left
            · intro w _; go_simp; (try with_reducible rfl)
            (try simp only [cq])
            refine wpAnyH_done (by kernel_rfl) ?_ _
            (try dsimp only [Act.put])
            (try simp only [cq])
            have hBB := hH.2.2.2
            clear hH
            have hr := hQ.out
            subst hr
            go_wp2
            go_ret
            exact ⟨rfl, hBB⟩
end Go.Proofs.Ytkkljbbgaogifaa
