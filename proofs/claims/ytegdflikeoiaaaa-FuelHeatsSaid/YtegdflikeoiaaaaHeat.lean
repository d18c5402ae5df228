/-
  FuelHeats: how long litres last.
-/
import Derived.Test.YtegdflikeoiaaaaTail
import Derived.Test.YtegdflikeoiaaaaLeq
import Derived.Test.YtegdflikeoiaaaaBuo
import Derived.Test.YtegdflikeoiaaaaAwk
import Derived.Test.YtegdflikeoiaaaaNew
import Derived.Test.YtegdflikeoiaaaaShr4
set_option linter.unusedVariables false
set_option linter.unusedSimpArgs false
namespace Go.Proofs.Ytegdflikeoiaaaa
open Go.RowKit

theorem awR2 {w W : World} {o : Obj} {base s n : Nat} {e : TypeId} {v : Value} {xs : List Value} (h : (w.alloc o).drew = W) (k : w.ownsRow base e s v n xs) : W.ownsRow base e s v n xs := h ▸ (k.alloc o)
structure Pk where
  x : Int
  y : Int
  a : Option Addr
  n : Nat
  c : Nat
def IsBu (bs : Nat) (W : World) (p : Pk) : Prop := ∃ UB, W.ownsRow (bs + 1) 127 3 (.slice p.a p.n p.c) p.n (catC (buC UB) p.n)
def IsSp (bs : Nat) (W : World) (p : Pk) : Prop := ∃ C D, W.ownsRow (bs + 1) 26 2 (.slice p.a p.n p.c) p.n (catC (spC C D) p.n)
theorem IsBu.b {bs : Nat} {W W' : World} {p : Pk} (h : IsBu bs W p) (hb : Below W.heap.size W W') : IsBu bs W' p := Exists.elim h fun U k => ⟨U, row_call k hb⟩
theorem IsSp.b {bs : Nat} {W W' : World} {p : Pk} (h : IsSp bs W p) (hb : Below W.heap.size W W') : IsSp bs W' p := Exists.elim h fun C k => Exists.elim k fun D k => ⟨C, D, row_call k hb⟩
theorem IsBu.d {bs : Nat} {W W' : World} {p : Pk} (h : IsBu bs W p) (hd : Drawn bs W W') : IsBu bs W' p := Exists.elim h fun U k => ⟨U, hd.row k (Nat.lt_succ_self _)⟩
theorem IsSp.d {bs : Nat} {W W' : World} {p : Pk} (h : IsSp bs W p) (hd : Drawn bs W W') : IsSp bs W' p := Exists.elim h fun C k => Exists.elim k fun D k => ⟨C, D, hd.row k (Nat.lt_succ_self _)⟩
theorem blk_seed {W : World} {b bs : Nat} {C : Array Value} {t : TypeId} (h : Blk W b C t) (hs : SeedAt bs W) (ht : t ≠ 101) : b ≠ bs := by
  rintro rfl
  obtain ⟨u, hu⟩ := hs
  unfold Blk at h hu
  rw [h] at hu
  simp at hu
  exact ht hu.2
def belW {B : Nat} {a w : World} (_ : Below B a w) : World := w
set_option maxRecDepth 100000 in
set_option maxHeartbeats 16000000 in
theorem heats_any (l0 l1 : Int) (n : Nat) (U : Nat → Bu) (vU : Value) (m : Nat) (C D : Nat → Int) (vC : Value) (a4 : Option Addr) (n4 c4 : Nat) (w : World) (hU : BusAt w vU n U) (hC : SpansAt w vC m C D) (h4 : NumsAt w a4 n4) :
    Calls Try.prog 7 #[.agg #[.int .i64 l0, .int .i64 l1], vU, vC, .slice a4 n4 c4] w fun e w' => e = .returned (.bool true) ∧ Below w.heap.size w w' := by
  have HU := Lib.hid (fun (W : World) (h : Below w.heap.size w W) => hU.later h)
  have HC := Lib.hid (fun (W : World) (h : Below w.heap.size w W) => hC.later h)
  obtain ⟨aU, cU, rfl, -, -, -⟩ := hU
  obtain ⟨aC, cC, rfl, -, -, -⟩ := hC
  have jL := Blk.new w #[.int .i64 l0, .int .i64 l1] 26
  have jB : Below w.heap.size w (w.alloc (.cells #[.int .i64 l0, .int .i64 l1] 26)) := by (repeat (first | exact Below.refl _ _ | assumption | refine Below.drew ?_ | refine Below.drewN ?_ _ | refine blT ?_ | refine blU ?_))
  have H4 := Lib.hid (show NumsAt (w.alloc (.cells #[.int .i64 l0, .int .i64 l1] 26)) a4 n4 from ⟨h4.1, fun h => by
    obtain ⟨b, o, ha, hb, hc⟩ := h4.2 h
    exact ⟨b, o, ha, Nat.lt_of_lt_of_le hb jB.size, fun i hi => by
      obtain ⟨x, hx⟩ := hc i hi
      exact ⟨x, cell_later jB hx⟩⟩⟩)
  clear h4
  have HAw := Lib.hid (fun (W : World) => awake_any W)
  by_cases hbig : 20 < n
  · have e1 : (20 : Int) < n := by omega
    go_enter Try.func7, Try.ntmps7
    go_wp2_with fail
    refine (HAw.out _).mono ?_
    rintro e w2 ⟨rfl, hb⟩
    replace jB := bwS jB (Nat.le_refl _) hb
    clear hb
    go_wp2
    go_ret
    exact ⟨rfl, jB⟩
  by_cases hbig2 : 450 < m
  · have e1 : ¬ (20 : Int) < n := by omega
    have e2 : (450 : Int) < m := by omega
    go_enter Try.func7, Try.ntmps7
    go_wp2_with fail
    refine (HAw.out _).mono ?_
    rintro e w2 ⟨rfl, hb⟩
    replace jB := bwS jB (Nat.le_refl _) hb
    clear hb
    go_wp2
    go_ret
    exact ⟨rfl, jB⟩
  have e1 : ¬ (20 : Int) < n := by omega
  have e2 : ¬ (450 : Int) < m := by omega
  go_enter Try.func7, Try.ntmps7
  go_wp2_with fail
  refine (newseed_at a4 n4 c4 _ H4.out).mono ?_
  rintro e w1 ⟨rfl, hS, hb⟩
  have zbs : w.heap.size < (w.alloc (.cells #[.int .i64 l0, .int .i64 l1] 26)).heap.size := jL.lt
  replace jL := jL.call hb
  replace jB := bwS jB (Nat.le_refl _) hb
  obtain ⟨bs, hbs⟩ : ∃ x, (w.alloc (.cells #[.int .i64 l0, .int .i64 l1] 26)).heap.size = x := ⟨_, rfl⟩
  rw [hbs] at zbs hS ⊢
  clear hb hbs H4
  have zwbs : w.heap.size ≤ bs := by omega
  go_upto_region 4 with fail
  go_cut [10, 11, 12] (fun s10 s11 s12 V => ∃ (bS bB bC : Nat), s10 = .slice (some ⟨bS, 0, none⟩) 3 3 ∧ s11 = .slice (some ⟨bB, 0, none⟩) 3 3 ∧ s12 = .slice (some ⟨bC, 0, none⟩) 3 3 ∧ (∀ k, k < 3 → ∃ (a b : Int) (vU : Value) (nU : Nat) (U : Nat → Bu) (vC : Value) (m : Nat) (C D : Nat → Int), V.cell? ⟨bS, k * 2, none⟩ = some (.int .i64 a) ∧ V.cell? ⟨bS, k * 2 + 1, none⟩ = some (.int .i64 b) ∧ V.cell? ⟨bB, k, none⟩ = some vU ∧ BusAt V vU nU U ∧ V.cell? ⟨bC, k, none⟩ = some vC ∧ SpansAt V vC m C D) ∧ Below w.heap.size w V)
  case first =>
    let S9 : World → Prop := (fun wx => Blk wx w.heap.size #[.int .i64 l0, .int .i64 l1] 26 ∧ SeedAt bs wx ∧ Below w.heap.size w wx)
    refine wp_region_held_drew (S := S9) (by kernel_rfl) ?_ (fun hH => ?_)
    · (try dsimp only); (exact ⟨jL.drew, hS, jB.drew⟩)
    have S9a : ∀ (W : World) (C : Array Value) (t : TypeId), S9 W → S9 (W.alloc (.cells C t)) := fun W C t hH => by (try dsimp only at hH); exact ⟨hH.1.alloc _, hH.2.1.imp fun _ h => h.alloc _, bwA hH.2.2 (Nat.le_refl _) _⟩
    have S9b : ∀ (W : World) (C : Array Value) (t : TypeId), S9 W.drew → S9 (W.alloc (.cells C t)).drew := fun W C t hH => by (try dsimp only at hH); exact ⟨hH.1.alloc _, hH.2.1.imp fun _ h => h.alloc _, bwA hH.2.2 (Nat.le_refl _) _⟩
    apply share4_VVVVNNN (fun (p2 : Pk) (p7 : Pk) (p12 : Pk) (p14 : Pk) (bS : Nat) (bB : Nat) (bC : Nat) (W : World) => S9 W ∧ Blk W bS #[.int .i64 l0, .int .i64 l1, .int .i64 p2.x, .int .i64 p2.y, .int .i64 l0, .int .i64 l1] 26 ∧ Blk W bB #[.slice aU n cU, .slice p7.a p7.n p7.c, .slice aU n cU] 73 ∧ Blk W bC #[.slice aC m cC, .slice p12.a p12.n p12.c, .slice p14.a p14.n p14.c] 33 ∧ (IsBu bs W p7) ∧ (IsSp bs W p12) ∧ (IsSp bs W p14))
    {
    intro X_2_4_7_9_12_14_15
    apply share4_VVVVNN (fun (p2 : Pk) (p7 : Pk) (p12 : Pk) (p14 : Pk) (bS : Nat) (bB : Nat) (W : World) => S9 W ∧ Blk W bS #[.int .i64 l0, .int .i64 l1, .int .i64 p2.x, .int .i64 p2.y, .int .i64 l0, .int .i64 l1] 26 ∧ Blk W bB #[.slice aU n cU, .slice p7.a p7.n p7.c, .slice aU n cU] 73 ∧ (IsBu bs W p7) ∧ (IsSp bs W p12) ∧ (IsSp bs W p14))
    {
    intro X_2_4_7_9_12_14
    apply share4_VVVVNN (fun (p2 : Pk) (p7 : Pk) (p12 : Pk) (p14 : Pk) (bS : Nat) (bC : Nat) (W : World) => S9 W ∧ Blk W bS #[.int .i64 l0, .int .i64 l1, .int .i64 p2.x, .int .i64 p2.y, .int .i64 l0, .int .i64 l1] 26 ∧ Blk W bC #[.slice aC m cC, .slice p12.a p12.n p12.c, .slice p14.a p14.n p14.c] 33 ∧ (IsBu bs W p7) ∧ (IsSp bs W p12) ∧ (IsSp bs W p14))
    {
    intro X_2_4_7_12_14_15
    apply share4_VVVVNN (fun (p2 : Pk) (p7 : Pk) (p12 : Pk) (p14 : Pk) (bB : Nat) (bC : Nat) (W : World) => S9 W ∧ Blk W bB #[.slice aU n cU, .slice p7.a p7.n p7.c, .slice aU n cU] 73 ∧ Blk W bC #[.slice aC m cC, .slice p12.a p12.n p12.c, .slice p14.a p14.n p14.c] 33 ∧ (IsBu bs W p7) ∧ (IsSp bs W p12) ∧ (IsSp bs W p14))
    {
    intro X_2_7_9_12_14_15
    apply share4_VVVNN (fun (p2 : Pk) (p7 : Pk) (p12 : Pk) (bS : Nat) (bB : Nat) (W : World) => S9 W ∧ Blk W bS #[.int .i64 l0, .int .i64 l1, .int .i64 p2.x, .int .i64 p2.y, .int .i64 l0, .int .i64 l1] 26 ∧ Blk W bB #[.slice aU n cU, .slice p7.a p7.n p7.c, .slice aU n cU] 73 ∧ (IsBu bs W p7) ∧ (IsSp bs W p12))
    {
    intro X_2_4_7_9_12
    apply share4_VVVVN (fun (p2 : Pk) (p7 : Pk) (p12 : Pk) (p14 : Pk) (bS : Nat) (W : World) => S9 W ∧ Blk W bS #[.int .i64 l0, .int .i64 l1, .int .i64 p2.x, .int .i64 p2.y, .int .i64 l0, .int .i64 l1] 26 ∧ (IsBu bs W p7) ∧ (IsSp bs W p12) ∧ (IsSp bs W p14))
    {
    intro X_2_4_7_12_14
    apply share4_VVVVN (fun (p2 : Pk) (p7 : Pk) (p12 : Pk) (p14 : Pk) (bB : Nat) (W : World) => S9 W ∧ Blk W bB #[.slice aU n cU, .slice p7.a p7.n p7.c, .slice aU n cU] 73 ∧ (IsBu bs W p7) ∧ (IsSp bs W p12) ∧ (IsSp bs W p14))
    {
    intro X_2_7_9_12_14
    apply share4_VVVVN (fun (p2 : Pk) (p7 : Pk) (p12 : Pk) (p14 : Pk) (bC : Nat) (W : World) => S9 W ∧ Blk W bC #[.slice aC m cC, .slice p12.a p12.n p12.c, .slice p14.a p14.n p14.c] 33 ∧ (IsBu bs W p7) ∧ (IsSp bs W p12) ∧ (IsSp bs W p14))
    {
    intro X_2_7_12_14_15
    apply share4_VVNN (fun (p2 : Pk) (p7 : Pk) (bS : Nat) (bB : Nat) (W : World) => S9 W ∧ Blk W bS #[.int .i64 l0, .int .i64 l1, .int .i64 p2.x, .int .i64 p2.y, .int .i64 l0, .int .i64 l1] 26 ∧ Blk W bB #[.slice aU n cU, .slice p7.a p7.n p7.c, .slice aU n cU] 73 ∧ (IsBu bs W p7))
    {
    intro X_2_4_7_9
    apply share4_VVVN (fun (p2 : Pk) (p7 : Pk) (p12 : Pk) (bS : Nat) (W : World) => S9 W ∧ Blk W bS #[.int .i64 l0, .int .i64 l1, .int .i64 p2.x, .int .i64 p2.y, .int .i64 l0, .int .i64 l1] 26 ∧ (IsBu bs W p7) ∧ (IsSp bs W p12))
    {
    intro X_2_4_7_12
    apply share4_VVVN (fun (p2 : Pk) (p7 : Pk) (p12 : Pk) (bB : Nat) (W : World) => S9 W ∧ Blk W bB #[.slice aU n cU, .slice p7.a p7.n p7.c, .slice aU n cU] 73 ∧ (IsBu bs W p7) ∧ (IsSp bs W p12))
    {
    intro X_2_7_9_12
    apply share4_VVVV (fun (p2 : Pk) (p7 : Pk) (p12 : Pk) (p14 : Pk) (W : World) => S9 W ∧ (IsBu bs W p7) ∧ (IsSp bs W p12) ∧ (IsSp bs W p14))
    {
    intro X_2_7_12_14
    apply share4_VVN (fun (p2 : Pk) (p7 : Pk) (bS : Nat) (W : World) => S9 W ∧ Blk W bS #[.int .i64 l0, .int .i64 l1, .int .i64 p2.x, .int .i64 p2.y, .int .i64 l0, .int .i64 l1] 26 ∧ (IsBu bs W p7))
    {
    intro X_2_4_7
    apply share4_VVN (fun (p2 : Pk) (p7 : Pk) (bB : Nat) (W : World) => S9 W ∧ Blk W bB #[.slice aU n cU, .slice p7.a p7.n p7.c, .slice aU n cU] 73 ∧ (IsBu bs W p7))
    {
    intro X_2_7_9
    apply share4_VVV (fun (p2 : Pk) (p7 : Pk) (p12 : Pk) (W : World) => S9 W ∧ (IsBu bs W p7) ∧ (IsSp bs W p12))
    {
    intro X_2_7_12
    apply share4_VN (fun (p2 : Pk) (bS : Nat) (W : World) => S9 W ∧ Blk W bS #[.int .i64 l0, .int .i64 l1, .int .i64 p2.x, .int .i64 p2.y, .int .i64 l0, .int .i64 l1] 26)
    {
    intro X_2_4
    apply share4_VV (fun (p2 : Pk) (p7 : Pk) (W : World) => S9 W ∧ (IsBu bs W p7))
    {
    intro X_2_7
    apply share4_V (fun (p2 : Pk) (W : World) => S9 W)
    {
    intro X_2
    refine tkY 0 (some 29) ?_ ?_ ?_
    rotate_left
    · intro w hS0; (try dsimp only at hS0); obtain ⟨kL, _, _⟩ := hS0; obtain ⟨l0', l1'⟩ := kL.c2; have y1 := kL.lt;go_simp; (try with_reducible rfl)
    (try simp only [cq])
    refine tkY 1 (some 30) ?_ ?_ ?_
    rotate_left
    · intro w _; go_simp; (try with_reducible rfl)
    (try simp only [cq])
    refine tkY 3 (some 32) ?_ ?_ ?_
    rotate_left
    · intro w hS0; (try dsimp only at hS0); obtain ⟨kL, _, _⟩ := hS0; obtain ⟨l0', l1'⟩ := kL.c2; have y1 := kL.lt;go_simp; (try with_reducible rfl)
    (try simp only [cq])
    refine tkY 5 (some 34) ?_ ?_ ?_
    rotate_left
    · intro w _; go_simp; (try with_reducible rfl)
    (try simp only [cq])
    refine tkY 6 (some 35) ?_ ?_ ?_
    rotate_left
    · intro w _; go_simp; (try with_reducible rfl)
    (try simp only [cq])
    refine tkY 8 (some 37) ?_ ?_ ?_
    rotate_left
    · intro w _; go_simp; (try with_reducible rfl)
    (try simp only [cq])
    refine tkY 10 (some 39) ?_ ?_ ?_
    rotate_left
    · intro w _; go_simp; (try with_reducible rfl)
    (try simp only [cq])
    refine tkY 11 (some 40) ?_ ?_ ?_
    rotate_left
    · intro w _; go_simp; (try with_reducible rfl)
    (try simp only [cq])
    refine tkY 13 (some 42) ?_ ?_ ?_
    rotate_left
    · intro w _; go_simp; (try with_reducible rfl)
    (try simp only [cq])
    refine wpAnyH_ready (rs := [2]) (by kernel_rfl) (by simp) ?_
    refine arc1 (some 31) fun K hK => ?_
    go_simp
    (refine (kspan_in 0 500 bs _ hH.2.1 (by omega) (by omega) (by omega)).mono ?_; rintro e w' ⟨x, y, rfl, _, _, _, hd⟩; obtain ⟨p2, rfl, rfl⟩ : ∃ p : Pk, p.x = x ∧ p.y = y := ⟨⟨x, y, none, 0, 0⟩, rfl, rfl⟩)
    refine hK.out _ _ ?_ ?_
    · (exact ⟨hd.blk hH.1 (by omega), hd.seed, Drawn.below hH.2.2 hd zwbs⟩)
    (try clear hH); (try clear hd)
    intro hH
    clear hK K
    (try simp only [cq])
    exact X_2 p2 w' hH
    }
    {
    (try clear hH)
    intro p2 W hall
    have hH := hall
    (try dsimp only at hH)
    refine wpAnyH_ready (rs := [4, 7]) (by kernel_rfl) (by simp) ?_
    refine arc (some 33) (fun K hK => ?_) ?_
    {
    go_simp
    first | refine oD hK (S9b _ _ _ hH) fun hH hA => ?_ | refine oA hK (S9a _ _ _ hH) fun hH hA => ?_
    clear hK K
    (try simp only [cq])
    obtain ⟨bS, hbA⟩ : ∃ b, Blk.num hA = b := ⟨_, rfl⟩
    obtain ⟨W, hW⟩ : ∃ V, Blk.wld hA = V := ⟨_, rfl⟩
    simp only [Blk.num] at hbA
    simp only [Blk.wld] at hW
    rw [hW] at hH hA ⊢
    rw [hbA] at hA ⊢
    clear hW hbA
    have hAbS := hA
    clear hA
    exact X_2_4 p2 bS W ⟨hH, hAbS⟩
    }
    refine arc (some 36) (fun K hK => ?_) ?_
    {
    go_simp
    (have zc := hH.2.1.choose_spec.lt; refine (burnof_in bs _ hH.2.1).mono ?_; rintro e w' ⟨vB, nB, UB, rfl, _, rB, hd⟩; replace rB := ownsRow_base (b1 := bs + 1) rB zc; clear zc; obtain ⟨arB, crB, hvrB, -, -, -⟩ := row_at rB (by omega); subst hvrB; obtain ⟨p7, rfl, rfl, rfl⟩ : ∃ p : Pk, p.a = arB ∧ p.n = nB ∧ p.c = crB := ⟨⟨0, 0, arB, nB, crB⟩, rfl, rfl, rfl⟩; replace rB : IsBu bs w' p7 := ⟨UB, rB⟩)
    refine hK.out _ _ ?_ ?_
    · (exact ⟨hd.blk hH.1 (by omega), hd.seed, Drawn.below hH.2.2 hd zwbs⟩)
    (try clear hH); (try clear hd)
    intro hH
    clear hK K
    (try simp only [cq])
    exact X_2_7 p2 p7 w' ⟨hH, rB⟩
    }
    exact AllReadyH.nil
    }
    }
    {
    (try clear hH)
    intro p2 p7 W hall
    obtain ⟨hH, rB⟩ := hall
    (try dsimp only at hH)
    refine wpAnyH_ready (rs := [4, 9, 12]) (by kernel_rfl) (by simp) ?_
    refine arc (some 33) (fun K hK => ?_) ?_
    {
    go_simp
    first | refine oD hK (S9b _ _ _ hH) fun hH hA => ?_ | refine oA hK (S9a _ _ _ hH) fun hH hA => ?_
    clear hK K
    (try simp only [cq])
    obtain ⟨bS, hbA⟩ : ∃ b, Blk.num hA = b := ⟨_, rfl⟩
    obtain ⟨W, hW⟩ : ∃ V, Blk.wld hA = V := ⟨_, rfl⟩
    simp only [Blk.num] at hbA
    simp only [Blk.wld] at hW
    replace rB := IsBu.b rB (show Below _ _ W by rw [← hW]; first | exact (Below.refl _ _).alloc (Nat.le_refl _) _ | exact ((Below.refl _ _).alloc (Nat.le_refl _) _).drew)
    rw [hW] at hH hA ⊢
    rw [hbA] at hA ⊢
    clear hW hbA
    have hAbS := hA
    clear hA
    exact X_2_4_7 p2 p7 bS W ⟨hH, hAbS, rB⟩
    }
    refine arc (some 38) (fun K hK => ?_) ?_
    {
    go_simp
    first | refine oD hK (S9b _ _ _ hH) fun hH hA => ?_ | refine oA hK (S9a _ _ _ hH) fun hH hA => ?_
    clear hK K
    (try simp only [cq])
    obtain ⟨bB, hbA⟩ : ∃ b, Blk.num hA = b := ⟨_, rfl⟩
    obtain ⟨W, hW⟩ : ∃ V, Blk.wld hA = V := ⟨_, rfl⟩
    simp only [Blk.num] at hbA
    simp only [Blk.wld] at hW
    replace rB := IsBu.b rB (show Below _ _ W by rw [← hW]; first | exact (Below.refl _ _).alloc (Nat.le_refl _) _ | exact ((Below.refl _ _).alloc (Nat.le_refl _) _).drew)
    rw [hW] at hH hA ⊢
    rw [hbA] at hA ⊢
    clear hW hbA
    have hAbB := hA
    clear hA
    exact X_2_7_9 p2 p7 bB W ⟨hH, hAbB, rB⟩
    }
    refine arc (some 41) (fun K hK => ?_) ?_
    {
    go_simp
    (have zc := hH.2.1.choose_spec.lt; refine (colds_in bs _ hH.2.1).mono ?_; rintro e w' ⟨vC, nC, C1, D1, rfl, _, rC, hd⟩; replace rC := ownsRow_base (b1 := bs + 1) rC zc; clear zc; obtain ⟨arC, crC, hvrC, -, -, -⟩ := row_at rC (by omega); subst hvrC; obtain ⟨p12, rfl, rfl, rfl⟩ : ∃ p : Pk, p.a = arC ∧ p.n = nC ∧ p.c = crC := ⟨⟨0, 0, arC, nC, crC⟩, rfl, rfl, rfl⟩; replace rC : IsSp bs w' p12 := ⟨C1, D1, rC⟩)
    replace rB := IsBu.d rB hd
    refine hK.out _ _ ?_ ?_
    · (exact ⟨hd.blk hH.1 (by omega), hd.seed, Drawn.below hH.2.2 hd zwbs⟩)
    (try clear hH); (try clear hd)
    intro hH
    clear hK K
    (try simp only [cq])
    exact X_2_7_12 p2 p7 p12 w' ⟨hH, rB, rC⟩
    }
    exact AllReadyH.nil
    }
    }
    {
    (try clear hH)
    intro p2 bS W hall
    obtain ⟨hH, hAbS⟩ := hall
    (try dsimp only at hH)
    refine wpAnyH_ready (rs := [7]) (by kernel_rfl) (by simp) ?_
    refine arc1 (some 36) fun K hK => ?_
    go_simp
    (have zc := hH.2.1.choose_spec.lt; refine (burnof_in bs _ hH.2.1).mono ?_; rintro e w' ⟨vB, nB, UB, rfl, _, rB, hd⟩; replace rB := ownsRow_base (b1 := bs + 1) rB zc; clear zc; obtain ⟨arB, crB, hvrB, -, -, -⟩ := row_at rB (by omega); subst hvrB; obtain ⟨p7, rfl, rfl, rfl⟩ : ∃ p : Pk, p.a = arB ∧ p.n = nB ∧ p.c = crB := ⟨⟨0, 0, arB, nB, crB⟩, rfl, rfl, rfl⟩; replace rB : IsBu bs w' p7 := ⟨UB, rB⟩)
    (replace hAbS := hd.blk hAbS (blk_seed hAbS hH.2.1 (by decide)))
    refine hK.out _ _ ?_ ?_
    · (exact ⟨hd.blk hH.1 (by omega), hd.seed, Drawn.below hH.2.2 hd zwbs⟩)
    (try clear hH); (try clear hd)
    intro hH
    clear hK K
    (try simp only [cq])
    exact X_2_4_7 p2 p7 bS w' ⟨hH, hAbS, rB⟩
    }
    }
    {
    (try clear hH)
    intro p2 p7 p12 W hall
    obtain ⟨hH, rB, rC⟩ := hall
    (try dsimp only at hH)
    refine wpAnyH_ready (rs := [4, 9, 14]) (by kernel_rfl) (by simp) ?_
    refine arc (some 33) (fun K hK => ?_) ?_
    {
    go_simp
    first | refine oD hK (S9b _ _ _ hH) fun hH hA => ?_ | refine oA hK (S9a _ _ _ hH) fun hH hA => ?_
    clear hK K
    (try simp only [cq])
    obtain ⟨bS, hbA⟩ : ∃ b, Blk.num hA = b := ⟨_, rfl⟩
    obtain ⟨W, hW⟩ : ∃ V, Blk.wld hA = V := ⟨_, rfl⟩
    simp only [Blk.num] at hbA
    simp only [Blk.wld] at hW
    replace rB := IsBu.b rB (show Below _ _ W by rw [← hW]; first | exact (Below.refl _ _).alloc (Nat.le_refl _) _ | exact ((Below.refl _ _).alloc (Nat.le_refl _) _).drew)
    replace rC := IsSp.b rC (show Below _ _ W by rw [← hW]; first | exact (Below.refl _ _).alloc (Nat.le_refl _) _ | exact ((Below.refl _ _).alloc (Nat.le_refl _) _).drew)
    rw [hW] at hH hA ⊢
    rw [hbA] at hA ⊢
    clear hW hbA
    have hAbS := hA
    clear hA
    exact X_2_4_7_12 p2 p7 p12 bS W ⟨hH, hAbS, rB, rC⟩
    }
    refine arc (some 38) (fun K hK => ?_) ?_
    {
    go_simp
    first | refine oD hK (S9b _ _ _ hH) fun hH hA => ?_ | refine oA hK (S9a _ _ _ hH) fun hH hA => ?_
    clear hK K
    (try simp only [cq])
    obtain ⟨bB, hbA⟩ : ∃ b, Blk.num hA = b := ⟨_, rfl⟩
    obtain ⟨W, hW⟩ : ∃ V, Blk.wld hA = V := ⟨_, rfl⟩
    simp only [Blk.num] at hbA
    simp only [Blk.wld] at hW
    replace rB := IsBu.b rB (show Below _ _ W by rw [← hW]; first | exact (Below.refl _ _).alloc (Nat.le_refl _) _ | exact ((Below.refl _ _).alloc (Nat.le_refl _) _).drew)
    replace rC := IsSp.b rC (show Below _ _ W by rw [← hW]; first | exact (Below.refl _ _).alloc (Nat.le_refl _) _ | exact ((Below.refl _ _).alloc (Nat.le_refl _) _).drew)
    rw [hW] at hH hA ⊢
    rw [hbA] at hA ⊢
    clear hW hbA
    have hAbB := hA
    clear hA
    exact X_2_7_9_12 p2 p7 p12 bB W ⟨hH, hAbB, rB, rC⟩
    }
    refine arc (some 43) (fun K hK => ?_) ?_
    {
    go_simp
    (have zc := hH.2.1.choose_spec.lt; refine (colds_in bs _ hH.2.1).mono ?_; rintro e w' ⟨vC, nC, C1, D1, rfl, _, rD, hd⟩; replace rD := ownsRow_base (b1 := bs + 1) rD zc; clear zc; obtain ⟨arC, crC, hvrC, -, -, -⟩ := row_at rD (by omega); subst hvrC; obtain ⟨p14, rfl, rfl, rfl⟩ : ∃ p : Pk, p.a = arC ∧ p.n = nC ∧ p.c = crC := ⟨⟨0, 0, arC, nC, crC⟩, rfl, rfl, rfl⟩; replace rD : IsSp bs w' p14 := ⟨C1, D1, rD⟩)
    replace rB := IsBu.d rB hd
    replace rC := IsSp.d rC hd
    refine hK.out _ _ ?_ ?_
    · (exact ⟨hd.blk hH.1 (by omega), hd.seed, Drawn.below hH.2.2 hd zwbs⟩)
    (try clear hH); (try clear hd)
    intro hH
    clear hK K
    (try simp only [cq])
    exact X_2_7_12_14 p2 p7 p12 p14 w' ⟨hH, rB, rC, rD⟩
    }
    exact AllReadyH.nil
    }
    }
    {
    (try clear hH)
    intro p2 p7 bB W hall
    obtain ⟨hH, hAbB, rB⟩ := hall
    (try dsimp only at hH)
    refine wpAnyH_ready (rs := [4, 12]) (by kernel_rfl) (by simp) ?_
    refine arc (some 33) (fun K hK => ?_) ?_
    {
    go_simp
    first | refine oD hK (S9b _ _ _ hH) fun hH hA => ?_ | refine oA hK (S9a _ _ _ hH) fun hH hA => ?_
    clear hK K
    (try simp only [cq])
    obtain ⟨bS, hbA⟩ : ∃ b, Blk.num hA = b := ⟨_, rfl⟩
    obtain ⟨W, hW⟩ : ∃ V, Blk.wld hA = V := ⟨_, rfl⟩
    simp only [Blk.num] at hbA
    simp only [Blk.wld] at hW
    first | replace hAbB := awB hW hAbB | replace hAbB := awD hW hAbB
    replace rB := IsBu.b rB (show Below _ _ W by rw [← hW]; first | exact (Below.refl _ _).alloc (Nat.le_refl _) _ | exact ((Below.refl _ _).alloc (Nat.le_refl _) _).drew)
    rw [hW] at hH hA ⊢
    rw [hbA] at hA ⊢
    clear hW hbA
    have hAbS := hA
    clear hA
    exact X_2_4_7_9 p2 p7 bS bB W ⟨hH, hAbS, hAbB, rB⟩
    }
    refine arc (some 41) (fun K hK => ?_) ?_
    {
    go_simp
    (have zc := hH.2.1.choose_spec.lt; refine (colds_in bs _ hH.2.1).mono ?_; rintro e w' ⟨vC, nC, C1, D1, rfl, _, rC, hd⟩; replace rC := ownsRow_base (b1 := bs + 1) rC zc; clear zc; obtain ⟨arC, crC, hvrC, -, -, -⟩ := row_at rC (by omega); subst hvrC; obtain ⟨p12, rfl, rfl, rfl⟩ : ∃ p : Pk, p.a = arC ∧ p.n = nC ∧ p.c = crC := ⟨⟨0, 0, arC, nC, crC⟩, rfl, rfl, rfl⟩; replace rC : IsSp bs w' p12 := ⟨C1, D1, rC⟩)
    (replace hAbB := hd.blk hAbB (blk_seed hAbB hH.2.1 (by decide)))
    replace rB := IsBu.d rB hd
    refine hK.out _ _ ?_ ?_
    · (exact ⟨hd.blk hH.1 (by omega), hd.seed, Drawn.below hH.2.2 hd zwbs⟩)
    (try clear hH); (try clear hd)
    intro hH
    clear hK K
    (try simp only [cq])
    exact X_2_7_9_12 p2 p7 p12 bB w' ⟨hH, hAbB, rB, rC⟩
    }
    exact AllReadyH.nil
    }
    }
    {
    (try clear hH)
    intro p2 p7 bS W hall
    obtain ⟨hH, hAbS, rB⟩ := hall
    (try dsimp only at hH)
    refine wpAnyH_ready (rs := [9, 12]) (by kernel_rfl) (by simp) ?_
    refine arc (some 38) (fun K hK => ?_) ?_
    {
    go_simp
    first | refine oD hK (S9b _ _ _ hH) fun hH hA => ?_ | refine oA hK (S9a _ _ _ hH) fun hH hA => ?_
    clear hK K
    (try simp only [cq])
    obtain ⟨bB, hbA⟩ : ∃ b, Blk.num hA = b := ⟨_, rfl⟩
    obtain ⟨W, hW⟩ : ∃ V, Blk.wld hA = V := ⟨_, rfl⟩
    simp only [Blk.num] at hbA
    simp only [Blk.wld] at hW
    first | replace hAbS := awB hW hAbS | replace hAbS := awD hW hAbS
    replace rB := IsBu.b rB (show Below _ _ W by rw [← hW]; first | exact (Below.refl _ _).alloc (Nat.le_refl _) _ | exact ((Below.refl _ _).alloc (Nat.le_refl _) _).drew)
    rw [hW] at hH hA ⊢
    rw [hbA] at hA ⊢
    clear hW hbA
    have hAbB := hA
    clear hA
    exact X_2_4_7_9 p2 p7 bS bB W ⟨hH, hAbS, hAbB, rB⟩
    }
    refine arc (some 41) (fun K hK => ?_) ?_
    {
    go_simp
    (have zc := hH.2.1.choose_spec.lt; refine (colds_in bs _ hH.2.1).mono ?_; rintro e w' ⟨vC, nC, C1, D1, rfl, _, rC, hd⟩; replace rC := ownsRow_base (b1 := bs + 1) rC zc; clear zc; obtain ⟨arC, crC, hvrC, -, -, -⟩ := row_at rC (by omega); subst hvrC; obtain ⟨p12, rfl, rfl, rfl⟩ : ∃ p : Pk, p.a = arC ∧ p.n = nC ∧ p.c = crC := ⟨⟨0, 0, arC, nC, crC⟩, rfl, rfl, rfl⟩; replace rC : IsSp bs w' p12 := ⟨C1, D1, rC⟩)
    (replace hAbS := hd.blk hAbS (blk_seed hAbS hH.2.1 (by decide)))
    replace rB := IsBu.d rB hd
    refine hK.out _ _ ?_ ?_
    · (exact ⟨hd.blk hH.1 (by omega), hd.seed, Drawn.below hH.2.2 hd zwbs⟩)
    (try clear hH); (try clear hd)
    intro hH
    clear hK K
    (try simp only [cq])
    exact X_2_4_7_12 p2 p7 p12 bS w' ⟨hH, hAbS, rB, rC⟩
    }
    exact AllReadyH.nil
    }
    }
    {
    (try clear hH)
    intro p2 p7 p12 p14 W hall
    obtain ⟨hH, rB, rC, rD⟩ := hall
    (try dsimp only at hH)
    refine wpAnyH_ready (rs := [4, 9, 15]) (by kernel_rfl) (by simp) ?_
    refine arc (some 33) (fun K hK => ?_) ?_
    {
    go_simp
    first | refine oD hK (S9b _ _ _ hH) fun hH hA => ?_ | refine oA hK (S9a _ _ _ hH) fun hH hA => ?_
    clear hK K
    (try simp only [cq])
    obtain ⟨bS, hbA⟩ : ∃ b, Blk.num hA = b := ⟨_, rfl⟩
    obtain ⟨W, hW⟩ : ∃ V, Blk.wld hA = V := ⟨_, rfl⟩
    simp only [Blk.num] at hbA
    simp only [Blk.wld] at hW
    replace rB := IsBu.b rB (show Below _ _ W by rw [← hW]; first | exact (Below.refl _ _).alloc (Nat.le_refl _) _ | exact ((Below.refl _ _).alloc (Nat.le_refl _) _).drew)
    replace rC := IsSp.b rC (show Below _ _ W by rw [← hW]; first | exact (Below.refl _ _).alloc (Nat.le_refl _) _ | exact ((Below.refl _ _).alloc (Nat.le_refl _) _).drew)
    replace rD := IsSp.b rD (show Below _ _ W by rw [← hW]; first | exact (Below.refl _ _).alloc (Nat.le_refl _) _ | exact ((Below.refl _ _).alloc (Nat.le_refl _) _).drew)
    rw [hW] at hH hA ⊢
    rw [hbA] at hA ⊢
    clear hW hbA
    have hAbS := hA
    clear hA
    refine tkY 16 (some 10) ?_ ?_ ?_
    rotate_left
    · intro w _; go_simp; (try with_reducible rfl)
    (try simp only [cq])
    exact X_2_4_7_12_14 p2 p7 p12 p14 bS W ⟨hH, hAbS, rB, rC, rD⟩
    }
    refine arc (some 38) (fun K hK => ?_) ?_
    {
    go_simp
    first | refine oD hK (S9b _ _ _ hH) fun hH hA => ?_ | refine oA hK (S9a _ _ _ hH) fun hH hA => ?_
    clear hK K
    (try simp only [cq])
    obtain ⟨bB, hbA⟩ : ∃ b, Blk.num hA = b := ⟨_, rfl⟩
    obtain ⟨W, hW⟩ : ∃ V, Blk.wld hA = V := ⟨_, rfl⟩
    simp only [Blk.num] at hbA
    simp only [Blk.wld] at hW
    replace rB := IsBu.b rB (show Below _ _ W by rw [← hW]; first | exact (Below.refl _ _).alloc (Nat.le_refl _) _ | exact ((Below.refl _ _).alloc (Nat.le_refl _) _).drew)
    replace rC := IsSp.b rC (show Below _ _ W by rw [← hW]; first | exact (Below.refl _ _).alloc (Nat.le_refl _) _ | exact ((Below.refl _ _).alloc (Nat.le_refl _) _).drew)
    replace rD := IsSp.b rD (show Below _ _ W by rw [← hW]; first | exact (Below.refl _ _).alloc (Nat.le_refl _) _ | exact ((Below.refl _ _).alloc (Nat.le_refl _) _).drew)
    rw [hW] at hH hA ⊢
    rw [hbA] at hA ⊢
    clear hW hbA
    have hAbB := hA
    clear hA
    exact X_2_7_9_12_14 p2 p7 p12 p14 bB W ⟨hH, hAbB, rB, rC, rD⟩
    }
    refine arc (some 44) (fun K hK => ?_) ?_
    {
    go_simp
    first | refine oD hK (S9b _ _ _ hH) fun hH hA => ?_ | refine oA hK (S9a _ _ _ hH) fun hH hA => ?_
    clear hK K
    (try simp only [cq])
    obtain ⟨bC, hbA⟩ : ∃ b, Blk.num hA = b := ⟨_, rfl⟩
    obtain ⟨W, hW⟩ : ∃ V, Blk.wld hA = V := ⟨_, rfl⟩
    simp only [Blk.num] at hbA
    simp only [Blk.wld] at hW
    replace rB := IsBu.b rB (show Below _ _ W by rw [← hW]; first | exact (Below.refl _ _).alloc (Nat.le_refl _) _ | exact ((Below.refl _ _).alloc (Nat.le_refl _) _).drew)
    replace rC := IsSp.b rC (show Below _ _ W by rw [← hW]; first | exact (Below.refl _ _).alloc (Nat.le_refl _) _ | exact ((Below.refl _ _).alloc (Nat.le_refl _) _).drew)
    replace rD := IsSp.b rD (show Below _ _ W by rw [← hW]; first | exact (Below.refl _ _).alloc (Nat.le_refl _) _ | exact ((Below.refl _ _).alloc (Nat.le_refl _) _).drew)
    rw [hW] at hH hA ⊢
    rw [hbA] at hA ⊢
    clear hW hbA
    have hAbC := hA
    clear hA
    exact X_2_7_12_14_15 p2 p7 p12 p14 bC W ⟨hH, hAbC, rB, rC, rD⟩
    }
    exact AllReadyH.nil
    }
    }
    {
    (try clear hH)
    intro p2 p7 p12 bB W hall
    obtain ⟨hH, hAbB, rB, rC⟩ := hall
    (try dsimp only at hH)
    refine wpAnyH_ready (rs := [4, 14]) (by kernel_rfl) (by simp) ?_
    refine arc (some 33) (fun K hK => ?_) ?_
    {
    go_simp
    first | refine oD hK (S9b _ _ _ hH) fun hH hA => ?_ | refine oA hK (S9a _ _ _ hH) fun hH hA => ?_
    clear hK K
    (try simp only [cq])
    obtain ⟨bS, hbA⟩ : ∃ b, Blk.num hA = b := ⟨_, rfl⟩
    obtain ⟨W, hW⟩ : ∃ V, Blk.wld hA = V := ⟨_, rfl⟩
    simp only [Blk.num] at hbA
    simp only [Blk.wld] at hW
    first | replace hAbB := awB hW hAbB | replace hAbB := awD hW hAbB
    replace rB := IsBu.b rB (show Below _ _ W by rw [← hW]; first | exact (Below.refl _ _).alloc (Nat.le_refl _) _ | exact ((Below.refl _ _).alloc (Nat.le_refl _) _).drew)
    replace rC := IsSp.b rC (show Below _ _ W by rw [← hW]; first | exact (Below.refl _ _).alloc (Nat.le_refl _) _ | exact ((Below.refl _ _).alloc (Nat.le_refl _) _).drew)
    rw [hW] at hH hA ⊢
    rw [hbA] at hA ⊢
    clear hW hbA
    have hAbS := hA
    clear hA
    exact X_2_4_7_9_12 p2 p7 p12 bS bB W ⟨hH, hAbS, hAbB, rB, rC⟩
    }
    refine arc (some 43) (fun K hK => ?_) ?_
    {
    go_simp
    (have zc := hH.2.1.choose_spec.lt; refine (colds_in bs _ hH.2.1).mono ?_; rintro e w' ⟨vC, nC, C1, D1, rfl, _, rD, hd⟩; replace rD := ownsRow_base (b1 := bs + 1) rD zc; clear zc; obtain ⟨arC, crC, hvrC, -, -, -⟩ := row_at rD (by omega); subst hvrC; obtain ⟨p14, rfl, rfl, rfl⟩ : ∃ p : Pk, p.a = arC ∧ p.n = nC ∧ p.c = crC := ⟨⟨0, 0, arC, nC, crC⟩, rfl, rfl, rfl⟩; replace rD : IsSp bs w' p14 := ⟨C1, D1, rD⟩)
    (replace hAbB := hd.blk hAbB (blk_seed hAbB hH.2.1 (by decide)))
    replace rB := IsBu.d rB hd
    replace rC := IsSp.d rC hd
    refine hK.out _ _ ?_ ?_
    · (exact ⟨hd.blk hH.1 (by omega), hd.seed, Drawn.below hH.2.2 hd zwbs⟩)
    (try clear hH); (try clear hd)
    intro hH
    clear hK K
    (try simp only [cq])
    exact X_2_7_9_12_14 p2 p7 p12 p14 bB w' ⟨hH, hAbB, rB, rC, rD⟩
    }
    exact AllReadyH.nil
    }
    }
    {
    (try clear hH)
    intro p2 p7 p12 bS W hall
    obtain ⟨hH, hAbS, rB, rC⟩ := hall
    (try dsimp only at hH)
    refine wpAnyH_ready (rs := [9, 14]) (by kernel_rfl) (by simp) ?_
    refine arc (some 38) (fun K hK => ?_) ?_
    {
    go_simp
    first | refine oD hK (S9b _ _ _ hH) fun hH hA => ?_ | refine oA hK (S9a _ _ _ hH) fun hH hA => ?_
    clear hK K
    (try simp only [cq])
    obtain ⟨bB, hbA⟩ : ∃ b, Blk.num hA = b := ⟨_, rfl⟩
    obtain ⟨W, hW⟩ : ∃ V, Blk.wld hA = V := ⟨_, rfl⟩
    simp only [Blk.num] at hbA
    simp only [Blk.wld] at hW
    first | replace hAbS := awB hW hAbS | replace hAbS := awD hW hAbS
    replace rB := IsBu.b rB (show Below _ _ W by rw [← hW]; first | exact (Below.refl _ _).alloc (Nat.le_refl _) _ | exact ((Below.refl _ _).alloc (Nat.le_refl _) _).drew)
    replace rC := IsSp.b rC (show Below _ _ W by rw [← hW]; first | exact (Below.refl _ _).alloc (Nat.le_refl _) _ | exact ((Below.refl _ _).alloc (Nat.le_refl _) _).drew)
    rw [hW] at hH hA ⊢
    rw [hbA] at hA ⊢
    clear hW hbA
    have hAbB := hA
    clear hA
    exact X_2_4_7_9_12 p2 p7 p12 bS bB W ⟨hH, hAbS, hAbB, rB, rC⟩
    }
    refine arc (some 43) (fun K hK => ?_) ?_
    {
    go_simp
    (have zc := hH.2.1.choose_spec.lt; refine (colds_in bs _ hH.2.1).mono ?_; rintro e w' ⟨vC, nC, C1, D1, rfl, _, rD, hd⟩; replace rD := ownsRow_base (b1 := bs + 1) rD zc; clear zc; obtain ⟨arC, crC, hvrC, -, -, -⟩ := row_at rD (by omega); subst hvrC; obtain ⟨p14, rfl, rfl, rfl⟩ : ∃ p : Pk, p.a = arC ∧ p.n = nC ∧ p.c = crC := ⟨⟨0, 0, arC, nC, crC⟩, rfl, rfl, rfl⟩; replace rD : IsSp bs w' p14 := ⟨C1, D1, rD⟩)
    (replace hAbS := hd.blk hAbS (blk_seed hAbS hH.2.1 (by decide)))
    replace rB := IsBu.d rB hd
    replace rC := IsSp.d rC hd
    refine hK.out _ _ ?_ ?_
    · (exact ⟨hd.blk hH.1 (by omega), hd.seed, Drawn.below hH.2.2 hd zwbs⟩)
    (try clear hH); (try clear hd)
    intro hH
    clear hK K
    (try simp only [cq])
    refine tkY 16 (some 10) ?_ ?_ ?_
    rotate_left
    · intro w _; go_simp; (try with_reducible rfl)
    (try simp only [cq])
    exact X_2_4_7_12_14 p2 p7 p12 p14 bS w' ⟨hH, hAbS, rB, rC, rD⟩
    }
    exact AllReadyH.nil
    }
    }
    {
    (try clear hH)
    intro p2 p7 bS bB W hall
    obtain ⟨hH, hAbS, hAbB, rB⟩ := hall
    (try dsimp only at hH)
    refine wpAnyH_ready (rs := [12]) (by kernel_rfl) (by simp) ?_
    refine arc1 (some 41) fun K hK => ?_
    go_simp
    (have zc := hH.2.1.choose_spec.lt; refine (colds_in bs _ hH.2.1).mono ?_; rintro e w' ⟨vC, nC, C1, D1, rfl, _, rC, hd⟩; replace rC := ownsRow_base (b1 := bs + 1) rC zc; clear zc; obtain ⟨arC, crC, hvrC, -, -, -⟩ := row_at rC (by omega); subst hvrC; obtain ⟨p12, rfl, rfl, rfl⟩ : ∃ p : Pk, p.a = arC ∧ p.n = nC ∧ p.c = crC := ⟨⟨0, 0, arC, nC, crC⟩, rfl, rfl, rfl⟩; replace rC : IsSp bs w' p12 := ⟨C1, D1, rC⟩)
    (replace hAbS := hd.blk hAbS (blk_seed hAbS hH.2.1 (by decide)))
    (replace hAbB := hd.blk hAbB (blk_seed hAbB hH.2.1 (by decide)))
    replace rB := IsBu.d rB hd
    refine hK.out _ _ ?_ ?_
    · (exact ⟨hd.blk hH.1 (by omega), hd.seed, Drawn.below hH.2.2 hd zwbs⟩)
    (try clear hH); (try clear hd)
    intro hH
    clear hK K
    (try simp only [cq])
    exact X_2_4_7_9_12 p2 p7 p12 bS bB w' ⟨hH, hAbS, hAbB, rB, rC⟩
    }
    }
    {
    (try clear hH)
    intro p2 p7 p12 p14 bC W hall
    obtain ⟨hH, hAbC, rB, rC, rD⟩ := hall
    (try dsimp only at hH)
    refine wpAnyH_ready (rs := [4, 9]) (by kernel_rfl) (by simp) ?_
    refine arc (some 33) (fun K hK => ?_) ?_
    {
    go_simp
    first | refine oD hK (S9b _ _ _ hH) fun hH hA => ?_ | refine oA hK (S9a _ _ _ hH) fun hH hA => ?_
    clear hK K
    (try simp only [cq])
    obtain ⟨bS, hbA⟩ : ∃ b, Blk.num hA = b := ⟨_, rfl⟩
    obtain ⟨W, hW⟩ : ∃ V, Blk.wld hA = V := ⟨_, rfl⟩
    simp only [Blk.num] at hbA
    simp only [Blk.wld] at hW
    first | replace hAbC := awB hW hAbC | replace hAbC := awD hW hAbC
    replace rB := IsBu.b rB (show Below _ _ W by rw [← hW]; first | exact (Below.refl _ _).alloc (Nat.le_refl _) _ | exact ((Below.refl _ _).alloc (Nat.le_refl _) _).drew)
    replace rC := IsSp.b rC (show Below _ _ W by rw [← hW]; first | exact (Below.refl _ _).alloc (Nat.le_refl _) _ | exact ((Below.refl _ _).alloc (Nat.le_refl _) _).drew)
    replace rD := IsSp.b rD (show Below _ _ W by rw [← hW]; first | exact (Below.refl _ _).alloc (Nat.le_refl _) _ | exact ((Below.refl _ _).alloc (Nat.le_refl _) _).drew)
    rw [hW] at hH hA ⊢
    rw [hbA] at hA ⊢
    clear hW hbA
    have hAbS := hA
    clear hA
    refine tkY 16 (some 10) ?_ ?_ ?_
    rotate_left
    · intro w _; go_simp; (try with_reducible rfl)
    (try simp only [cq])
    exact X_2_4_7_12_14_15 p2 p7 p12 p14 bS bC W ⟨hH, hAbS, hAbC, rB, rC, rD⟩
    }
    refine arc (some 38) (fun K hK => ?_) ?_
    {
    go_simp
    first | refine oD hK (S9b _ _ _ hH) fun hH hA => ?_ | refine oA hK (S9a _ _ _ hH) fun hH hA => ?_
    clear hK K
    (try simp only [cq])
    obtain ⟨bB, hbA⟩ : ∃ b, Blk.num hA = b := ⟨_, rfl⟩
    obtain ⟨W, hW⟩ : ∃ V, Blk.wld hA = V := ⟨_, rfl⟩
    simp only [Blk.num] at hbA
    simp only [Blk.wld] at hW
    first | replace hAbC := awB hW hAbC | replace hAbC := awD hW hAbC
    replace rB := IsBu.b rB (show Below _ _ W by rw [← hW]; first | exact (Below.refl _ _).alloc (Nat.le_refl _) _ | exact ((Below.refl _ _).alloc (Nat.le_refl _) _).drew)
    replace rC := IsSp.b rC (show Below _ _ W by rw [← hW]; first | exact (Below.refl _ _).alloc (Nat.le_refl _) _ | exact ((Below.refl _ _).alloc (Nat.le_refl _) _).drew)
    replace rD := IsSp.b rD (show Below _ _ W by rw [← hW]; first | exact (Below.refl _ _).alloc (Nat.le_refl _) _ | exact ((Below.refl _ _).alloc (Nat.le_refl _) _).drew)
    rw [hW] at hH hA ⊢
    rw [hbA] at hA ⊢
    clear hW hbA
    have hAbB := hA
    clear hA
    exact X_2_7_9_12_14_15 p2 p7 p12 p14 bB bC W ⟨hH, hAbB, hAbC, rB, rC, rD⟩
    }
    exact AllReadyH.nil
    }
    }
    {
    (try clear hH)
    intro p2 p7 p12 p14 bB W hall
    obtain ⟨hH, hAbB, rB, rC, rD⟩ := hall
    (try dsimp only at hH)
    refine wpAnyH_ready (rs := [4, 15]) (by kernel_rfl) (by simp) ?_
    refine arc (some 33) (fun K hK => ?_) ?_
    {
    go_simp
    first | refine oD hK (S9b _ _ _ hH) fun hH hA => ?_ | refine oA hK (S9a _ _ _ hH) fun hH hA => ?_
    clear hK K
    (try simp only [cq])
    obtain ⟨bS, hbA⟩ : ∃ b, Blk.num hA = b := ⟨_, rfl⟩
    obtain ⟨W, hW⟩ : ∃ V, Blk.wld hA = V := ⟨_, rfl⟩
    simp only [Blk.num] at hbA
    simp only [Blk.wld] at hW
    first | replace hAbB := awB hW hAbB | replace hAbB := awD hW hAbB
    replace rB := IsBu.b rB (show Below _ _ W by rw [← hW]; first | exact (Below.refl _ _).alloc (Nat.le_refl _) _ | exact ((Below.refl _ _).alloc (Nat.le_refl _) _).drew)
    replace rC := IsSp.b rC (show Below _ _ W by rw [← hW]; first | exact (Below.refl _ _).alloc (Nat.le_refl _) _ | exact ((Below.refl _ _).alloc (Nat.le_refl _) _).drew)
    replace rD := IsSp.b rD (show Below _ _ W by rw [← hW]; first | exact (Below.refl _ _).alloc (Nat.le_refl _) _ | exact ((Below.refl _ _).alloc (Nat.le_refl _) _).drew)
    rw [hW] at hH hA ⊢
    rw [hbA] at hA ⊢
    clear hW hbA
    have hAbS := hA
    clear hA
    refine tkY 16 (some 10) ?_ ?_ ?_
    rotate_left
    · intro w _; go_simp; (try with_reducible rfl)
    (try simp only [cq])
    refine tkY 17 (some 11) ?_ ?_ ?_
    rotate_left
    · intro w _; go_simp; (try with_reducible rfl)
    (try simp only [cq])
    exact X_2_4_7_9_12_14 p2 p7 p12 p14 bS bB W ⟨hH, hAbS, hAbB, rB, rC, rD⟩
    }
    refine arc (some 44) (fun K hK => ?_) ?_
    {
    go_simp
    first | refine oD hK (S9b _ _ _ hH) fun hH hA => ?_ | refine oA hK (S9a _ _ _ hH) fun hH hA => ?_
    clear hK K
    (try simp only [cq])
    obtain ⟨bC, hbA⟩ : ∃ b, Blk.num hA = b := ⟨_, rfl⟩
    obtain ⟨W, hW⟩ : ∃ V, Blk.wld hA = V := ⟨_, rfl⟩
    simp only [Blk.num] at hbA
    simp only [Blk.wld] at hW
    first | replace hAbB := awB hW hAbB | replace hAbB := awD hW hAbB
    replace rB := IsBu.b rB (show Below _ _ W by rw [← hW]; first | exact (Below.refl _ _).alloc (Nat.le_refl _) _ | exact ((Below.refl _ _).alloc (Nat.le_refl _) _).drew)
    replace rC := IsSp.b rC (show Below _ _ W by rw [← hW]; first | exact (Below.refl _ _).alloc (Nat.le_refl _) _ | exact ((Below.refl _ _).alloc (Nat.le_refl _) _).drew)
    replace rD := IsSp.b rD (show Below _ _ W by rw [← hW]; first | exact (Below.refl _ _).alloc (Nat.le_refl _) _ | exact ((Below.refl _ _).alloc (Nat.le_refl _) _).drew)
    rw [hW] at hH hA ⊢
    rw [hbA] at hA ⊢
    clear hW hbA
    have hAbC := hA
    clear hA
    exact X_2_7_9_12_14_15 p2 p7 p12 p14 bB bC W ⟨hH, hAbB, hAbC, rB, rC, rD⟩
    }
    exact AllReadyH.nil
    }
    }
    {
    (try clear hH)
    intro p2 p7 p12 p14 bS W hall
    obtain ⟨hH, hAbS, rB, rC, rD⟩ := hall
    (try dsimp only at hH)
    refine wpAnyH_ready (rs := [9, 15]) (by kernel_rfl) (by simp) ?_
    refine arc (some 38) (fun K hK => ?_) ?_
    {
    go_simp
    first | refine oD hK (S9b _ _ _ hH) fun hH hA => ?_ | refine oA hK (S9a _ _ _ hH) fun hH hA => ?_
    clear hK K
    (try simp only [cq])
    obtain ⟨bB, hbA⟩ : ∃ b, Blk.num hA = b := ⟨_, rfl⟩
    obtain ⟨W, hW⟩ : ∃ V, Blk.wld hA = V := ⟨_, rfl⟩
    simp only [Blk.num] at hbA
    simp only [Blk.wld] at hW
    first | replace hAbS := awB hW hAbS | replace hAbS := awD hW hAbS
    replace rB := IsBu.b rB (show Below _ _ W by rw [← hW]; first | exact (Below.refl _ _).alloc (Nat.le_refl _) _ | exact ((Below.refl _ _).alloc (Nat.le_refl _) _).drew)
    replace rC := IsSp.b rC (show Below _ _ W by rw [← hW]; first | exact (Below.refl _ _).alloc (Nat.le_refl _) _ | exact ((Below.refl _ _).alloc (Nat.le_refl _) _).drew)
    replace rD := IsSp.b rD (show Below _ _ W by rw [← hW]; first | exact (Below.refl _ _).alloc (Nat.le_refl _) _ | exact ((Below.refl _ _).alloc (Nat.le_refl _) _).drew)
    rw [hW] at hH hA ⊢
    rw [hbA] at hA ⊢
    clear hW hbA
    have hAbB := hA
    clear hA
    refine tkY 17 (some 11) ?_ ?_ ?_
    rotate_left
    · intro w _; go_simp; (try with_reducible rfl)
    (try simp only [cq])
    exact X_2_4_7_9_12_14 p2 p7 p12 p14 bS bB W ⟨hH, hAbS, hAbB, rB, rC, rD⟩
    }
    refine arc (some 44) (fun K hK => ?_) ?_
    {
    go_simp
    first | refine oD hK (S9b _ _ _ hH) fun hH hA => ?_ | refine oA hK (S9a _ _ _ hH) fun hH hA => ?_
    clear hK K
    (try simp only [cq])
    obtain ⟨bC, hbA⟩ : ∃ b, Blk.num hA = b := ⟨_, rfl⟩
    obtain ⟨W, hW⟩ : ∃ V, Blk.wld hA = V := ⟨_, rfl⟩
    simp only [Blk.num] at hbA
    simp only [Blk.wld] at hW
    first | replace hAbS := awB hW hAbS | replace hAbS := awD hW hAbS
    replace rB := IsBu.b rB (show Below _ _ W by rw [← hW]; first | exact (Below.refl _ _).alloc (Nat.le_refl _) _ | exact ((Below.refl _ _).alloc (Nat.le_refl _) _).drew)
    replace rC := IsSp.b rC (show Below _ _ W by rw [← hW]; first | exact (Below.refl _ _).alloc (Nat.le_refl _) _ | exact ((Below.refl _ _).alloc (Nat.le_refl _) _).drew)
    replace rD := IsSp.b rD (show Below _ _ W by rw [← hW]; first | exact (Below.refl _ _).alloc (Nat.le_refl _) _ | exact ((Below.refl _ _).alloc (Nat.le_refl _) _).drew)
    rw [hW] at hH hA ⊢
    rw [hbA] at hA ⊢
    clear hW hbA
    have hAbC := hA
    clear hA
    exact X_2_4_7_12_14_15 p2 p7 p12 p14 bS bC W ⟨hH, hAbS, hAbC, rB, rC, rD⟩
    }
    exact AllReadyH.nil
    }
    }
    {
    (try clear hH)
    intro p2 p7 p12 bS bB W hall
    obtain ⟨hH, hAbS, hAbB, rB, rC⟩ := hall
    (try dsimp only at hH)
    refine wpAnyH_ready (rs := [14]) (by kernel_rfl) (by simp) ?_
    refine arc1 (some 43) fun K hK => ?_
    go_simp
    (have zc := hH.2.1.choose_spec.lt; refine (colds_in bs _ hH.2.1).mono ?_; rintro e w' ⟨vC, nC, C1, D1, rfl, _, rD, hd⟩; replace rD := ownsRow_base (b1 := bs + 1) rD zc; clear zc; obtain ⟨arC, crC, hvrC, -, -, -⟩ := row_at rD (by omega); subst hvrC; obtain ⟨p14, rfl, rfl, rfl⟩ : ∃ p : Pk, p.a = arC ∧ p.n = nC ∧ p.c = crC := ⟨⟨0, 0, arC, nC, crC⟩, rfl, rfl, rfl⟩; replace rD : IsSp bs w' p14 := ⟨C1, D1, rD⟩)
    (replace hAbS := hd.blk hAbS (blk_seed hAbS hH.2.1 (by decide)))
    (replace hAbB := hd.blk hAbB (blk_seed hAbB hH.2.1 (by decide)))
    replace rB := IsBu.d rB hd
    replace rC := IsSp.d rC hd
    refine hK.out _ _ ?_ ?_
    · (exact ⟨hd.blk hH.1 (by omega), hd.seed, Drawn.below hH.2.2 hd zwbs⟩)
    (try clear hH); (try clear hd)
    intro hH
    clear hK K
    (try simp only [cq])
    refine tkY 16 (some 10) ?_ ?_ ?_
    rotate_left
    · intro w _; go_simp; (try with_reducible rfl)
    (try simp only [cq])
    refine tkY 17 (some 11) ?_ ?_ ?_
    rotate_left
    · intro w _; go_simp; (try with_reducible rfl)
    (try simp only [cq])
    exact X_2_4_7_9_12_14 p2 p7 p12 p14 bS bB w' ⟨hH, hAbS, hAbB, rB, rC, rD⟩
    }
    }
    {
    (try clear hH)
    intro p2 p7 p12 p14 bB bC W hall
    obtain ⟨hH, hAbB, hAbC, rB, rC, rD⟩ := hall
    (try dsimp only at hH)
    refine wpAnyH_ready (rs := [4]) (by kernel_rfl) (by simp) ?_
    refine arc1 (some 33) fun K hK => ?_
    go_simp
    first | refine oD hK (S9b _ _ _ hH) fun hH hA => ?_ | refine oA hK (S9a _ _ _ hH) fun hH hA => ?_
    clear hK K
    (try simp only [cq])
    obtain ⟨bS, hbA⟩ : ∃ b, Blk.num hA = b := ⟨_, rfl⟩
    obtain ⟨W, hW⟩ : ∃ V, Blk.wld hA = V := ⟨_, rfl⟩
    simp only [Blk.num] at hbA
    simp only [Blk.wld] at hW
    first | replace hAbB := awB hW hAbB | replace hAbB := awD hW hAbB
    first | replace hAbC := awB hW hAbC | replace hAbC := awD hW hAbC
    replace rB := IsBu.b rB (show Below _ _ W by rw [← hW]; first | exact (Below.refl _ _).alloc (Nat.le_refl _) _ | exact ((Below.refl _ _).alloc (Nat.le_refl _) _).drew)
    replace rC := IsSp.b rC (show Below _ _ W by rw [← hW]; first | exact (Below.refl _ _).alloc (Nat.le_refl _) _ | exact ((Below.refl _ _).alloc (Nat.le_refl _) _).drew)
    replace rD := IsSp.b rD (show Below _ _ W by rw [← hW]; first | exact (Below.refl _ _).alloc (Nat.le_refl _) _ | exact ((Below.refl _ _).alloc (Nat.le_refl _) _).drew)
    rw [hW] at hH hA ⊢
    rw [hbA] at hA ⊢
    clear hW hbA
    have hAbS := hA
    clear hA
    refine tkY 16 (some 10) ?_ ?_ ?_
    rotate_left
    · intro w _; go_simp; (try with_reducible rfl)
    (try simp only [cq])
    refine tkY 17 (some 11) ?_ ?_ ?_
    rotate_left
    · intro w _; go_simp; (try with_reducible rfl)
    (try simp only [cq])
    refine tkY 18 (some 12) ?_ ?_ ?_
    rotate_left
    · intro w _; go_simp; (try with_reducible rfl)
    (try simp only [cq])
    exact X_2_4_7_9_12_14_15 p2 p7 p12 p14 bS bB bC W ⟨hH, hAbS, hAbB, hAbC, rB, rC, rD⟩
    }
    }
    {
    (try clear hH)
    intro p2 p7 p12 p14 bS bC W hall
    obtain ⟨hH, hAbS, hAbC, rB, rC, rD⟩ := hall
    (try dsimp only at hH)
    refine wpAnyH_ready (rs := [9]) (by kernel_rfl) (by simp) ?_
    refine arc1 (some 38) fun K hK => ?_
    go_simp
    first | refine oD hK (S9b _ _ _ hH) fun hH hA => ?_ | refine oA hK (S9a _ _ _ hH) fun hH hA => ?_
    clear hK K
    (try simp only [cq])
    obtain ⟨bB, hbA⟩ : ∃ b, Blk.num hA = b := ⟨_, rfl⟩
    obtain ⟨W, hW⟩ : ∃ V, Blk.wld hA = V := ⟨_, rfl⟩
    simp only [Blk.num] at hbA
    simp only [Blk.wld] at hW
    first | replace hAbS := awB hW hAbS | replace hAbS := awD hW hAbS
    first | replace hAbC := awB hW hAbC | replace hAbC := awD hW hAbC
    replace rB := IsBu.b rB (show Below _ _ W by rw [← hW]; first | exact (Below.refl _ _).alloc (Nat.le_refl _) _ | exact ((Below.refl _ _).alloc (Nat.le_refl _) _).drew)
    replace rC := IsSp.b rC (show Below _ _ W by rw [← hW]; first | exact (Below.refl _ _).alloc (Nat.le_refl _) _ | exact ((Below.refl _ _).alloc (Nat.le_refl _) _).drew)
    replace rD := IsSp.b rD (show Below _ _ W by rw [← hW]; first | exact (Below.refl _ _).alloc (Nat.le_refl _) _ | exact ((Below.refl _ _).alloc (Nat.le_refl _) _).drew)
    rw [hW] at hH hA ⊢
    rw [hbA] at hA ⊢
    clear hW hbA
    have hAbB := hA
    clear hA
    refine tkY 17 (some 11) ?_ ?_ ?_
    rotate_left
    · intro w _; go_simp; (try with_reducible rfl)
    (try simp only [cq])
    refine tkY 18 (some 12) ?_ ?_ ?_
    rotate_left
    · intro w _; go_simp; (try with_reducible rfl)
    (try simp only [cq])
    exact X_2_4_7_9_12_14_15 p2 p7 p12 p14 bS bB bC W ⟨hH, hAbS, hAbB, hAbC, rB, rC, rD⟩
    }
    }
    {
    (try clear hH)
    intro p2 p7 p12 p14 bS bB W hall
    obtain ⟨hH, hAbS, hAbB, rB, rC, rD⟩ := hall
    (try dsimp only at hH)
    refine wpAnyH_ready (rs := [15]) (by kernel_rfl) (by simp) ?_
    refine arc1 (some 44) fun K hK => ?_
    go_simp
    first | refine oD hK (S9b _ _ _ hH) fun hH hA => ?_ | refine oA hK (S9a _ _ _ hH) fun hH hA => ?_
    clear hK K
    (try simp only [cq])
    obtain ⟨bC, hbA⟩ : ∃ b, Blk.num hA = b := ⟨_, rfl⟩
    obtain ⟨W, hW⟩ : ∃ V, Blk.wld hA = V := ⟨_, rfl⟩
    simp only [Blk.num] at hbA
    simp only [Blk.wld] at hW
    first | replace hAbS := awB hW hAbS | replace hAbS := awD hW hAbS
    first | replace hAbB := awB hW hAbB | replace hAbB := awD hW hAbB
    replace rB := IsBu.b rB (show Below _ _ W by rw [← hW]; first | exact (Below.refl _ _).alloc (Nat.le_refl _) _ | exact ((Below.refl _ _).alloc (Nat.le_refl _) _).drew)
    replace rC := IsSp.b rC (show Below _ _ W by rw [← hW]; first | exact (Below.refl _ _).alloc (Nat.le_refl _) _ | exact ((Below.refl _ _).alloc (Nat.le_refl _) _).drew)
    replace rD := IsSp.b rD (show Below _ _ W by rw [← hW]; first | exact (Below.refl _ _).alloc (Nat.le_refl _) _ | exact ((Below.refl _ _).alloc (Nat.le_refl _) _).drew)
    rw [hW] at hH hA ⊢
    rw [hbA] at hA ⊢
    clear hW hbA
    have hAbC := hA
    clear hA
    refine tkY 18 (some 12) ?_ ?_ ?_
    rotate_left
    · intro w _; go_simp; (try with_reducible rfl)
    (try simp only [cq])
    exact X_2_4_7_9_12_14_15 p2 p7 p12 p14 bS bB bC W ⟨hH, hAbS, hAbB, hAbC, rB, rC, rD⟩
    }
    }
    {
    (try clear hH)
    intro p2 p7 p12 p14 bS bB bC W hall
    obtain ⟨hH, hAbS, hAbB, hAbC, rB, rC, rD⟩ := hall
    (try dsimp only at hH)
    refine wpAnyH_done (by kernel_rfl) ?_ _
    (try dsimp only [Act.put])
    (try simp only [cq])
    have kB := hH.2.2
    clear hH
    obtain ⟨UB, rB⟩ := rB
    obtain ⟨C1, D1, rC⟩ := rC
    obtain ⟨C2, D2, rD⟩ := rD
    go_wp2_with fail
    go_meet
    exact ⟨bS, bB, bC, rfl, rfl, rfl, fun k hk => by
      obtain rfl | rfl | rfl : k = 0 ∨ k = 1 ∨ k = 2 := by omega
      · exact ⟨l0, l1, _, n, U, _, m, C, D, hAbS.cell 0 rfl, hAbS.cell 1 rfl, hAbB.cell 0 rfl, HU.out _ kB, hAbC.cell 0 rfl, HC.out _ kB⟩
      · exact ⟨p2.x, p2.y, _, p7.n, UB, _, p12.n, C1, D1, hAbS.cell 2 rfl, hAbS.cell 3 rfl, hAbB.cell 1 rfl, lat_of_row rB (by omega) (fun i _ => rfl), hAbC.cell 1 rfl, lat_of_row rC (by omega) (fun i _ => rfl)⟩
      · exact ⟨l0, l1, _, n, U, _, p14.n, C2, D2, hAbS.cell 4 rfl, hAbS.cell 5 rfl, hAbB.cell 2 rfl, HU.out _ kB, hAbC.cell 2 rfl, lat_of_row rD (by omega) (fun i _ => rfl)⟩, kB⟩
    }
  case rest =>
    clear jL jB hS HU HC
    obtain ⟨bS, bB, bC, rfl, rfl, rfl, hG, jB⟩ := hcut
    obtain ⟨V, hV⟩ : ∃ V, belW jB = V := ⟨_, rfl⟩
    simp only [belW] at hV
    rw [hV] at hG jB ⊢
    clear hV
    have HG := Lib.hid hG
    clear hG
    have HB0 := Lib.hid jB
    clear jB
    go_wp2_with fail
    go_loopw [13] (fun i wr => ∃ k : Nat, k ≤ 3 ∧ i = .int .i64 k ∧ Below V.heap.size V wr) (fun i _ => 3 - (intOf i).toNat)
    case atStart => exact ⟨0, by omega, rfl, Below.refl _ _⟩
    case round =>
      obtain ⟨k, hk, rfl, hB⟩ := hrel
      by_cases hlt : k < 3
      · obtain ⟨a, b, vU, nU, U, vC, m, C, D, g1, g2, g3, g4, g5, g6⟩ := HG.out k hlt
        have hltI : (k : Int) < 3 := by omega
        have HV := Lib.hid (fun (W : World) (h : Below V.heap.size V W) => And.intro (cell_later h g1) (And.intro (cell_later h g2) (And.intro (cell_later h g3) (cell_later h g5))))
        have K0 := Lib.hid (fun (W : World) (h : Below V.heap.size V W) => lasts_eq a b nU U vU m C D vC W (g4.later h) (g6.later h))
        have K1 := Lib.hid (fun (W : World) (h : Below V.heap.size V W) => rlasts_eq a b nU U vU m C D vC W (g4.later h) (g6.later h))
        clear g1 g2 g3 g4 g5 g6 HG
        generalize lasP a b nU U m C D = P at K0 K1
        generalize lasQ a b nU U m C D = Q at K0 K1
        generalize lasE a b nU U m C D = E at K0 K1
        go_upto_region 8 with fail
        go_cut [14, 15] from 45 to 90 (fun s14 s15 wx => ∃ bX : Nat, s14 = .pointer (some ⟨bX, 0, none⟩) ∧ s15 = .int .i64 E ∧ Blk wx bX #[.int .i64 P, .int .i64 Q] 26 ∧ Below V.heap.size V wx)
        case first =>
          as_aux_lemma =>
          (
 let S9 : World → Prop := (fun wx => Below V.heap.size V wx)
 refine wp_region_held_drew (S := S9) (by kernel_rfl) ?_ (fun hH => ?_)
 · (try dsimp only); (exact hB.drew)
 apply share0 (fun (bA : Nat) (W : World) => S9 W ∧ Blk W bA #[.int .i64 0, .int .i64 0] 26 ∧ (V.heap.size ≤ bA))
 {
 intro X1
 apply share0 (fun (bA : Nat) (W : World) => S9 W ∧ Blk W bA #[.int .i64 0, .int .i64 0] 26 ∧ (V.heap.size ≤ bA))
 {
 intro X0
 refine tkY 0 (some 52) ?_ ?_ ?_
 rotate_left
 · intro w _; go_simp; (try with_reducible rfl)
 (try simp only [cq])
 refine tkY 1 (some 53) ?_ ?_ ?_
 rotate_left
 · intro w _; go_simp; (try with_reducible rfl)
 (try simp only [cq])
 refine tkY 2 (some 54) ?_ ?_ ?_
 rotate_left
 · intro w hS0; (try dsimp only at hS0); have hSb := hS0; obtain ⟨r1, r2, r3, r4⟩ := HV.out _ hSb; have y1 := World.block_lt_of_cell? _ _ r1; have y2 := World.block_lt_of_cell? _ _ r3; have y3 := World.block_lt_of_cell? _ _ r4;go_simp; (try with_reducible rfl)
 (try simp only [cq])
 refine tkY 3 (some 55) ?_ ?_ ?_
 rotate_left
 · intro w hS0; (try dsimp only at hS0); have hSb := hS0; obtain ⟨r1, r2, r3, r4⟩ := HV.out _ hSb; have y1 := World.block_lt_of_cell? _ _ r1; have y2 := World.block_lt_of_cell? _ _ r3; have y3 := World.block_lt_of_cell? _ _ r4;go_simp; (try with_reducible rfl)
 (try simp only [cq])
 refine tkY 4 (some 56) ?_ ?_ ?_
 rotate_left
 · intro w _; go_simp; (try with_reducible rfl)
 (try simp only [cq])
 refine tkY 5 (some 57) ?_ ?_ ?_
 rotate_left
 · intro w _; go_simp; (try with_reducible rfl)
 (try simp only [cq])
 refine tkY 6 (some 58) ?_ ?_ ?_
 rotate_left
 · intro w hS0; (try dsimp only at hS0); have hSb := hS0; obtain ⟨r1, r2, r3, r4⟩ := HV.out _ hSb; have y1 := World.block_lt_of_cell? _ _ r1; have y2 := World.block_lt_of_cell? _ _ r3; have y3 := World.block_lt_of_cell? _ _ r4;go_simp; (try with_reducible rfl)
 (try simp only [cq])
 refine tkY 7 (some 59) ?_ ?_ ?_
 rotate_left
 · intro w hS0; (try dsimp only at hS0); have hSb := hS0; obtain ⟨r1, r2, r3, r4⟩ := HV.out _ hSb; have y1 := World.block_lt_of_cell? _ _ r1; have y2 := World.block_lt_of_cell? _ _ r3; have y3 := World.block_lt_of_cell? _ _ r4;go_simp; (try with_reducible rfl)
 (try simp only [cq])
 refine tkY 8 (some 60) ?_ ?_ ?_
 rotate_left
 · intro w _; go_simp; (try with_reducible rfl)
 (try simp only [cq])
 refine tkY 9 (some 61) ?_ ?_ ?_
 rotate_left
 · intro w _; go_simp; (try with_reducible rfl)
 (try simp only [cq])
 refine tkY 10 (some 62) ?_ ?_ ?_
 rotate_left
 · intro w hS0; (try dsimp only at hS0); have hSb := hS0; obtain ⟨r1, r2, r3, r4⟩ := HV.out _ hSb; have y1 := World.block_lt_of_cell? _ _ r1; have y2 := World.block_lt_of_cell? _ _ r3; have y3 := World.block_lt_of_cell? _ _ r4;go_simp; (try with_reducible rfl)
 (try simp only [cq])
 refine tkY 11 (some 63) ?_ ?_ ?_
 rotate_left
 · intro w hS0; (try dsimp only at hS0); have hSb := hS0; obtain ⟨r1, r2, r3, r4⟩ := HV.out _ hSb; have y1 := World.block_lt_of_cell? _ _ r1; have y2 := World.block_lt_of_cell? _ _ r3; have y3 := World.block_lt_of_cell? _ _ r4;go_simp; (try with_reducible rfl)
 (try simp only [cq])
 refine wpAnyH_ready (rs := [12, 16]) (by kernel_rfl) (by simp) ?_
 refine arc (some 64) (fun K hK => ?_) ?_
 {
 go_simp
 (refine (K0.out _ hH).mono ?_; rintro e w' ⟨rfl, hbc⟩; (try replace hA := hA.call hbc))
 refine hK.out _ _ ?_ ?_
 · (exact hH.trans (hbc.mono hH.size))
 (try clear hH); (try clear hbc)
 intro hH
 clear hK K
 (try simp only [cq])
 refine tkY 13 (some 51) ?_ ?_ ?_
 rotate_left
 · intro w _; go_simp; (try with_reducible rfl)
 (try simp only [cq])
 refine tkY 14 (some 65) ?_ ?_ ?_
 rotate_left
 · intro w _; go_simp; (try with_reducible rfl)
 (try simp only [cq])
 refine tkY 15 (some 66) ?_ ?_ ?_
 rotate_left
 · intro w _; go_simp; (try with_reducible rfl)
 (try simp only [cq])
 refine wpAnyH_ready (rs := [16]) (by kernel_rfl) (by simp) ?_
 refine arc1 (some 14) fun K hK => ?_
 (have hN1 := hH.size; (try simp only [World.drew] at hN1))
 go_simp
 first | refine oA hK ?_ (fun hH hA => ?_) | refine oD hK ?_ (fun hH hA => ?_)
 · exact hH.alloc hH.size _
 clear hK K
 (try simp only [cq])
 obtain ⟨bA, hbA⟩ : ∃ b, Blk.num hA = b := ⟨_, rfl⟩
 obtain ⟨W, hW⟩ : ∃ V, Blk.wld hA = V := ⟨_, rfl⟩
 simp only [Blk.num] at hbA
 simp only [Blk.wld] at hW
 rw [hW] at hH hA ⊢
 rw [hbA] at hA ⊢
 replace hN1 : V.heap.size ≤ bA := (by rw [← hbA]; exact hN1)
 clear hW hbA
 exact X1  bA W ⟨hH, hA, hN1⟩
 }
 refine arc (some 14) (fun K hK => ?_) ?_
 {
 (have hN1 := hH.size; (try simp only [World.drew] at hN1))
 go_simp
 first | refine oA hK ?_ (fun hH hA => ?_) | refine oD hK ?_ (fun hH hA => ?_)
 · exact hH.alloc hH.size _
 clear hK K
 (try simp only [cq])
 obtain ⟨bA, hbA⟩ : ∃ b, Blk.num hA = b := ⟨_, rfl⟩
 obtain ⟨W, hW⟩ : ∃ V, Blk.wld hA = V := ⟨_, rfl⟩
 simp only [Blk.num] at hbA
 simp only [Blk.wld] at hW
 rw [hW] at hH hA ⊢
 rw [hbA] at hA ⊢
 replace hN1 : V.heap.size ≤ bA := (by rw [← hbA]; exact hN1)
 clear hW hbA
 exact X0  bA W ⟨hH, hA, hN1⟩
 }
 exact AllReadyH.nil
 }
 {
 intro bA W hall
 obtain ⟨hH, hA, hN1⟩ := hall
 (try dsimp only at hH)
 refine wpAnyH_ready (rs := [12]) (by kernel_rfl) (by simp) ?_
 refine arc1 (some 64) fun K hK => ?_
 go_simp
 (refine (K0.out _ hH).mono ?_; rintro e w' ⟨rfl, hbc⟩; (try replace hA := hA.call hbc))
 refine hK.out _ _ ?_ ?_
 · (exact hH.trans (hbc.mono hH.size))
 (try clear hH); (try clear hbc)
 intro hH
 clear hK K
 (try simp only [cq])
 refine tkY 13 (some 51) ?_ ?_ ?_
 rotate_left
 · intro w _; go_simp; (try with_reducible rfl)
 (try simp only [cq])
 refine tkY 14 (some 65) ?_ ?_ ?_
 rotate_left
 · intro w _; go_simp; (try with_reducible rfl)
 (try simp only [cq])
 refine tkY 15 (some 66) ?_ ?_ ?_
 rotate_left
 · intro w _; go_simp; (try with_reducible rfl)
 (try simp only [cq])
 exact X1  bA w' ⟨hH, hA, hN1⟩
 }
 }
 {
 intro bA W hall
 obtain ⟨hH, hA, hN1⟩ := hall
 (try dsimp only at hH)
 refine wpAnyH_ready (rs := [17]) (by kernel_rfl) (by simp) ?_
 refine arc1 none fun K hK => ?_
 obtain ⟨r0, r1⟩ := hA.c2
 have fr0 := hA.free 0
 have fr1 := hA.free 1
 have zR := hA.lt
 have HS := Lib.hid (show Blk _ bA #[.int .i64 P, .int .i64 Q] _ from (hA.set 0 (.int .i64 P)).set 1 (.int .i64 Q))
 go_simp
 refine hK.out _ _ ?_ ?_
 · exact below_set2 hH hN1 _ _
 (try clear hH); (try clear hbc)
 intro hH
 clear hK K
 (try simp only [cq])
 refine tkY 18 (some 15) ?_ ?_ ?_
 rotate_left
 · intro w _; go_simp; (try with_reducible rfl)
 (try simp only [cq])
 refine wpAnyH_done (by kernel_rfl) ?_ _
 (try dsimp only [Act.put])
 (try simp only [cq])
 clear hA r0 r1 fr0 fr1 zR
 go_wp2_with fail
 go_meet
 exact ⟨_, rfl, rfl, HS.out, hH⟩
 } )
        case rest =>
          clear hB K0
          obtain ⟨bX, rfl, rfl, kX, hB⟩ := hcut
          go_upto_region 9 with fail
          go_cut [16, 17] from 45 to 90 (fun s16 s17 wx => ∃ bY : Nat, s16 = .pointer (some ⟨bY, 0, none⟩) ∧ s17 = .int .i64 E ∧ Blk wx bY #[.int .i64 P, .int .i64 Q] 26 ∧ Blk wx bX #[.int .i64 P, .int .i64 Q] 26 ∧ Below V.heap.size V wx)
          case first =>
            as_aux_lemma =>
            (
 let S9 : World → Prop := (fun wx => Below V.heap.size V wx ∧ Blk wx bX #[.int .i64 P, .int .i64 Q] 26)
 refine wp_region_held_drew (S := S9) (by kernel_rfl) ?_ (fun hH => ?_)
 · (try dsimp only); (exact ⟨hB.drew, kX.drew⟩)
 apply share0 (fun (bA : Nat) (W : World) => S9 W ∧ Blk W bA #[.int .i64 0, .int .i64 0] 26 ∧ (V.heap.size ≤ bA) ∧ (bX < bA))
 {
 intro X1
 apply share0 (fun (bA : Nat) (W : World) => S9 W ∧ Blk W bA #[.int .i64 0, .int .i64 0] 26 ∧ (V.heap.size ≤ bA) ∧ (bX < bA))
 {
 intro X0
 refine tkY 0 (some 68) ?_ ?_ ?_
 rotate_left
 · intro w _; go_simp; (try with_reducible rfl)
 (try simp only [cq])
 refine tkY 1 (some 69) ?_ ?_ ?_
 rotate_left
 · intro w _; go_simp; (try with_reducible rfl)
 (try simp only [cq])
 refine tkY 2 (some 70) ?_ ?_ ?_
 rotate_left
 · intro w hS0; (try dsimp only at hS0); have hSb := hS0.1; obtain ⟨r1, r2, r3, r4⟩ := HV.out _ hSb; have y1 := World.block_lt_of_cell? _ _ r1; have y2 := World.block_lt_of_cell? _ _ r3; have y3 := World.block_lt_of_cell? _ _ r4;go_simp; (try with_reducible rfl)
 (try simp only [cq])
 refine tkY 3 (some 71) ?_ ?_ ?_
 rotate_left
 · intro w hS0; (try dsimp only at hS0); have hSb := hS0.1; obtain ⟨r1, r2, r3, r4⟩ := HV.out _ hSb; have y1 := World.block_lt_of_cell? _ _ r1; have y2 := World.block_lt_of_cell? _ _ r3; have y3 := World.block_lt_of_cell? _ _ r4;go_simp; (try with_reducible rfl)
 (try simp only [cq])
 refine tkY 4 (some 72) ?_ ?_ ?_
 rotate_left
 · intro w _; go_simp; (try with_reducible rfl)
 (try simp only [cq])
 refine tkY 5 (some 73) ?_ ?_ ?_
 rotate_left
 · intro w _; go_simp; (try with_reducible rfl)
 (try simp only [cq])
 refine tkY 6 (some 74) ?_ ?_ ?_
 rotate_left
 · intro w hS0; (try dsimp only at hS0); have hSb := hS0.1; obtain ⟨r1, r2, r3, r4⟩ := HV.out _ hSb; have y1 := World.block_lt_of_cell? _ _ r1; have y2 := World.block_lt_of_cell? _ _ r3; have y3 := World.block_lt_of_cell? _ _ r4;go_simp; (try with_reducible rfl)
 (try simp only [cq])
 refine tkY 7 (some 75) ?_ ?_ ?_
 rotate_left
 · intro w hS0; (try dsimp only at hS0); have hSb := hS0.1; obtain ⟨r1, r2, r3, r4⟩ := HV.out _ hSb; have y1 := World.block_lt_of_cell? _ _ r1; have y2 := World.block_lt_of_cell? _ _ r3; have y3 := World.block_lt_of_cell? _ _ r4;go_simp; (try with_reducible rfl)
 (try simp only [cq])
 refine tkY 8 (some 76) ?_ ?_ ?_
 rotate_left
 · intro w _; go_simp; (try with_reducible rfl)
 (try simp only [cq])
 refine tkY 9 (some 77) ?_ ?_ ?_
 rotate_left
 · intro w _; go_simp; (try with_reducible rfl)
 (try simp only [cq])
 refine tkY 10 (some 78) ?_ ?_ ?_
 rotate_left
 · intro w hS0; (try dsimp only at hS0); have hSb := hS0.1; obtain ⟨r1, r2, r3, r4⟩ := HV.out _ hSb; have y1 := World.block_lt_of_cell? _ _ r1; have y2 := World.block_lt_of_cell? _ _ r3; have y3 := World.block_lt_of_cell? _ _ r4;go_simp; (try with_reducible rfl)
 (try simp only [cq])
 refine tkY 11 (some 79) ?_ ?_ ?_
 rotate_left
 · intro w hS0; (try dsimp only at hS0); have hSb := hS0.1; obtain ⟨r1, r2, r3, r4⟩ := HV.out _ hSb; have y1 := World.block_lt_of_cell? _ _ r1; have y2 := World.block_lt_of_cell? _ _ r3; have y3 := World.block_lt_of_cell? _ _ r4;go_simp; (try with_reducible rfl)
 (try simp only [cq])
 refine wpAnyH_ready (rs := [12, 16]) (by kernel_rfl) (by simp) ?_
 refine arc (some 80) (fun K hK => ?_) ?_
 {
 go_simp
 (refine (K1.out _ hH.1).mono ?_; rintro e w' ⟨rfl, hbc⟩; (try replace hA := hA.call hbc))
 refine hK.out _ _ ?_ ?_
 · (exact ⟨hH.1.trans (hbc.mono hH.1.size), hH.2.call hbc⟩)
 (try clear hH); (try clear hbc)
 intro hH
 clear hK K
 (try simp only [cq])
 refine tkY 13 (some 67) ?_ ?_ ?_
 rotate_left
 · intro w _; go_simp; (try with_reducible rfl)
 (try simp only [cq])
 refine tkY 14 (some 81) ?_ ?_ ?_
 rotate_left
 · intro w _; go_simp; (try with_reducible rfl)
 (try simp only [cq])
 refine tkY 15 (some 82) ?_ ?_ ?_
 rotate_left
 · intro w _; go_simp; (try with_reducible rfl)
 (try simp only [cq])
 refine wpAnyH_ready (rs := [16]) (by kernel_rfl) (by simp) ?_
 refine arc1 (some 16) fun K hK => ?_
 (have hN1 := hH.1.size; (try simp only [World.drew] at hN1)); (have hN2 := hH.2.lt; (try simp only [World.drew] at hN2))
 go_simp
 first | refine oA hK ?_ (fun hH hA => ?_) | refine oD hK ?_ (fun hH hA => ?_)
 · exact ⟨hH.1.alloc hH.1.size _, hH.2.alloc _⟩
 clear hK K
 (try simp only [cq])
 obtain ⟨bA, hbA⟩ : ∃ b, Blk.num hA = b := ⟨_, rfl⟩
 obtain ⟨W, hW⟩ : ∃ V, Blk.wld hA = V := ⟨_, rfl⟩
 simp only [Blk.num] at hbA
 simp only [Blk.wld] at hW
 rw [hW] at hH hA ⊢
 rw [hbA] at hA ⊢
 replace hN1 : V.heap.size ≤ bA := (by rw [← hbA]; exact hN1)
 replace hN2 : bX < bA := (by rw [← hbA]; exact hN2)
 clear hW hbA
 exact X1  bA W ⟨hH, hA, hN1, hN2⟩
 }
 refine arc (some 16) (fun K hK => ?_) ?_
 {
 (have hN1 := hH.1.size; (try simp only [World.drew] at hN1)); (have hN2 := hH.2.lt; (try simp only [World.drew] at hN2))
 go_simp
 first | refine oA hK ?_ (fun hH hA => ?_) | refine oD hK ?_ (fun hH hA => ?_)
 · exact ⟨hH.1.alloc hH.1.size _, hH.2.alloc _⟩
 clear hK K
 (try simp only [cq])
 obtain ⟨bA, hbA⟩ : ∃ b, Blk.num hA = b := ⟨_, rfl⟩
 obtain ⟨W, hW⟩ : ∃ V, Blk.wld hA = V := ⟨_, rfl⟩
 simp only [Blk.num] at hbA
 simp only [Blk.wld] at hW
 rw [hW] at hH hA ⊢
 rw [hbA] at hA ⊢
 replace hN1 : V.heap.size ≤ bA := (by rw [← hbA]; exact hN1)
 replace hN2 : bX < bA := (by rw [← hbA]; exact hN2)
 clear hW hbA
 exact X0  bA W ⟨hH, hA, hN1, hN2⟩
 }
 exact AllReadyH.nil
 }
 {
 intro bA W hall
 obtain ⟨hH, hA, hN1, hN2⟩ := hall
 (try dsimp only at hH)
 refine wpAnyH_ready (rs := [12]) (by kernel_rfl) (by simp) ?_
 refine arc1 (some 80) fun K hK => ?_
 go_simp
 (refine (K1.out _ hH.1).mono ?_; rintro e w' ⟨rfl, hbc⟩; (try replace hA := hA.call hbc))
 refine hK.out _ _ ?_ ?_
 · (exact ⟨hH.1.trans (hbc.mono hH.1.size), hH.2.call hbc⟩)
 (try clear hH); (try clear hbc)
 intro hH
 clear hK K
 (try simp only [cq])
 refine tkY 13 (some 67) ?_ ?_ ?_
 rotate_left
 · intro w _; go_simp; (try with_reducible rfl)
 (try simp only [cq])
 refine tkY 14 (some 81) ?_ ?_ ?_
 rotate_left
 · intro w _; go_simp; (try with_reducible rfl)
 (try simp only [cq])
 refine tkY 15 (some 82) ?_ ?_ ?_
 rotate_left
 · intro w _; go_simp; (try with_reducible rfl)
 (try simp only [cq])
 exact X1  bA w' ⟨hH, hA, hN1, hN2⟩
 }
 }
 {
 intro bA W hall
 obtain ⟨hH, hA, hN1, hN2⟩ := hall
 (try dsimp only at hH)
 refine wpAnyH_ready (rs := [17]) (by kernel_rfl) (by simp) ?_
 refine arc1 none fun K hK => ?_
 obtain ⟨r0, r1⟩ := hA.c2
 have fr0 := hA.free 0
 have fr1 := hA.free 1
 have zR := hA.lt
 have HS := Lib.hid (show Blk _ bA #[.int .i64 P, .int .i64 Q] _ from (hA.set 0 (.int .i64 P)).set 1 (.int .i64 Q))
 go_simp
 refine hK.out _ _ ?_ ?_
 · exact ⟨below_set2 hH.1 hN1 _ _, (hH.2.other _ _ (by show bX ≠ bA; omega)).other _ _ (by show bX ≠ bA; omega)⟩
 (try clear hH); (try clear hbc)
 intro hH
 clear hK K
 (try simp only [cq])
 refine tkY 18 (some 17) ?_ ?_ ?_
 rotate_left
 · intro w _; go_simp; (try with_reducible rfl)
 (try simp only [cq])
 refine wpAnyH_done (by kernel_rfl) ?_ _
 (try dsimp only [Act.put])
 (try simp only [cq])
 clear hA r0 r1 fr0 fr1 zR
 go_wp2_with fail
 go_meet
 exact ⟨_, rfl, rfl, HS.out, hH.2, hH.1⟩
 } )
          case rest =>
            clear hB K1 kX
            obtain ⟨bY, rfl, rfl, kY, kX, hB⟩ := hcut
            obtain ⟨x0, x1⟩ := kX.c2
            obtain ⟨y0, y1⟩ := kY.c2
            go_wp2
            go_roundw
            case rel => exact ⟨k + 1, by omega, by go_num, hB⟩
            case measure => simp [intOf]; omega
      · obtain rfl : k = 3 := by omega
        have jB : Below w.heap.size w _ := HB0.out.trans (hB.mono HB0.out.size)
        go_wp2_with fail
        refine (HAw.out _).mono ?_
        rintro e w2 ⟨rfl, hb⟩
        replace jB := jB.trans (hb.mono jB.size)
        clear hb
        go_wp2
        go_ret
        exact ⟨rfl, jB⟩
end Go.Proofs.Ytegdflikeoiaaaa
