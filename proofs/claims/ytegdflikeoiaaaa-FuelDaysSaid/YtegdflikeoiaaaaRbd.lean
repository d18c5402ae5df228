/-
  burned (package sastrugiref06).
-/
import Derived.Test.YtegdflikeoiaaaaTail
import Derived.Test.YtegdflikeoiaaaaRbn
set_option linter.unusedVariables false
set_option linter.unusedSimpArgs false
namespace Go.Proofs.Ytegdflikeoiaaaa
open Go.RowKit

set_option maxRecDepth 100000 in
set_option maxHeartbeats 4000000 in
theorem burned_any (n : Nat) (U : Nat → Bu) (c0 c1 : Int) (b o cap : Nat) (h0 : 0 < n) (hn : n ≤ 1000000) (hU : BuOk n U) (hs : ∀ i, i + 1 < n → (U i).co < (U (i + 1)).co) (g0 : c0 ≤ 1000) (g1 : -1000 ≤ c1) (g2 : c0 ≤ c1) (w : World) (hA : AtC w b o n 3 (buC U)) :
    Calls Try.prog 106 #[.slice (some ⟨b, o, none⟩) n cap, .agg #[.int .i64 c0, .int .i64 c1]] w fun e w' => e = .returned (.agg #[.int .i64 (bnA U n c0 c1 n), .int .i64 (bnB U n c0 c1 n)]) ∧ Below w.heap.size w w' := by
  have HA := Lib.hid (fun (W : World) (h : Below w.heap.size w W) => hA.later h)
  have HP := Lib.hid (fun (t : Int) (W : World) (h : Below w.heap.size w W) => place_any n U t b o cap h0 hn W (hA.later h))
  have zb := hA.lt (i := 0) h0 rfl
  have HM := Lib.hid (fun (p q : Nat) (hp : Plc n U c0 p) (hq : Plc n U c1 q) => bn_all hU hs g0 g1 g2 hp hq)
  clear hA hU hs
  have jC := (Blk.new w #[.int .i64 c0, .int .i64 c1] 26).alloc (.cells #[.int .i64 0, .int .i64 0] 26)
  have jR := Blk.new1 w (.cells #[.int .i64 c0, .int .i64 c1] 26) #[.int .i64 0, .int .i64 0] 26
  have jB : Below w.heap.size w ((w.alloc (.cells #[.int .i64 c0, .int .i64 c1] 26)).alloc (.cells #[.int .i64 0, .int .i64 0] 26)) := by (repeat (first | exact Below.refl _ _ | assumption | refine Below.drew ?_ | refine Below.drewN ?_ _ | refine blT ?_ | refine blU ?_))
  go_enter Try.func106, Try.ntmps106
  go_upto_region 1 with fail
  go_cut [5, 6] (fun s5 s6 wx => ∃ p q : Nat, s5 = .int .i64 p ∧ s6 = .int .i64 q ∧ Plc n U c0 p ∧ Plc n U c1 q ∧ Blk wx w.heap.size #[.int .i64 c0, .int .i64 c1] 26 ∧ Blk wx (w.heap.size + 1) #[.int .i64 0, .int .i64 0] 26 ∧ Below w.heap.size w wx)
  case first =>
    (
 refine wp_region_held_drew (S := (fun wx => Blk wx w.heap.size #[.int .i64 c0, .int .i64 c1] 26 ∧ Blk wx (w.heap.size + 1) #[.int .i64 0, .int .i64 0] 26 ∧ Below w.heap.size w wx)) (by kernel_rfl) ?_ (fun hH => ?_)
 · (try dsimp only); (exact ⟨jC.drew, jR.drew, jB.drew⟩)
 refine tkY 0 (some 9) ?_ ?_ ?_
 rotate_left
 · intro w _; go_simp; (try with_reducible rfl)
 (try simp only [cq])
 refine tkY 1 (some 10) ?_ ?_ ?_
 rotate_left
 · intro w hS0; (try dsimp only at hS0); obtain ⟨kC, _, _⟩ := hS0; obtain ⟨c0', c1'⟩ := kC.c2; have y1 := kC.lt;go_simp; (try with_reducible rfl)
 (try simp only [cq])
 refine tkY 2 (some 11) ?_ ?_ ?_
 rotate_left
 · intro w hS0; (try dsimp only at hS0); obtain ⟨kC, _, _⟩ := hS0; obtain ⟨c0', c1'⟩ := kC.c2; have y1 := kC.lt;go_simp; (try with_reducible rfl)
 (try simp only [cq])
 refine tkY 4 (some 13) ?_ ?_ ?_
 rotate_left
 · intro w _; go_simp; (try with_reducible rfl)
 (try simp only [cq])
 refine tkY 5 (some 14) ?_ ?_ ?_
 rotate_left
 · intro w hS0; (try dsimp only at hS0); obtain ⟨kC, _, _⟩ := hS0; obtain ⟨c0', c1'⟩ := kC.c2; have y1 := kC.lt;go_simp; (try with_reducible rfl)
 (try simp only [cq])
 refine tkY 6 (some 15) ?_ ?_ ?_
 rotate_left
 · intro w hS0; (try dsimp only at hS0); obtain ⟨kC, _, _⟩ := hS0; obtain ⟨c0', c1'⟩ := kC.c2; have y1 := kC.lt;go_simp; (try with_reducible rfl)
 (try simp only [cq])
 refine wpAnyH_ready (rs := [3]) (by kernel_rfl) (by simp) ?_
 refine arc1 (some 12) fun K hK => ?_
 go_simp
 (refine (HP.out _ _ hH.2.2).mono ?_; rintro e w' ⟨p, rfl, hp, hb⟩)
 refine hK.out _ _ ?_ ?_
 · (first | exact hH | exact ⟨hH.1.call hb, hH.2.1.call hb, bwS hH.2.2 (Nat.le_refl _) hb⟩)
 (try clear hH); (try clear hb)
 intro hH
 clear hK K
 (try simp only [cq])
 refine wpAnyH_ready (rs := [7]) (by kernel_rfl) (by simp) ?_
 refine arc1 (some 16) fun K hK => ?_
 go_simp
 (refine (HP.out _ _ hH.2.2).mono ?_; rintro e w' ⟨q, rfl, hq, hb⟩)
 refine hK.out _ _ ?_ ?_
 · (first | exact hH | exact ⟨hH.1.call hb, hH.2.1.call hb, bwS hH.2.2 (Nat.le_refl _) hb⟩)
 (try clear hH); (try clear hb)
 intro hH
 clear hK K
 (try simp only [cq])
 refine tkY 8 (some 5) ?_ ?_ ?_
 rotate_left
 · intro w _; go_simp; (try with_reducible rfl)
 (try simp only [cq])
 refine tkY 9 (some 6) ?_ ?_ ?_
 rotate_left
 · intro w _; go_simp; (try with_reducible rfl)
 (try simp only [cq])
 refine wpAnyH_done (by kernel_rfl) ?_ _
 (try dsimp only [Act.put])
 (try simp only [cq])
 go_wp2_with fail
 go_meet
 exact ⟨p, q, rfl, rfl, hp, hq, hH⟩ )
  case rest =>
    clear jC jR jB HP
    obtain ⟨p, q, rfl, rfl, hp, hq, jC, jR, jB⟩ := hcut
    obtain ⟨hpq, hmA, hmB⟩ := HM.out p q hp hq
    have HMM := Lib.hid (And.intro hmA hmB)
    have hqn := hq.lt
    clear hp hq HM hmA hmB
    have hpn : p < n := by omega
    have hpI : (p : Int) < n := by omega
    obtain ⟨-, a1, a2⟩ := (HA.out _ jB).c3 hpn rfl
    have zp := World.block_lt_of_cell? _ _ a1
    have HX := Lib.hid (show mnF U p 0 = (U p).lo ∧ mxF U p 0 = (U p).hi from ⟨rfl, rfl⟩)
    obtain ⟨x, hx⟩ : ∃ x, (U p).lo = x := ⟨_, rfl⟩
    obtain ⟨y, hy⟩ : ∃ x, (U p).hi = x := ⟨_, rfl⟩
    rw [hx] at a1 HX
    rw [hy] at a2 HX
    clear hx hy
    obtain ⟨W0, hW0⟩ : ∃ V, Blk.wld jC = V := ⟨_, rfl⟩
    simp only [Blk.wld] at hW0
    rw [hW0] at jC jR jB a1 a2 zp ⊢
    clear hW0
    have zR := jR.lt
    have jS := Blk.new W0 #[.int .i64 x, .int .i64 y] 26
    replace jC := jC.alloc (.cells #[.int .i64 x, .int .i64 y] 26)
    replace jR := jR.alloc (.cells #[.int .i64 x, .int .i64 y] 26)
    replace jB := bwA jB (Nat.le_refl _) (.cells #[.int .i64 x, .int .i64 y] 26)
    go_wp2_with fail
    obtain ⟨bs, hbs⟩ : ∃ x, W0.heap.size = x := ⟨_, rfl⟩
    rw [hbs] at jS zR ⊢
    clear hbs a1 a2 zp
    have e0 : IntKind.i64.wrap ((p : Int) + 1) = (p : Int) + 1 := IntWalk.i64_in _ (by omega)
    go_wp2_with fail
    go_loopw [8] (fun i wr => ∃ d : Nat, i = .int .i64 ((p + d + 1 : Nat) : Int) ∧ p + d ≤ q ∧ Blk wr bs #[.int .i64 (mnF U p d), .int .i64 (mxF U p d)] 26 ∧ Blk wr w.heap.size #[.int .i64 c0, .int .i64 c1] 26 ∧ Blk wr (w.heap.size + 1) #[.int .i64 0, .int .i64 0] 26 ∧ Below w.heap.size w wr) (fun i _ => q + 1 - (intOf i).toNat)
    case atStart => exact ⟨0, by go_num, by omega, by rw [HX.out.1, HX.out.2]; exact jS, jC, jR, jB⟩
    case round =>
      clear jC jR jB jS
      obtain ⟨d, rfl, hd, jS, jC, jR, jB⟩ := hrel
      obtain ⟨A, hA⟩ : ∃ z, mnF U p d = z := ⟨_, rfl⟩
      obtain ⟨B, hB⟩ : ∃ z, mxF U p d = z := ⟨_, rfl⟩
      rw [hA, hB] at jS
      have HAB := Lib.hid (And.intro hA hB)
      clear hA hB
      by_cases hlt : p + d < q
      · have hk : p + d + 1 < n := by omega
        obtain ⟨-, a1, a2⟩ := (HA.out _ (Below.refl _ _)).c3 hk rfl
        have zp := World.block_lt_of_cell? _ _ a1
        obtain ⟨x1, hx⟩ : ∃ x, (U (p + d + 1)).lo = x := ⟨_, rfl⟩
        obtain ⟨y1, hy⟩ : ∃ x, (U (p + d + 1)).hi = x := ⟨_, rfl⟩
        rw [hx] at a1
        rw [hy] at a2
        have HXX := Lib.hid (show mnF U p (d + 1) = min A x1 ∧ mxF U p (d + 1) = max B y1 from ⟨by show min (mnF U p d) (U (p + d + 1)).lo = _; rw [HAB.out.1, hx], by show max (mxF U p d) (U (p + d + 1)).hi = _; rw [HAB.out.2, hy]⟩)
        clear hx hy
        have HV := Lib.hid (fun (W : World) (hW : Below w.heap.size w W) => And.intro (cell_later hW a1) (cell_later hW a2))
        clear a1 a2
        obtain ⟨k, hkk⟩ : ∃ k, p + d + 1 = k := ⟨_, rfl⟩
        rw [hkk] at HV hk ⊢
        have hkI : (k : Int) < n := by omega
        have hkq : (k : Int) ≤ q := by omega
        obtain ⟨D0, D1⟩ := jS.c2
        have F0 := jS.free 0
        have F1 := jS.free 1
        have ZS := jS.lt
        have K2 := Lib.hid (And.intro ((jC.other ⟨bs, 0, none⟩ (.int .i64 (min A x1)) (by show _ ≠ bs; omega)).other ⟨bs, 1, none⟩ (.int .i64 (max B y1)) (by show _ ≠ bs; omega)) (And.intro ((jR.other ⟨bs, 0, none⟩ (.int .i64 (min A x1)) (by show _ ≠ bs; omega)).other ⟨bs, 1, none⟩ (.int .i64 (max B y1)) (by show _ ≠ bs; omega)) (below_set2 (c := bs) (j := 0) (k := 1) jB (by omega) (.int .i64 (min A x1)) (.int .i64 (max B y1))).drew))
        have KS := Lib.hid ((jS.set 0 (.int .i64 (min A x1))).set 1 (.int .i64 (max B y1)))
        go_upto_region 6 with fail
        (
 refine wp_region_held_drew (S := (fun wx => Blk wx w.heap.size #[.int .i64 c0, .int .i64 c1] 26 ∧ Blk wx (w.heap.size + 1) #[.int .i64 0, .int .i64 0] 26 ∧ Below w.heap.size w wx)) (by kernel_rfl) ?_ (fun hH => ?_)
 · (try dsimp only); (exact ⟨jC.drew, jR.drew, jB.drew⟩)
 refine tkY 0 (some 29) ?_ ?_ ?_
 rotate_left
 · intro w hS0; (try dsimp only at hS0); obtain ⟨r0, r1⟩ := HV.out _ hS0.2.2; have y2 := World.block_lt_of_cell? _ _ r0;go_simp; (try with_reducible rfl)
 (try simp only [cq])
 refine tkY 2 (some 31) ?_ ?_ ?_
 rotate_left
 · intro w _; go_simp; (try with_reducible rfl)
 (try simp only [cq])
 refine tkY 3 (some 32) ?_ ?_ ?_
 rotate_left
 · intro w _; go_simp; (try with_reducible rfl)
 (try simp only [cq])
 refine tkY 4 (some 33) ?_ ?_ ?_
 rotate_left
 · intro w hS0; (try dsimp only at hS0); obtain ⟨r0, r1⟩ := HV.out _ hS0.2.2; have y2 := World.block_lt_of_cell? _ _ r0;go_simp; (try with_reducible rfl)
 (try simp only [cq])
 refine tkY 5 (some 34) ?_ ?_ ?_
 rotate_left
 · intro w hS0; (try dsimp only at hS0); obtain ⟨r0, r1⟩ := HV.out _ hS0.2.2; have y2 := World.block_lt_of_cell? _ _ r0;go_simp; (try with_reducible rfl)
 (try simp only [cq])
 refine tkY 6 (some 35) ?_ ?_ ?_
 rotate_left
 · intro w hS0; (try dsimp only at hS0); obtain ⟨r0, r1⟩ := HV.out _ hS0.2.2; have y2 := World.block_lt_of_cell? _ _ r0;go_simp; (try with_reducible rfl)
 (try simp only [cq])
 refine tkY 7 (some 36) ?_ ?_ ?_
 rotate_left
 · intro w hS0; (try dsimp only at hS0); obtain ⟨r0, r1⟩ := HV.out _ hS0.2.2; have y2 := World.block_lt_of_cell? _ _ r0;go_simp; (try with_reducible rfl)
 (try simp only [cq])
 refine tkY 9 (some 38) ?_ ?_ ?_
 rotate_left
 · intro w hS0; (try dsimp only at hS0); obtain ⟨r0, r1⟩ := HV.out _ hS0.2.2; have y2 := World.block_lt_of_cell? _ _ r0;go_simp; (try with_reducible rfl)
 (try simp only [cq])
 refine tkY 11 (some 40) ?_ ?_ ?_
 rotate_left
 · intro w _; go_simp; (try with_reducible rfl)
 (try simp only [cq])
 refine tkY 12 (some 41) ?_ ?_ ?_
 rotate_left
 · intro w _; go_simp; (try with_reducible rfl)
 (try simp only [cq])
 refine tkY 13 (some 42) ?_ ?_ ?_
 rotate_left
 · intro w hS0; (try dsimp only at hS0); obtain ⟨r0, r1⟩ := HV.out _ hS0.2.2; have y2 := World.block_lt_of_cell? _ _ r0;go_simp; (try with_reducible rfl)
 (try simp only [cq])
 refine tkY 14 (some 43) ?_ ?_ ?_
 rotate_left
 · intro w hS0; (try dsimp only at hS0); obtain ⟨r0, r1⟩ := HV.out _ hS0.2.2; have y2 := World.block_lt_of_cell? _ _ r0;go_simp; (try with_reducible rfl)
 (try simp only [cq])
 refine tkY 15 (some 44) ?_ ?_ ?_
 rotate_left
 · intro w hS0; (try dsimp only at hS0); obtain ⟨r0, r1⟩ := HV.out _ hS0.2.2; have y2 := World.block_lt_of_cell? _ _ r0;go_simp; (try with_reducible rfl)
 (try simp only [cq])
 refine tkY 16 (some 45) ?_ ?_ ?_
 rotate_left
 · intro w hS0; (try dsimp only at hS0); obtain ⟨r0, r1⟩ := HV.out _ hS0.2.2; have y2 := World.block_lt_of_cell? _ _ r0;go_simp; (try with_reducible rfl)
 (try simp only [cq])
 refine wpAnyH_ready (rs := [1, 10]) (by kernel_rfl) (by simp) ?_
 refine arc (some 30) (fun K hK => ?_) ?_
 {
 go_simp
 refine hK.out _ _ ?_ (fun hH => ?_)
 · (exact hH)
 clear hK K
 (try simp only [cq])
 refine tkY 8 (some 37) ?_ ?_ ?_
 rotate_left
 · intro w hS0; (try dsimp only at hS0); obtain ⟨r0, r1⟩ := HV.out _ hS0.2.2; have y2 := World.block_lt_of_cell? _ _ r0;go_simp; (try with_reducible rfl)
 (try simp only [cq])
 refine wpAnyH_ready (rs := [10]) (by kernel_rfl) (by simp) ?_
 refine arc1 (some 39) fun K hK => ?_
 go_simp
 refine hK.out _ _ ?_ (fun hH => ?_)
 · (exact hH)
 clear hK K
 (try simp only [cq])
 refine tkY 17 (some 46) ?_ ?_ ?_
 rotate_left
 · intro w hS0; (try dsimp only at hS0); obtain ⟨r0, r1⟩ := HV.out _ hS0.2.2; have y2 := World.block_lt_of_cell? _ _ r0;go_simp; (try with_reducible rfl)
 (try simp only [cq])
 refine tkY 18 (some 47) ?_ ?_ ?_
 rotate_left
 · intro w _; go_simp; (try with_reducible rfl)
 (try simp only [cq])
 refine wpAnyH_ready (rs := [19]) (by kernel_rfl) (by simp) ?_
 refine arc1 none fun K hK => ?_
 go_simp
 refine hK.out _ _ ?_ (fun hH => ?_)
 · exact K2.out
 clear hK K
 (try simp only [cq])
 refine wpAnyH_done (by kernel_rfl) ?_ _
 (try dsimp only [Act.put])
 (try simp only [cq])
 clear D0 D1 F0 F1 ZS jC jR jB jS
 obtain ⟨jC, jR, jB⟩ := K2.out
 go_wp2
 go_roundw
 case rel => exact ⟨d + 1, by rw [show p + (d + 1) + 1 = k + 1 by omega]; go_num, by omega, by rw [HXX.out.1, HXX.out.2]; exact KS.out, jC, jR, jB⟩
 case measure => simp [intOf]; omega
 }
 refine arc (some 39) (fun K hK => ?_) ?_
 {
 go_simp
 refine hK.out _ _ ?_ (fun hH => ?_)
 · (exact hH)
 clear hK K
 (try simp only [cq])
 refine tkY 17 (some 46) ?_ ?_ ?_
 rotate_left
 · intro w hS0; (try dsimp only at hS0); obtain ⟨r0, r1⟩ := HV.out _ hS0.2.2; have y2 := World.block_lt_of_cell? _ _ r0;go_simp; (try with_reducible rfl)
 (try simp only [cq])
 refine wpAnyH_ready (rs := [1]) (by kernel_rfl) (by simp) ?_
 refine arc1 (some 30) fun K hK => ?_
 go_simp
 refine hK.out _ _ ?_ (fun hH => ?_)
 · (exact hH)
 clear hK K
 (try simp only [cq])
 refine tkY 8 (some 37) ?_ ?_ ?_
 rotate_left
 · intro w hS0; (try dsimp only at hS0); obtain ⟨r0, r1⟩ := HV.out _ hS0.2.2; have y2 := World.block_lt_of_cell? _ _ r0;go_simp; (try with_reducible rfl)
 (try simp only [cq])
 refine tkY 18 (some 47) ?_ ?_ ?_
 rotate_left
 · intro w _; go_simp; (try with_reducible rfl)
 (try simp only [cq])
 refine wpAnyH_ready (rs := [19]) (by kernel_rfl) (by simp) ?_
 refine arc1 none fun K hK => ?_
 go_simp
 refine hK.out _ _ ?_ (fun hH => ?_)
 · exact K2.out
 clear hK K
 (try simp only [cq])
 refine wpAnyH_done (by kernel_rfl) ?_ _
 (try dsimp only [Act.put])
 (try simp only [cq])
 clear D0 D1 F0 F1 ZS jC jR jB jS
 obtain ⟨jC, jR, jB⟩ := K2.out
 go_wp2
 go_roundw
 case rel => exact ⟨d + 1, by rw [show p + (d + 1) + 1 = k + 1 by omega]; go_num, by omega, by rw [HXX.out.1, HXX.out.2]; exact KS.out, jC, jR, jB⟩
 case measure => simp [intOf]; omega
 }
 exact AllReadyH.nil )
      · have hd2 : q - p = d := by omega
        have HE := Lib.hid (show bnA U n c0 c1 n = A ∧ bnB U n c0 c1 n = B from ⟨by rw [HMM.out.1, hd2, HAB.out.1], by rw [HMM.out.2, hd2, HAB.out.2]⟩)
        have hkq : ¬ ((p + d + 1 : Nat) : Int) ≤ q := by omega
        obtain ⟨k, hkk⟩ : ∃ k, p + d + 1 = k := ⟨_, rfl⟩
        rw [hkk] at hkq ⊢
        clear hkk hd2
        obtain ⟨d0, d1⟩ := jS.c2
        obtain ⟨r0, r1⟩ := jR.c2
        have f0 := jR.free 0
        have f1 := jR.free 1
        have zR2 := jR.lt
        have KR := Lib.hid ((jR.set 0 (.int .i64 A)).set 1 (.int .i64 B))
        have KB := Lib.hid (below_set2 (c := w.heap.size + 1) (j := 0) (k := 1) jB (by omega) (.int .i64 A) (.int .i64 B))
        clear jC jR jS jB
        go_wp2_with fail
        obtain ⟨z0, z1⟩ := KR.out.c2
        exact bodyPost_ret (v := .agg #[.int .i64 A, .int .i64 B]) (by simp [results, Try.results106, go_sem, z0, z1]) rfl ⟨by rw [HE.out.1, HE.out.2], KB.out⟩
end Go.Proofs.Ytegdflikeoiaaaa
