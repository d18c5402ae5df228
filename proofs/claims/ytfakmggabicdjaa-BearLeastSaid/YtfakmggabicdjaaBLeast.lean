/-
  BearLeast says yes.
-/
import Derived.Test.YtfakmggabicdjaaTail
import Derived.Test.YtfakmggabicdjaaLeast
import Derived.Test.YtfakmggabicdjaaLeaV
import Derived.Test.YtfakmggabicdjaaMade
import Derived.Test.YtfakmggabicdjaaAwk2
set_option linter.unusedVariables false
set_option linter.unusedSimpArgs false
namespace Go.Proofs.Ytfakmggabicdjaa
open Go.RowKit

structure Kept (bs bP : Nat) (p : Pl) (vS vC : Value) (w W : World) : Prop where
  P : Blk W bP #[.int .i64 p.s0, .int .i64 p.s1, vS, vC, .int .i64 p.ne, .int .i64 p.ed, .int .i64 p.gr, .int .i64 p.lo, .int .i64 p.hi, .int .i64 p.sh, .int .i64 p.wi] 26
  S : W.ownsRow (bs + 1) 68 2 vS p.S.n (catC (pairC p.S.F p.S.P) p.S.n)
  C : W.ownsRow (bs + 1) 68 2 vC p.C.n (catC (pairC p.C.F p.C.P) p.C.n)
  s : SeedAt bs W
  B : Below w.heap.size w W
theorem Kept.call {bs bP : Nat} {p : Pl} {vS vC : Value} {w W W' : World} (h : Kept bs bP p vS vC w W) (g : Below W.heap.size W W') : Kept bs bP p vS vC w W' :=
  ⟨h.P.call g, row_call h.S g, row_call h.C g, h.s.imp fun _ k => k.call g, bwS h.B (Nat.le_refl _) g⟩
theorem Kept.drawn {bs bP : Nat} {p : Pl} {vS vC : Value} {w W W' : World} (h : Kept bs bP p vS vC w W) (hB : w.heap.size ≤ bs) (hP : bP ≠ bs) (g : Drawn bs W W') : Kept bs bP p vS vC w W' :=
  ⟨g.blk h.P hP, g.row h.S (by omega), g.row h.C (by omega), g.seed, Drawn.below h.B g hB⟩
theorem Kept.drew {bs bP : Nat} {p : Pl} {vS vC : Value} {w W : World} (h : Kept bs bP p vS vC w W) : Kept bs bP p vS vC w W.drew :=
  ⟨h.P.drew, h.S, h.C, h.s, h.B.drew⟩
theorem Kept.alloc {bs bP : Nat} {p : Pl} {vS vC : Value} {w W : World} (h : Kept bs bP p vS vC w W) (o : Obj) : Kept bs bP p vS vC w (W.alloc o) :=
  ⟨h.P.alloc o, h.S.alloc o, h.C.alloc o, h.s.imp fun _ k => k.alloc o, bwA h.B (Nat.le_refl _) o⟩
theorem loads1 {W : World} {b : Nat} {t : TypeId} {a c d e : Int} (h : Blk W b #[.int .i64 a, .int .i64 c, .int .i64 d, .int .i64 e] t) : LoadsAt W (.slice (some ⟨b, 0, none⟩) 1 1) 1 (fun _ => ⟨a, c, d, e⟩) :=
  ⟨_, 1, rfl, by decide, by decide, fun _ => ⟨b, 0, rfl, fun i hi => by
    obtain rfl : i = 0 := by omega
    exact ⟨h.cell 0 rfl, h.cell 1 rfl, h.cell 2 rfl, h.cell 3 rfl⟩⟩⟩

set_option maxRecDepth 100000 in
set_option maxHeartbeats 16000000 in
theorem bleast_any (a : Option Addr) (len cap : Nat) (w : World) (hn : NumsAt w a len) :
    Calls Try.prog 13 #[.slice a len cap] w fun e w' => e = .returned (.bool true) ∧ Below w.heap.size w w' := by
  go_enter Try.func13, Try.ntmps13
  go_wp2_with fail
  refine (newseed_at a len cap _ hn).mono ?_
  rintro e w1 ⟨rfl, hS, jB⟩
  clear hn
  obtain ⟨bs, hbs⟩ : ∃ b, w.heap.size = b := ⟨_, rfl⟩
  have zwbs : w.heap.size ≤ bs := by omega
  rw [hbs] at hS ⊢
  have hb1 : bs < w1.heap.size := hS.choose_spec.lt
  have HBS := Lib.hid hbs
  clear hbs
  go_wp2_with fail
  refine (plateof_in bs w1 hS).mono ?_
  rintro e w2 ⟨p, vS, vC, rfl, hp, rS, rC, hd⟩
  replace jB := Drawn.below jB hd zwbs
  replace hS := hd.seed
  replace rS := ownsRow_base (b1 := bs + 1) rS (by omega)
  replace rC := ownsRow_base (b1 := bs + 1) rC (by omega)
  clear hd hb1
  obtain ⟨aS, cS, rfl, _, _, _⟩ := pairs_of_row rS
  obtain ⟨aC, cC, rfl, _, _, _⟩ := pairs_of_row rC
  have jP := Blk.new w2 #[.int .i64 p.s0, .int .i64 p.s1, (.slice aS p.S.n cS), (.slice aC p.C.n cC), .int .i64 p.ne, .int .i64 p.ed, .int .i64 p.gr, .int .i64 p.lo, .int .i64 p.hi, .int .i64 p.sh, .int .i64 p.wi] 26
  go_upto_region 3 with fail
  obtain ⟨bP, hbP⟩ : ∃ b, w2.heap.size = b := ⟨_, rfl⟩
  have zsP : bs < bP := by rw [← hbP]; exact hS.choose_spec.lt
  rw [hbP] at jP
  (try rw [hbP])
  clear hbP
  have jK : Kept bs bP p (.slice aS p.S.n cS) (.slice aC p.C.n cC) w _ := ⟨jP, rS.alloc (.cells #[.int .i64 p.s0, .int .i64 p.s1, (.slice aS p.S.n cS), (.slice aC p.C.n cC), .int .i64 p.ne, .int .i64 p.ed, .int .i64 p.gr, .int .i64 p.lo, .int .i64 p.hi, .int .i64 p.sh, .int .i64 p.wi] 26), rC.alloc (.cells #[.int .i64 p.s0, .int .i64 p.s1, (.slice aS p.S.n cS), (.slice aC p.C.n cC), .int .i64 p.ne, .int .i64 p.ed, .int .i64 p.gr, .int .i64 p.lo, .int .i64 p.hi, .int .i64 p.sh, .int .i64 p.wi] 26), hS.imp fun _ h => h.alloc (.cells #[.int .i64 p.s0, .int .i64 p.s1, (.slice aS p.S.n cS), (.slice aC p.C.n cC), .int .i64 p.ne, .int .i64 p.ed, .int .i64 p.gr, .int .i64 p.lo, .int .i64 p.hi, .int .i64 p.sh, .int .i64 p.wi] 26), bwA jB (Nat.le_refl _) (.cells #[.int .i64 p.s0, .int .i64 p.s1, (.slice aS p.S.n cS), (.slice aC p.C.n cC), .int .i64 p.ne, .int .i64 p.ed, .int .i64 p.gr, .int .i64 p.lo, .int .i64 p.hi, .int .i64 p.sh, .int .i64 p.wi] 26)⟩
  clear jP rS rC hS jB
  generalize w2.alloc (.cells #[.int .i64 p.s0, .int .i64 p.s1, (.slice aS p.S.n cS), (.slice aC p.C.n cC), .int .i64 p.ne, .int .i64 p.ed, .int .i64 p.gr, .int .i64 p.lo, .int .i64 p.hi, .int .i64 p.sh, .int .i64 p.wi] 26) = V at jK ⊢
  have HP := Lib.hid hp
  clear hp
  go_wp2_with fail
  refine (from_in 0 1500 bs _ jK.s (by omega) (by omega) (by omega) (by omega)).mono ?_
  rintro e w3 ⟨th, rfl, t0, t1', hd⟩
  have t1 : th ≤ 1500 := by omega
  clear t1'
  replace jK := jK.drawn zwbs (by omega) hd
  clear hd
  go_wp2_with fail
  refine (below_in 3000 bs _ jK.s (by omega)).mono ?_
  rintro e w4 ⟨m3, rfl, m0, m1', hd⟩
  have m1 : m3 ≤ 10000 := by omega
  clear m1'
  replace jK := jK.drawn zwbs (by omega) hd
  clear hd
  go_wp2_with fail
  refine (of3_in 0 m3 10000 0 10000 bs _ _ rfl jK.s (by omega) (by omega) (by omega) (by omega) (by omega) (by omega)).mono ?_
  rintro e w5 ⟨mi, rfl, mi0, mi1, hd⟩
  replace jK := (jK.alloc _).drawn zwbs (by omega) hd
  clear hd m0 m1
  go_upto_region 4 with fail
  obtain ⟨c0, c1, c2, c3, c4, c5, c6, c7, c8, c9, c10⟩ := jK.P.c11
  have zP := jK.P.lt
  go_wp2_with fail
  clear c0 c1 c2 c3 c4 c5 c6 c7 c8 c9 c10 zP
  refine (bears_valid p HP.out _ _ th mi ⟨by omega, by omega⟩ ⟨mi0, mi1⟩ _ (pairs_of_row jK.S) (pairs_of_row jK.C)).mono ?_
  rintro e w6 ⟨rfl, hb⟩
  replace jK := jK.call hb
  clear hb
  go_upto_region 5 with fail
  refine wp_region_held_drew (S := (fun w' => Kept bs bP p (.slice aS p.S.n cS) (.slice aC p.C.n cC) w w')) (by kernel_rfl) ?_ (fun hH => ?_)
  · (try dsimp only); (exact jK.drew)
  refine tkY 0 (some 43) ?_ ?_ ?_
  rotate_left
  · intro w hS0; (try dsimp only at hS0); obtain ⟨c0, c1, c2, c3, c4, c5, c6, c7, c8, c9, c10⟩ := hS0.P.c11; have zP := hS0.P.lt;go_simp; (try with_reducible rfl)
  (try simp only [cq])
  refine tkY 1 (some 44) ?_ ?_ ?_
  rotate_left
  · intro w _; go_simp; (try with_reducible rfl)
  (try simp only [cq])
  refine tkY 2 (some 45) ?_ ?_ ?_
  rotate_left
  · intro w _; go_simp; (try with_reducible rfl)
  (try simp only [cq])
  refine tkY 5 (some 48) ?_ ?_ ?_
  rotate_left
  · intro w _; go_simp; (try with_reducible rfl)
  (try simp only [cq])
  refine wpAnyH_ready (rs := [3]) (by kernel_rfl) (by simp) ?_
  refine arc1 (some 46) fun K hK => ?_
  go_simp
  (refine (below_in 100 bs _ hH.s (by omega)).mono ?_; rintro e w' ⟨d1, rfl, d10, d11', hd⟩; have d11 : d1 ≤ 100 := (by omega); clear d11'; have ew : IntKind.i64.wrap (th + d1) = th + d1 := IntWalk.i64_in _ (by omega))
  refine hK.out _ _ ?_ ?_
  · exact hH.drawn zwbs (by omega) hd
  (try clear hH); (try clear hd); (try clear hb)
  intro hH
  clear hK K
  (try simp only [cq])
  refine tkY 4 (some 47) ?_ ?_ ?_
  rotate_left
  · intro w _; go_simp; (try with_reducible rfl)
  (try simp only [cq])
  refine wpAnyH_ready (rs := [6]) (by kernel_rfl) (by simp) ?_
  refine arc1 (some 49) fun K hK => ?_
  go_simp
  (refine (bears_valid p HP.out _ _ (th + d1) mi ⟨by omega, by omega⟩ ⟨mi0, mi1⟩ _ (pairs_of_row hH.S) (pairs_of_row hH.C)).mono ?_; rintro e w' ⟨rfl, hb⟩)
  refine hK.out _ _ ?_ ?_
  · (exact hH.call hb)
  (try clear hH); (try clear hd); (try clear hb)
  intro hH
  clear hK K
  (try simp only [cq])
  refine tkY 7 (some 42) ?_ ?_ ?_
  rotate_left
  · intro w _; go_simp; (try with_reducible rfl)
  (try simp only [cq])
  refine tkY 8 (some 50) ?_ ?_ ?_
  rotate_left
  · intro w _; go_simp; (try with_reducible rfl)
  (try simp only [cq])
  refine tkY 9 (some 51) ?_ ?_ ?_
  rotate_left
  · intro w _; go_simp; (try with_reducible rfl)
  (try simp only [cq])
  refine tkY 10 (some 9) ?_ ?_ ?_
  rotate_left
  · intro w _; go_simp; (try with_reducible rfl)
  (try simp only [cq])
  refine tkY 11 (some 10) ?_ ?_ ?_
  rotate_left
  · intro w _; go_simp; (try with_reducible rfl)
  (try simp only [cq])
  refine wpAnyH_done (by kernel_rfl) ?_ _
  (try dsimp only [Act.put])
  (try simp only [cq])
  clear jK
  have jK := hH
  clear hH
  go_upto_region 6 with fail
  refine wp_region_held_drew (S := (fun w' => Kept bs bP p (.slice aS p.S.n cS) (.slice aC p.C.n cC) w w')) (by kernel_rfl) ?_ (fun hH => ?_)
  · (try dsimp only); (exact jK.drew)
  refine tkY 0 (some 53) ?_ ?_ ?_
  rotate_left
  · intro w hS0; (try dsimp only at hS0); obtain ⟨c0, c1, c2, c3, c4, c5, c6, c7, c8, c9, c10⟩ := hS0.P.c11; have zP := hS0.P.lt;go_simp; (try with_reducible rfl)
  (try simp only [cq])
  refine tkY 1 (some 54) ?_ ?_ ?_
  rotate_left
  · intro w _; go_simp; (try with_reducible rfl)
  (try simp only [cq])
  refine tkY 2 (some 55) ?_ ?_ ?_
  rotate_left
  · intro w _; go_simp; (try with_reducible rfl)
  (try simp only [cq])
  refine tkY 3 (some 56) ?_ ?_ ?_
  rotate_left
  · intro w _; go_simp; (try with_reducible rfl)
  (try simp only [cq])
  refine wpAnyH_ready (rs := [4]) (by kernel_rfl) (by simp) ?_
  refine arc1 (some 57) fun K hK => ?_
  go_simp
  (refine (below_in 500 bs _ hH.s (by omega)).mono ?_; rintro e w' ⟨d2, rfl, d20, d21', hd⟩; have d21 : d2 ≤ 500 := (by omega); clear d21'; have ew2 : IntKind.i64.wrap (mi + d2) = mi + d2 := IntWalk.i64_in _ (by omega))
  refine hK.out _ _ ?_ ?_
  · exact hH.drawn zwbs (by omega) hd
  (try clear hH); (try clear hd); (try clear hb)
  intro hH
  clear hK K
  (try simp only [cq])
  refine tkY 5 (some 58) ?_ ?_ ?_
  rotate_left
  · intro w _; go_simp; (try with_reducible rfl)
  (try simp only [cq])
  refine tkY 6 (some 59) ?_ ?_ ?_
  rotate_left
  · intro w hS0; (try dsimp only at hS0); obtain ⟨c0, c1, c2, c3, c4, c5, c6, c7, c8, c9, c10⟩ := hS0.P.c11; have zP := hS0.P.lt;go_simp; (try with_reducible rfl)
  (try simp only [cq])
  refine wpAnyH_ready (rs := [7]) (by kernel_rfl) (by simp) ?_
  refine arc1 (some 60) fun K hK => ?_
  go_simp
  (refine (bears_valid p HP.out _ _ th (min 10000 (mi + d2)) ⟨by omega, by omega⟩ ⟨by omega, by omega⟩ _ (pairs_of_row hH.S) (pairs_of_row hH.C)).mono ?_; rintro e w' ⟨rfl, hb⟩)
  refine hK.out _ _ ?_ ?_
  · (exact hH.call hb)
  (try clear hH); (try clear hd); (try clear hb)
  intro hH
  clear hK K
  (try simp only [cq])
  refine tkY 8 (some 52) ?_ ?_ ?_
  rotate_left
  · intro w _; go_simp; (try with_reducible rfl)
  (try simp only [cq])
  refine tkY 9 (some 61) ?_ ?_ ?_
  rotate_left
  · intro w _; go_simp; (try with_reducible rfl)
  (try simp only [cq])
  refine tkY 10 (some 62) ?_ ?_ ?_
  rotate_left
  · intro w _; go_simp; (try with_reducible rfl)
  (try simp only [cq])
  refine tkY 11 (some 11) ?_ ?_ ?_
  rotate_left
  · intro w _; go_simp; (try with_reducible rfl)
  (try simp only [cq])
  refine tkY 12 (some 12) ?_ ?_ ?_
  rotate_left
  · intro w _; go_simp; (try with_reducible rfl)
  (try simp only [cq])
  refine wpAnyH_done (by kernel_rfl) ?_ _
  (try dsimp only [Act.put])
  (try simp only [cq])
  clear jK
  have jK := hH
  clear hH
  have q1 : ¬ (limV p false (th + d1) mi / 1000000000000 < limV p false th mi / 1000000000000) := by
    have := HP.out.lim_thick false mi (a := th) (b := th + d1) (by omega) (by omega)
    omega
  have q2 : ¬ (limV p false th mi / 1000000000000 < limV p false th (min 10000 (mi + d2)) / 1000000000000) := by
    have := HP.out.lim_stand false (th := th) (a := mi) (b := min 10000 (mi + d2)) (by omega) (by omega) (by omega)
    omega
  have q3 : 0 ≤ limV p false th mi / 1000000000000 ∧ limV p false th mi / 1000000000000 ≤ 2500000 := by
    have := lim_in (s := p.s0) (t := th) (c := p.C.val mi) (by have := HP.out.s0; have := HP.out.s01; have := HP.out.s1; omega) (by omega) (HP.out.C.val_in mi)
    have e : limV p false th mi = p.s0 * th * th * p.C.val mi := by simp [limV, endV]
    omega
  generalize limV p false (th + d1) mi / 1000000000000 = more at q1 ⊢
  generalize limV p false th (min 10000 (mi + d2)) / 1000000000000 = less at q2 ⊢
  obtain ⟨most, hmost⟩ : ∃ m, limV p false th mi / 1000000000000 = m := ⟨_, rfl⟩
  rw [hmost] at q1 q2 q3
  (try rw [hmost])
  (try simp only [hmost])
  have HM := Lib.hid hmost
  clear hmost d10 d11 d20 d21
  go_upto_region 9 with fail
  clear q1 q2
  go_wp2_with fail
  refine (from_in (-20000) 20000 bs _ jK.s (by omega) (by omega) (by omega) (by omega)).mono ?_
  rintro e w9 ⟨r1, rfl, r10, r11', hd⟩
  have r11 : r1 ≤ 20000 := by omega
  clear r11'
  replace jK := jK.drawn zwbs (by omega) hd
  clear hd
  go_wp2_with fail
  refine (of4_in (-1) 0 1 r1 (-20000) 20000 bs _ jK.s (by omega) (by omega) (by omega) (by omega) (by omega) (by omega) (by omega) (by omega)).mono ?_
  rintro e w10 ⟨r2, rfl, r20, r21, hd⟩
  replace jK := (jK.alloc _).drawn zwbs (by omega) hd
  clear hd r10 r11
  have ew3 : IntKind.i64.wrap (most + r2) = most + r2 := IntWalk.i64_in _ (by omega)
  go_upto_region 10 with fail
  obtain ⟨we, hwe⟩ : ∃ x, min 200000 (max 0 (most + r2)) = x := ⟨_, rfl⟩
  have we0 : 0 ≤ we ∧ we ≤ 200000 := by omega
  rw [hwe]
  clear hwe ew3 r20 r21
  (
 refine wp_region_held_drew (S := (fun w' => Kept bs bP p (.slice aS p.S.n cS) (.slice aC p.C.n cC) w w')) (by kernel_rfl) ?_ (fun hH => ?_)
 · (try dsimp only); (exact jK.drew)
 refine tkY 0 (some 93) ?_ ?_ ?_
 rotate_left
 · intro w hS0; (try dsimp only at hS0); obtain ⟨c0, c1, c2, c3, c4, c5, c6, c7, c8, c9, c10⟩ := hS0.P.c11; have zP := hS0.P.lt;go_simp; (try with_reducible rfl)
 (try simp only [cq])
 refine tkY 1 (some 94) ?_ ?_ ?_
 rotate_left
 · intro w _; go_simp; (try with_reducible rfl)
 (try simp only [cq])
 refine tkY 4 (some 97) ?_ ?_ ?_
 rotate_left
 · intro w _; go_simp; (try with_reducible rfl)
 (try simp only [cq])
 refine tkY 6 (some 99) ?_ ?_ ?_
 rotate_left
 · intro w _; go_simp; (try with_reducible rfl)
 (try simp only [cq])
 refine wpAnyH_ready (rs := [2]) (by kernel_rfl) (by simp) ?_
 refine arc1 (some 95) fun K hK => ?_
 go_simp
 (refine (kone_any _ _).mono ?_; rintro e w' ⟨rfl, hb⟩; (try replace kI := kI.call hb); (try replace kL := kL.call hb))
 refine hK.out _ _ ?_ ?_
 · (exact hH.call hb)
 (try clear hH); (try clear hd); (try clear hb)
 intro hH
 clear hK K
 (try simp only [cq])
 refine wpAnyH_ready (rs := [3, 5]) (by kernel_rfl) (by simp) ?_
 refine arc (some 96) (fun K hK => ?_) ?_
 {
 go_simp
 first | refine oA hK ?_ (fun hH hA => ?_) | refine oD hK ?_ (fun hH hA => ?_)
 · exact hH.alloc _
 have kI := hA
 clear hA
 obtain ⟨bkI, hbkI⟩ : ∃ b, Blk.num kI = b := ⟨_, rfl⟩
 obtain ⟨Wn, hWn⟩ : ∃ V, Blk.wld kI = V := ⟨_, rfl⟩
 simp only [Blk.num] at hbkI
 simp only [Blk.wld] at hWn
 (try replace kL := awB hWn kL)
 rw [hWn] at hH kI ⊢
 rw [hbkI] at kI ⊢
 clear hbkI hWn
 clear hK K
 (try simp only [cq])
 refine wpAnyH_ready (rs := [5]) (by kernel_rfl) (by simp) ?_
 refine arc1 (some 98) fun K hK => ?_
 go_simp
 (refine (kone_any _ _).mono ?_; rintro e w' ⟨rfl, hb⟩; (try replace kI := kI.call hb); (try replace kL := kL.call hb))
 refine hK.out _ _ ?_ ?_
 · (exact hH.call hb)
 (try clear hH); (try clear hd); (try clear hb)
 intro hH
 clear hK K
 (try simp only [cq])
 refine tkY 7 (some 100) ?_ ?_ ?_
 rotate_left
 · intro w _; go_simp; (try with_reducible rfl)
 (try simp only [cq])
 refine wpAnyH_ready (rs := [8]) (by kernel_rfl) (by simp) ?_
 refine arc1 (some 101) fun K hK => ?_
 go_simp
 first | refine oA hK ?_ (fun hH hA => ?_) | refine oD hK ?_ (fun hH hA => ?_)
 · exact hH.alloc _
 have kL := hA
 clear hA
 obtain ⟨bkL, hbkL⟩ : ∃ b, Blk.num kL = b := ⟨_, rfl⟩
 obtain ⟨Wn, hWn⟩ : ∃ V, Blk.wld kL = V := ⟨_, rfl⟩
 simp only [Blk.num] at hbkL
 simp only [Blk.wld] at hWn
 (try replace kI := awB hWn kI)
 rw [hWn] at hH kL ⊢
 rw [hbkL] at kL ⊢
 clear hbkL hWn
 clear hK K
 (try simp only [cq])
 refine wpAnyH_ready (rs := [9]) (by kernel_rfl) (by simp) ?_
 refine arc1 (some 102) fun K hK => ?_
 go_simp
 (refine (holds_valid HP.out (ni := 1) (I0 := fun _ => th) (I1 := fun _ => th) (nc := 0) (C0 := fun _ => 0) (C1 := fun _ => 0) (n := 1) (L := fun _ => ⟨7, we, we, mi⟩) (by decide) (fun i _ => ⟨t0, Int.le_refl _, (by omega)⟩) (by decide) (fun i h => (by omega)) (by decide) (fun i _ => ⟨(show (0 : Int) ≤ 7 by decide), (show (7 : Int) < 100 * ((1 : Nat) : Int) by decide), we0.1, Int.le_refl _, we0.2, mi0, mi1⟩) _ _ _ _ _ _ (pairs_of_row hH.S) (pairs_of_row hH.C) (pairs1 kI) (pairs0 _ _ _) (loads1 kL)).mono ?_; rintro e w' ⟨v, rfl, rv, hb⟩; replace rv := ints_of_row rv; clear kI kL)
 refine hK.out _ _ ?_ ?_
 · (exact hH.call hb)
 (try clear hH); (try clear hd); (try clear hb)
 intro hH
 clear hK K
 (try simp only [cq])
 refine tkY 10 (some 92) ?_ ?_ ?_
 rotate_left
 · intro w _; go_simp; (try with_reducible rfl)
 (try simp only [cq])
 refine tkY 11 (some 103) ?_ ?_ ?_
 rotate_left
 · intro w _; go_simp; (try with_reducible rfl)
 (try simp only [cq])
 refine tkY 12 (some 104) ?_ ?_ ?_
 rotate_left
 · intro w _; go_simp; (try with_reducible rfl)
 (try simp only [cq])
 refine tkY 13 (some 14) ?_ ?_ ?_
 rotate_left
 · intro w _; go_simp; (try with_reducible rfl)
 (try simp only [cq])
 refine tkY 14 (some 15) ?_ ?_ ?_
 rotate_left
 · intro w _; go_simp; (try with_reducible rfl)
 (try simp only [cq])
 refine wpAnyH_done (by kernel_rfl) ?_ _
 (try dsimp only [Act.put])
 (try simp only [cq])
 clear jK
 have jK := hH
 clear hH
 obtain ⟨av, cv, rfl, _, _, hv⟩ := rv
 obtain ⟨bv, ov, rfl, hc⟩ := hv (by decide)
 have hv0 := hc 0 (by decide)
 clear hv hc
 have hve := verd_alone HP.out (I0 := fun _ => th) (I1 := fun _ => th) (C0 := fun _ => 0) (C1 := fun _ => 0) (L := fun _ => ⟨7, we, we, mi⟩) (x := ⟨7, we, we, mi⟩) rfl
 simp only [HM.out] at hve
 generalize verdV p (fun _ => th) (fun _ => th) 0 (fun _ => 0) (fun _ => 0) 1 (fun _ => ⟨7, we, we, mi⟩) ⟨7, we, we, mi⟩ = vd at hv0 hve
 have HV := Lib.hid hve
 clear hve
 go_upto_region 11 with fail
 obtain ⟨c0, c1, c2, c3, c4, c5, c6, c7, c8, c9, c10⟩ := jK.P.c11
 have zP := jK.P.lt
 go_wp2_with fail
 clear c0 c1 c2 c3 c4 c5 c6 c7 c8 c9 c10 zP
 refine (stands_valid p HP.out _ _ th we ⟨t0, by omega⟩ we0 _ (pairs_of_row jK.S) (pairs_of_row jK.C)).mono ?_
 rintro e w12 ⟨k, rfl, k1, k2, k3, hb⟩
 replace jK := jK.call hb
 replace hv0 := cell_later hb hv0
 clear hb
 have HST : Hid ((mi ≤ (k : Int) - 1) ↔ we ≤ most) := by
   have hM := HM.out
   by_cases h : mi ≤ (k : Int) - 1
   · obtain ⟨j, rfl⟩ : ∃ j, k = j + 1 := ⟨k - 1, by omega⟩
     have h3 := k3 j rfl
     have := HP.out.lim_stand false (th := th) (a := mi) (b := (j : Int)) t0 mi0 (by omega)
     exact ⟨fun _ => by omega, fun _ => h⟩
   · have h2 := k2 (by omega)
     have := HP.out.lim_stand false (th := th) (a := (k : Int)) (b := mi) t0 (by omega) (by omega)
     exact ⟨fun q => absurd q h, fun _ => by omega⟩
 clear k2 k3
 have hmost := HM.out
 simp only [Nat.add_zero] at hv0
 have zv := World.block_lt_of_cell? _ _ hv0
 by_cases hwm : we ≤ most
 · have hvd : vd = 1 := HV.out.2 hwm
   have hms : mi ≤ (k : Int) - 1 := HST.out.2 hwm
   subst hvd
   clear hmost
   go_upto_region 14 with fail
   clear hms hv0 zv
   obtain ⟨c0, c1, c2, c3, c4, c5, c6, c7, c8, c9, c10⟩ := jK.P.c11
   have zP := jK.P.lt
   go_wp2_with fail
   clear c0 c1 c2 c3 c4 c5 c6 c7 c8 c9 c10 zP
   refine (need_valid p HP.out _ _ we mi we0 ⟨mi0, mi1⟩ _ (pairs_of_row jK.S) (pairs_of_row jK.C)).mono ?_
   rintro e w14 ⟨m, hor, hb⟩
   replace jK := jK.call hb
   clear hb
   rcases hor with ⟨rfl, n1, n2, n3⟩ | ⟨rfl, n4⟩
   · have hth : (m : Int) ≤ th ↔ we ≤ most := by
       have hM := HM.out
       by_cases h : (m : Int) ≤ th
       · have := HP.out.lim_thick false (a := (m : Int)) (b := th) mi (by omega) h
         exact ⟨fun _ => by omega, fun _ => h⟩
       · obtain ⟨j, rfl⟩ : ∃ j, m = j + 1 := ⟨m - 1, by omega⟩
         have h3 := n3 j rfl
         have := HP.out.lim_thick false (a := th) (b := (j : Int)) mi t0 (by omega)
         exact ⟨fun q => absurd q h, fun q => by omega⟩
     have N2 := Lib.hid n2
     have N3 := Lib.hid n3
     clear n2 n3
     have hth2 : (m : Int) ≤ th := hth.2 hwm
     clear hth
     go_upto_region 18 with fail
     obtain ⟨c0, c1, c2, c3, c4, c5, c6, c7, c8, c9, c10⟩ := jK.P.c11
     have zP := jK.P.lt
     go_wp2_with fail
     clear c0 c1 c2 c3 c4 c5 c6 c7 c8 c9 c10 zP
     refine (bears_valid p HP.out _ _ (m : Int) mi ⟨by omega, by omega⟩ ⟨mi0, mi1⟩ _ (pairs_of_row jK.S) (pairs_of_row jK.C)).mono ?_
     rintro e w18 ⟨rfl, hb⟩
     replace jK := jK.call hb
     clear hb
     have n5 : ¬ limV p false (m : Int) mi / 1000000000000 < we := by have := N2.out; omega
     generalize limV p false (m : Int) mi / 1000000000000 = lm at n5 ⊢
     go_upto_region 21 with fail
     by_cases hm0 : (0 : Int) < (m : Int)
     · obtain ⟨j, rfl⟩ : ∃ j, m = j + 1 := ⟨m - 1, by omega⟩
       have em : IntKind.i64.wrap (((j + 1 : Nat) : Int) - 1) = (j : Int) := by rw [show ((j + 1 : Nat) : Int) - 1 = (j : Int) by omega]; exact IntWalk.i64_in _ (by omega)
       have hne : ¬ ((j + 1 : Nat) : Int) = 0 := by omega
       obtain ⟨c0, c1, c2, c3, c4, c5, c6, c7, c8, c9, c10⟩ := jK.P.c11
       have zP := jK.P.lt
       go_wp2_with fail
       clear c0 c1 c2 c3 c4 c5 c6 c7 c8 c9 c10 zP
       refine (bears_valid p HP.out _ _ (j : Int) mi ⟨by omega, by omega⟩ ⟨mi0, mi1⟩ _ (pairs_of_row jK.S) (pairs_of_row jK.C)).mono ?_
       rintro e w22 ⟨rfl, hb⟩
       replace jK := jK.call hb
       clear hb
       have n6 : limV p false (j : Int) mi / 1000000000000 < we := by have := N3.out j rfl; omega
       generalize limV p false (j : Int) mi / 1000000000000 = lj at n6 ⊢
       go_wp2_with fail
       refine (awake_any _).mono ?_
       rintro e w23 ⟨rfl, hb⟩
       replace jK := jK.call hb
       go_wp2
       go_ret
       exact ⟨rfl, jK.B⟩
     · obtain rfl : m = 0 := by omega
       go_wp2_with fail
       refine (awake_any _).mono ?_
       rintro e w23 ⟨rfl, hb⟩
       replace jK := jK.call hb
       go_wp2
       go_ret
       exact ⟨rfl, jK.B⟩
   · go_upto_region 16 with fail
     obtain ⟨c0, c1, c2, c3, c4, c5, c6, c7, c8, c9, c10⟩ := jK.P.c11
     have zP := jK.P.lt
     go_wp2_with fail
     clear c0 c1 c2 c3 c4 c5 c6 c7 c8 c9 c10 zP
     refine (bears_valid p HP.out _ _ 5000 mi ⟨by decide, by decide⟩ ⟨mi0, mi1⟩ _ (pairs_of_row jK.S) (pairs_of_row jK.C)).mono ?_
     rintro e w16 ⟨rfl, hb⟩
     replace jK := jK.call hb
     clear hb
     have n5 : limV p false 5000 mi / 1000000000000 < we := by omega
     clear n4
     generalize limV p false 5000 mi / 1000000000000 = l5 at n5 ⊢
     go_wp2_with fail
     refine (awake_any _).mono ?_
     rintro e w17 ⟨rfl, hb⟩
     replace jK := jK.call hb
     go_wp2
     go_ret
     exact ⟨rfl, jK.B⟩
 · have hvd : (vd == 1) = false := by simpa using fun q => hwm (HV.out.1 q)
   have hms : decide (mi ≤ (k : Int) - 1) = false := by simpa using fun q => hwm (HST.out.1 q)
   have hwd : decide (we ≤ most) = false := by simpa using hwm
   have HW := Lib.hid hwm
   clear hmost hwm
   go_upto_region 14 with fail
   clear hms hv0 hvd zv HW
   obtain ⟨c0, c1, c2, c3, c4, c5, c6, c7, c8, c9, c10⟩ := jK.P.c11
   have zP := jK.P.lt
   go_wp2_with fail
   clear c0 c1 c2 c3 c4 c5 c6 c7 c8 c9 c10 zP
   refine (need_valid p HP.out _ _ we mi we0 ⟨mi0, mi1⟩ _ (pairs_of_row jK.S) (pairs_of_row jK.C)).mono ?_
   rintro e w14 ⟨m, hor, hb⟩
   replace jK := jK.call hb
   clear hb
   rcases hor with ⟨rfl, n1, n2, n3⟩ | ⟨rfl, n4⟩
   · have hth : (m : Int) ≤ th ↔ we ≤ most := by
       have hM := HM.out
       by_cases h : (m : Int) ≤ th
       · have := HP.out.lim_thick false (a := (m : Int)) (b := th) mi (by omega) h
         exact ⟨fun _ => by omega, fun _ => h⟩
       · obtain ⟨j, rfl⟩ : ∃ j, m = j + 1 := ⟨m - 1, by omega⟩
         have h3 := n3 j rfl
         have := HP.out.lim_thick false (a := th) (b := (j : Int)) mi t0 (by omega)
         exact ⟨fun q => absurd q h, fun q => by omega⟩
     have N2 := Lib.hid n2
     have N3 := Lib.hid n3
     clear n2 n3
     have hth2 : decide ((m : Int) ≤ th) = false := by
       have hwm : ¬ we ≤ most := by simpa using hwd
       simp only [decide_eq_false_iff_not]
       omega
     clear hth
     go_upto_region 18 with fail
     obtain ⟨c0, c1, c2, c3, c4, c5, c6, c7, c8, c9, c10⟩ := jK.P.c11
     have zP := jK.P.lt
     go_wp2_with fail
     clear c0 c1 c2 c3 c4 c5 c6 c7 c8 c9 c10 zP
     refine (bears_valid p HP.out _ _ (m : Int) mi ⟨by omega, by omega⟩ ⟨mi0, mi1⟩ _ (pairs_of_row jK.S) (pairs_of_row jK.C)).mono ?_
     rintro e w18 ⟨rfl, hb⟩
     replace jK := jK.call hb
     clear hb
     have n5 : ¬ limV p false (m : Int) mi / 1000000000000 < we := by have := N2.out; omega
     generalize limV p false (m : Int) mi / 1000000000000 = lm at n5 ⊢
     go_upto_region 21 with fail
     by_cases hm0 : (0 : Int) < (m : Int)
     · obtain ⟨j, rfl⟩ : ∃ j, m = j + 1 := ⟨m - 1, by omega⟩
       have em : IntKind.i64.wrap (((j + 1 : Nat) : Int) - 1) = (j : Int) := by rw [show ((j + 1 : Nat) : Int) - 1 = (j : Int) by omega]; exact IntWalk.i64_in _ (by omega)
       have hne : ¬ ((j + 1 : Nat) : Int) = 0 := by omega
       obtain ⟨c0, c1, c2, c3, c4, c5, c6, c7, c8, c9, c10⟩ := jK.P.c11
       have zP := jK.P.lt
       go_wp2_with fail
       clear c0 c1 c2 c3 c4 c5 c6 c7 c8 c9 c10 zP
       refine (bears_valid p HP.out _ _ (j : Int) mi ⟨by omega, by omega⟩ ⟨mi0, mi1⟩ _ (pairs_of_row jK.S) (pairs_of_row jK.C)).mono ?_
       rintro e w22 ⟨rfl, hb⟩
       replace jK := jK.call hb
       clear hb
       have n6 : limV p false (j : Int) mi / 1000000000000 < we := by have := N3.out j rfl; omega
       generalize limV p false (j : Int) mi / 1000000000000 = lj at n6 ⊢
       go_wp2_with fail
       refine (awake_any _).mono ?_
       rintro e w23 ⟨rfl, hb⟩
       replace jK := jK.call hb
       go_wp2
       go_ret
       exact ⟨rfl, jK.B⟩
     · obtain rfl : m = 0 := by omega
       go_wp2_with fail
       refine (awake_any _).mono ?_
       rintro e w23 ⟨rfl, hb⟩
       replace jK := jK.call hb
       go_wp2
       go_ret
       exact ⟨rfl, jK.B⟩
   · go_upto_region 16 with fail
     obtain ⟨c0, c1, c2, c3, c4, c5, c6, c7, c8, c9, c10⟩ := jK.P.c11
     have zP := jK.P.lt
     go_wp2_with fail
     clear c0 c1 c2 c3 c4 c5 c6 c7 c8 c9 c10 zP
     refine (bears_valid p HP.out _ _ 5000 mi ⟨by decide, by decide⟩ ⟨mi0, mi1⟩ _ (pairs_of_row jK.S) (pairs_of_row jK.C)).mono ?_
     rintro e w16 ⟨rfl, hb⟩
     replace jK := jK.call hb
     clear hb
     have n5 : limV p false 5000 mi / 1000000000000 < we := by omega
     clear n4
     generalize limV p false 5000 mi / 1000000000000 = l5 at n5 ⊢
     go_wp2_with fail
     refine (awake_any _).mono ?_
     rintro e w17 ⟨rfl, hb⟩
     replace jK := jK.call hb
     go_wp2
     go_ret
     exact ⟨rfl, jK.B⟩
 }
 refine arc (some 98) (fun K hK => ?_) ?_
 {
 go_simp
 (refine (kone_any _ _).mono ?_; rintro e w' ⟨rfl, hb⟩; (try replace kI := kI.call hb); (try replace kL := kL.call hb))
 refine hK.out _ _ ?_ ?_
 · (exact hH.call hb)
 (try clear hH); (try clear hd); (try clear hb)
 intro hH
 clear hK K
 (try simp only [cq])
 refine tkY 7 (some 100) ?_ ?_ ?_
 rotate_left
 · intro w _; go_simp; (try with_reducible rfl)
 (try simp only [cq])
 refine wpAnyH_ready (rs := [3, 8]) (by kernel_rfl) (by simp) ?_
 refine arc (some 96) (fun K hK => ?_) ?_
 {
 go_simp
 first | refine oA hK ?_ (fun hH hA => ?_) | refine oD hK ?_ (fun hH hA => ?_)
 · exact hH.alloc _
 have kI := hA
 clear hA
 obtain ⟨bkI, hbkI⟩ : ∃ b, Blk.num kI = b := ⟨_, rfl⟩
 obtain ⟨Wn, hWn⟩ : ∃ V, Blk.wld kI = V := ⟨_, rfl⟩
 simp only [Blk.num] at hbkI
 simp only [Blk.wld] at hWn
 (try replace kL := awB hWn kL)
 rw [hWn] at hH kI ⊢
 rw [hbkI] at kI ⊢
 clear hbkI hWn
 clear hK K
 (try simp only [cq])
 refine wpAnyH_ready (rs := [8]) (by kernel_rfl) (by simp) ?_
 refine arc1 (some 101) fun K hK => ?_
 go_simp
 first | refine oA hK ?_ (fun hH hA => ?_) | refine oD hK ?_ (fun hH hA => ?_)
 · exact hH.alloc _
 have kL := hA
 clear hA
 obtain ⟨bkL, hbkL⟩ : ∃ b, Blk.num kL = b := ⟨_, rfl⟩
 obtain ⟨Wn, hWn⟩ : ∃ V, Blk.wld kL = V := ⟨_, rfl⟩
 simp only [Blk.num] at hbkL
 simp only [Blk.wld] at hWn
 (try replace kI := awB hWn kI)
 rw [hWn] at hH kL ⊢
 rw [hbkL] at kL ⊢
 clear hbkL hWn
 clear hK K
 (try simp only [cq])
 refine wpAnyH_ready (rs := [9]) (by kernel_rfl) (by simp) ?_
 refine arc1 (some 102) fun K hK => ?_
 go_simp
 (refine (holds_valid HP.out (ni := 1) (I0 := fun _ => th) (I1 := fun _ => th) (nc := 0) (C0 := fun _ => 0) (C1 := fun _ => 0) (n := 1) (L := fun _ => ⟨7, we, we, mi⟩) (by decide) (fun i _ => ⟨t0, Int.le_refl _, (by omega)⟩) (by decide) (fun i h => (by omega)) (by decide) (fun i _ => ⟨(show (0 : Int) ≤ 7 by decide), (show (7 : Int) < 100 * ((1 : Nat) : Int) by decide), we0.1, Int.le_refl _, we0.2, mi0, mi1⟩) _ _ _ _ _ _ (pairs_of_row hH.S) (pairs_of_row hH.C) (pairs1 kI) (pairs0 _ _ _) (loads1 kL)).mono ?_; rintro e w' ⟨v, rfl, rv, hb⟩; replace rv := ints_of_row rv; clear kI kL)
 refine hK.out _ _ ?_ ?_
 · (exact hH.call hb)
 (try clear hH); (try clear hd); (try clear hb)
 intro hH
 clear hK K
 (try simp only [cq])
 refine tkY 10 (some 92) ?_ ?_ ?_
 rotate_left
 · intro w _; go_simp; (try with_reducible rfl)
 (try simp only [cq])
 refine tkY 11 (some 103) ?_ ?_ ?_
 rotate_left
 · intro w _; go_simp; (try with_reducible rfl)
 (try simp only [cq])
 refine tkY 12 (some 104) ?_ ?_ ?_
 rotate_left
 · intro w _; go_simp; (try with_reducible rfl)
 (try simp only [cq])
 refine tkY 13 (some 14) ?_ ?_ ?_
 rotate_left
 · intro w _; go_simp; (try with_reducible rfl)
 (try simp only [cq])
 refine tkY 14 (some 15) ?_ ?_ ?_
 rotate_left
 · intro w _; go_simp; (try with_reducible rfl)
 (try simp only [cq])
 refine wpAnyH_done (by kernel_rfl) ?_ _
 (try dsimp only [Act.put])
 (try simp only [cq])
 clear jK
 have jK := hH
 clear hH
 obtain ⟨av, cv, rfl, _, _, hv⟩ := rv
 obtain ⟨bv, ov, rfl, hc⟩ := hv (by decide)
 have hv0 := hc 0 (by decide)
 clear hv hc
 have hve := verd_alone HP.out (I0 := fun _ => th) (I1 := fun _ => th) (C0 := fun _ => 0) (C1 := fun _ => 0) (L := fun _ => ⟨7, we, we, mi⟩) (x := ⟨7, we, we, mi⟩) rfl
 simp only [HM.out] at hve
 generalize verdV p (fun _ => th) (fun _ => th) 0 (fun _ => 0) (fun _ => 0) 1 (fun _ => ⟨7, we, we, mi⟩) ⟨7, we, we, mi⟩ = vd at hv0 hve
 have HV := Lib.hid hve
 clear hve
 go_upto_region 11 with fail
 obtain ⟨c0, c1, c2, c3, c4, c5, c6, c7, c8, c9, c10⟩ := jK.P.c11
 have zP := jK.P.lt
 go_wp2_with fail
 clear c0 c1 c2 c3 c4 c5 c6 c7 c8 c9 c10 zP
 refine (stands_valid p HP.out _ _ th we ⟨t0, by omega⟩ we0 _ (pairs_of_row jK.S) (pairs_of_row jK.C)).mono ?_
 rintro e w12 ⟨k, rfl, k1, k2, k3, hb⟩
 replace jK := jK.call hb
 replace hv0 := cell_later hb hv0
 clear hb
 have HST : Hid ((mi ≤ (k : Int) - 1) ↔ we ≤ most) := by
   have hM := HM.out
   by_cases h : mi ≤ (k : Int) - 1
   · obtain ⟨j, rfl⟩ : ∃ j, k = j + 1 := ⟨k - 1, by omega⟩
     have h3 := k3 j rfl
     have := HP.out.lim_stand false (th := th) (a := mi) (b := (j : Int)) t0 mi0 (by omega)
     exact ⟨fun _ => by omega, fun _ => h⟩
   · have h2 := k2 (by omega)
     have := HP.out.lim_stand false (th := th) (a := (k : Int)) (b := mi) t0 (by omega) (by omega)
     exact ⟨fun q => absurd q h, fun _ => by omega⟩
 clear k2 k3
 have hmost := HM.out
 simp only [Nat.add_zero] at hv0
 have zv := World.block_lt_of_cell? _ _ hv0
 by_cases hwm : we ≤ most
 · have hvd : vd = 1 := HV.out.2 hwm
   have hms : mi ≤ (k : Int) - 1 := HST.out.2 hwm
   subst hvd
   clear hmost
   go_upto_region 14 with fail
   clear hms hv0 zv
   obtain ⟨c0, c1, c2, c3, c4, c5, c6, c7, c8, c9, c10⟩ := jK.P.c11
   have zP := jK.P.lt
   go_wp2_with fail
   clear c0 c1 c2 c3 c4 c5 c6 c7 c8 c9 c10 zP
   refine (need_valid p HP.out _ _ we mi we0 ⟨mi0, mi1⟩ _ (pairs_of_row jK.S) (pairs_of_row jK.C)).mono ?_
   rintro e w14 ⟨m, hor, hb⟩
   replace jK := jK.call hb
   clear hb
   rcases hor with ⟨rfl, n1, n2, n3⟩ | ⟨rfl, n4⟩
   · have hth : (m : Int) ≤ th ↔ we ≤ most := by
       have hM := HM.out
       by_cases h : (m : Int) ≤ th
       · have := HP.out.lim_thick false (a := (m : Int)) (b := th) mi (by omega) h
         exact ⟨fun _ => by omega, fun _ => h⟩
       · obtain ⟨j, rfl⟩ : ∃ j, m = j + 1 := ⟨m - 1, by omega⟩
         have h3 := n3 j rfl
         have := HP.out.lim_thick false (a := th) (b := (j : Int)) mi t0 (by omega)
         exact ⟨fun q => absurd q h, fun q => by omega⟩
     have N2 := Lib.hid n2
     have N3 := Lib.hid n3
     clear n2 n3
     have hth2 : (m : Int) ≤ th := hth.2 hwm
     clear hth
     go_upto_region 18 with fail
     obtain ⟨c0, c1, c2, c3, c4, c5, c6, c7, c8, c9, c10⟩ := jK.P.c11
     have zP := jK.P.lt
     go_wp2_with fail
     clear c0 c1 c2 c3 c4 c5 c6 c7 c8 c9 c10 zP
     refine (bears_valid p HP.out _ _ (m : Int) mi ⟨by omega, by omega⟩ ⟨mi0, mi1⟩ _ (pairs_of_row jK.S) (pairs_of_row jK.C)).mono ?_
     rintro e w18 ⟨rfl, hb⟩
     replace jK := jK.call hb
     clear hb
     have n5 : ¬ limV p false (m : Int) mi / 1000000000000 < we := by have := N2.out; omega
     generalize limV p false (m : Int) mi / 1000000000000 = lm at n5 ⊢
     go_upto_region 21 with fail
     by_cases hm0 : (0 : Int) < (m : Int)
     · obtain ⟨j, rfl⟩ : ∃ j, m = j + 1 := ⟨m - 1, by omega⟩
       have em : IntKind.i64.wrap (((j + 1 : Nat) : Int) - 1) = (j : Int) := by rw [show ((j + 1 : Nat) : Int) - 1 = (j : Int) by omega]; exact IntWalk.i64_in _ (by omega)
       have hne : ¬ ((j + 1 : Nat) : Int) = 0 := by omega
       obtain ⟨c0, c1, c2, c3, c4, c5, c6, c7, c8, c9, c10⟩ := jK.P.c11
       have zP := jK.P.lt
       go_wp2_with fail
       clear c0 c1 c2 c3 c4 c5 c6 c7 c8 c9 c10 zP
       refine (bears_valid p HP.out _ _ (j : Int) mi ⟨by omega, by omega⟩ ⟨mi0, mi1⟩ _ (pairs_of_row jK.S) (pairs_of_row jK.C)).mono ?_
       rintro e w22 ⟨rfl, hb⟩
       replace jK := jK.call hb
       clear hb
       have n6 : limV p false (j : Int) mi / 1000000000000 < we := by have := N3.out j rfl; omega
       generalize limV p false (j : Int) mi / 1000000000000 = lj at n6 ⊢
       go_wp2_with fail
       refine (awake_any _).mono ?_
       rintro e w23 ⟨rfl, hb⟩
       replace jK := jK.call hb
       go_wp2
       go_ret
       exact ⟨rfl, jK.B⟩
     · obtain rfl : m = 0 := by omega
       go_wp2_with fail
       refine (awake_any _).mono ?_
       rintro e w23 ⟨rfl, hb⟩
       replace jK := jK.call hb
       go_wp2
       go_ret
       exact ⟨rfl, jK.B⟩
   · go_upto_region 16 with fail
     obtain ⟨c0, c1, c2, c3, c4, c5, c6, c7, c8, c9, c10⟩ := jK.P.c11
     have zP := jK.P.lt
     go_wp2_with fail
     clear c0 c1 c2 c3 c4 c5 c6 c7 c8 c9 c10 zP
     refine (bears_valid p HP.out _ _ 5000 mi ⟨by decide, by decide⟩ ⟨mi0, mi1⟩ _ (pairs_of_row jK.S) (pairs_of_row jK.C)).mono ?_
     rintro e w16 ⟨rfl, hb⟩
     replace jK := jK.call hb
     clear hb
     have n5 : limV p false 5000 mi / 1000000000000 < we := by omega
     clear n4
     generalize limV p false 5000 mi / 1000000000000 = l5 at n5 ⊢
     go_wp2_with fail
     refine (awake_any _).mono ?_
     rintro e w17 ⟨rfl, hb⟩
     replace jK := jK.call hb
     go_wp2
     go_ret
     exact ⟨rfl, jK.B⟩
 · have hvd : (vd == 1) = false := by simpa using fun q => hwm (HV.out.1 q)
   have hms : decide (mi ≤ (k : Int) - 1) = false := by simpa using fun q => hwm (HST.out.1 q)
   have hwd : decide (we ≤ most) = false := by simpa using hwm
   have HW := Lib.hid hwm
   clear hmost hwm
   go_upto_region 14 with fail
   clear hms hv0 hvd zv HW
   obtain ⟨c0, c1, c2, c3, c4, c5, c6, c7, c8, c9, c10⟩ := jK.P.c11
   have zP := jK.P.lt
   go_wp2_with fail
   clear c0 c1 c2 c3 c4 c5 c6 c7 c8 c9 c10 zP
   refine (need_valid p HP.out _ _ we mi we0 ⟨mi0, mi1⟩ _ (pairs_of_row jK.S) (pairs_of_row jK.C)).mono ?_
   rintro e w14 ⟨m, hor, hb⟩
   replace jK := jK.call hb
   clear hb
   rcases hor with ⟨rfl, n1, n2, n3⟩ | ⟨rfl, n4⟩
   · have hth : (m : Int) ≤ th ↔ we ≤ most := by
       have hM := HM.out
       by_cases h : (m : Int) ≤ th
       · have := HP.out.lim_thick false (a := (m : Int)) (b := th) mi (by omega) h
         exact ⟨fun _ => by omega, fun _ => h⟩
       · obtain ⟨j, rfl⟩ : ∃ j, m = j + 1 := ⟨m - 1, by omega⟩
         have h3 := n3 j rfl
         have := HP.out.lim_thick false (a := th) (b := (j : Int)) mi t0 (by omega)
         exact ⟨fun q => absurd q h, fun q => by omega⟩
     have N2 := Lib.hid n2
     have N3 := Lib.hid n3
     clear n2 n3
     have hth2 : decide ((m : Int) ≤ th) = false := by
       have hwm : ¬ we ≤ most := by simpa using hwd
       simp only [decide_eq_false_iff_not]
       omega
     clear hth
     go_upto_region 18 with fail
     obtain ⟨c0, c1, c2, c3, c4, c5, c6, c7, c8, c9, c10⟩ := jK.P.c11
     have zP := jK.P.lt
     go_wp2_with fail
     clear c0 c1 c2 c3 c4 c5 c6 c7 c8 c9 c10 zP
     refine (bears_valid p HP.out _ _ (m : Int) mi ⟨by omega, by omega⟩ ⟨mi0, mi1⟩ _ (pairs_of_row jK.S) (pairs_of_row jK.C)).mono ?_
     rintro e w18 ⟨rfl, hb⟩
     replace jK := jK.call hb
     clear hb
     have n5 : ¬ limV p false (m : Int) mi / 1000000000000 < we := by have := N2.out; omega
     generalize limV p false (m : Int) mi / 1000000000000 = lm at n5 ⊢
     go_upto_region 21 with fail
     by_cases hm0 : (0 : Int) < (m : Int)
     · obtain ⟨j, rfl⟩ : ∃ j, m = j + 1 := ⟨m - 1, by omega⟩
       have em : IntKind.i64.wrap (((j + 1 : Nat) : Int) - 1) = (j : Int) := by rw [show ((j + 1 : Nat) : Int) - 1 = (j : Int) by omega]; exact IntWalk.i64_in _ (by omega)
       have hne : ¬ ((j + 1 : Nat) : Int) = 0 := by omega
       obtain ⟨c0, c1, c2, c3, c4, c5, c6, c7, c8, c9, c10⟩ := jK.P.c11
       have zP := jK.P.lt
       go_wp2_with fail
       clear c0 c1 c2 c3 c4 c5 c6 c7 c8 c9 c10 zP
       refine (bears_valid p HP.out _ _ (j : Int) mi ⟨by omega, by omega⟩ ⟨mi0, mi1⟩ _ (pairs_of_row jK.S) (pairs_of_row jK.C)).mono ?_
       rintro e w22 ⟨rfl, hb⟩
       replace jK := jK.call hb
       clear hb
       have n6 : limV p false (j : Int) mi / 1000000000000 < we := by have := N3.out j rfl; omega
       generalize limV p false (j : Int) mi / 1000000000000 = lj at n6 ⊢
       go_wp2_with fail
       refine (awake_any _).mono ?_
       rintro e w23 ⟨rfl, hb⟩
       replace jK := jK.call hb
       go_wp2
       go_ret
       exact ⟨rfl, jK.B⟩
     · obtain rfl : m = 0 := by omega
       go_wp2_with fail
       refine (awake_any _).mono ?_
       rintro e w23 ⟨rfl, hb⟩
       replace jK := jK.call hb
       go_wp2
       go_ret
       exact ⟨rfl, jK.B⟩
   · go_upto_region 16 with fail
     obtain ⟨c0, c1, c2, c3, c4, c5, c6, c7, c8, c9, c10⟩ := jK.P.c11
     have zP := jK.P.lt
     go_wp2_with fail
     clear c0 c1 c2 c3 c4 c5 c6 c7 c8 c9 c10 zP
     refine (bears_valid p HP.out _ _ 5000 mi ⟨by decide, by decide⟩ ⟨mi0, mi1⟩ _ (pairs_of_row jK.S) (pairs_of_row jK.C)).mono ?_
     rintro e w16 ⟨rfl, hb⟩
     replace jK := jK.call hb
     clear hb
     have n5 : limV p false 5000 mi / 1000000000000 < we := by omega
     clear n4
     generalize limV p false 5000 mi / 1000000000000 = l5 at n5 ⊢
     go_wp2_with fail
     refine (awake_any _).mono ?_
     rintro e w17 ⟨rfl, hb⟩
     replace jK := jK.call hb
     go_wp2
     go_ret
     exact ⟨rfl, jK.B⟩
 }
 refine arc (some 101) (fun K hK => ?_) ?_
 {
 go_simp
 first | refine oA hK ?_ (fun hH hA => ?_) | refine oD hK ?_ (fun hH hA => ?_)
 · exact hH.alloc _
 have kL := hA
 clear hA
 obtain ⟨bkL, hbkL⟩ : ∃ b, Blk.num kL = b := ⟨_, rfl⟩
 obtain ⟨Wn, hWn⟩ : ∃ V, Blk.wld kL = V := ⟨_, rfl⟩
 simp only [Blk.num] at hbkL
 simp only [Blk.wld] at hWn
 (try replace kI := awB hWn kI)
 rw [hWn] at hH kL ⊢
 rw [hbkL] at kL ⊢
 clear hbkL hWn
 clear hK K
 (try simp only [cq])
 refine wpAnyH_ready (rs := [3]) (by kernel_rfl) (by simp) ?_
 refine arc1 (some 96) fun K hK => ?_
 go_simp
 first | refine oA hK ?_ (fun hH hA => ?_) | refine oD hK ?_ (fun hH hA => ?_)
 · exact hH.alloc _
 have kI := hA
 clear hA
 obtain ⟨bkI, hbkI⟩ : ∃ b, Blk.num kI = b := ⟨_, rfl⟩
 obtain ⟨Wn, hWn⟩ : ∃ V, Blk.wld kI = V := ⟨_, rfl⟩
 simp only [Blk.num] at hbkI
 simp only [Blk.wld] at hWn
 (try replace kL := awB hWn kL)
 rw [hWn] at hH kI ⊢
 rw [hbkI] at kI ⊢
 clear hbkI hWn
 clear hK K
 (try simp only [cq])
 refine wpAnyH_ready (rs := [9]) (by kernel_rfl) (by simp) ?_
 refine arc1 (some 102) fun K hK => ?_
 go_simp
 (refine (holds_valid HP.out (ni := 1) (I0 := fun _ => th) (I1 := fun _ => th) (nc := 0) (C0 := fun _ => 0) (C1 := fun _ => 0) (n := 1) (L := fun _ => ⟨7, we, we, mi⟩) (by decide) (fun i _ => ⟨t0, Int.le_refl _, (by omega)⟩) (by decide) (fun i h => (by omega)) (by decide) (fun i _ => ⟨(show (0 : Int) ≤ 7 by decide), (show (7 : Int) < 100 * ((1 : Nat) : Int) by decide), we0.1, Int.le_refl _, we0.2, mi0, mi1⟩) _ _ _ _ _ _ (pairs_of_row hH.S) (pairs_of_row hH.C) (pairs1 kI) (pairs0 _ _ _) (loads1 kL)).mono ?_; rintro e w' ⟨v, rfl, rv, hb⟩; replace rv := ints_of_row rv; clear kI kL)
 refine hK.out _ _ ?_ ?_
 · (exact hH.call hb)
 (try clear hH); (try clear hd); (try clear hb)
 intro hH
 clear hK K
 (try simp only [cq])
 refine tkY 10 (some 92) ?_ ?_ ?_
 rotate_left
 · intro w _; go_simp; (try with_reducible rfl)
 (try simp only [cq])
 refine tkY 11 (some 103) ?_ ?_ ?_
 rotate_left
 · intro w _; go_simp; (try with_reducible rfl)
 (try simp only [cq])
 refine tkY 12 (some 104) ?_ ?_ ?_
 rotate_left
 · intro w _; go_simp; (try with_reducible rfl)
 (try simp only [cq])
 refine tkY 13 (some 14) ?_ ?_ ?_
 rotate_left
 · intro w _; go_simp; (try with_reducible rfl)
 (try simp only [cq])
 refine tkY 14 (some 15) ?_ ?_ ?_
 rotate_left
 · intro w _; go_simp; (try with_reducible rfl)
 (try simp only [cq])
 refine wpAnyH_done (by kernel_rfl) ?_ _
 (try dsimp only [Act.put])
 (try simp only [cq])
 clear jK
 have jK := hH
 clear hH
 obtain ⟨av, cv, rfl, _, _, hv⟩ := rv
 obtain ⟨bv, ov, rfl, hc⟩ := hv (by decide)
 have hv0 := hc 0 (by decide)
 clear hv hc
 have hve := verd_alone HP.out (I0 := fun _ => th) (I1 := fun _ => th) (C0 := fun _ => 0) (C1 := fun _ => 0) (L := fun _ => ⟨7, we, we, mi⟩) (x := ⟨7, we, we, mi⟩) rfl
 simp only [HM.out] at hve
 generalize verdV p (fun _ => th) (fun _ => th) 0 (fun _ => 0) (fun _ => 0) 1 (fun _ => ⟨7, we, we, mi⟩) ⟨7, we, we, mi⟩ = vd at hv0 hve
 have HV := Lib.hid hve
 clear hve
 go_upto_region 11 with fail
 obtain ⟨c0, c1, c2, c3, c4, c5, c6, c7, c8, c9, c10⟩ := jK.P.c11
 have zP := jK.P.lt
 go_wp2_with fail
 clear c0 c1 c2 c3 c4 c5 c6 c7 c8 c9 c10 zP
 refine (stands_valid p HP.out _ _ th we ⟨t0, by omega⟩ we0 _ (pairs_of_row jK.S) (pairs_of_row jK.C)).mono ?_
 rintro e w12 ⟨k, rfl, k1, k2, k3, hb⟩
 replace jK := jK.call hb
 replace hv0 := cell_later hb hv0
 clear hb
 have HST : Hid ((mi ≤ (k : Int) - 1) ↔ we ≤ most) := by
   have hM := HM.out
   by_cases h : mi ≤ (k : Int) - 1
   · obtain ⟨j, rfl⟩ : ∃ j, k = j + 1 := ⟨k - 1, by omega⟩
     have h3 := k3 j rfl
     have := HP.out.lim_stand false (th := th) (a := mi) (b := (j : Int)) t0 mi0 (by omega)
     exact ⟨fun _ => by omega, fun _ => h⟩
   · have h2 := k2 (by omega)
     have := HP.out.lim_stand false (th := th) (a := (k : Int)) (b := mi) t0 (by omega) (by omega)
     exact ⟨fun q => absurd q h, fun _ => by omega⟩
 clear k2 k3
 have hmost := HM.out
 simp only [Nat.add_zero] at hv0
 have zv := World.block_lt_of_cell? _ _ hv0
 by_cases hwm : we ≤ most
 · have hvd : vd = 1 := HV.out.2 hwm
   have hms : mi ≤ (k : Int) - 1 := HST.out.2 hwm
   subst hvd
   clear hmost
   go_upto_region 14 with fail
   clear hms hv0 zv
   obtain ⟨c0, c1, c2, c3, c4, c5, c6, c7, c8, c9, c10⟩ := jK.P.c11
   have zP := jK.P.lt
   go_wp2_with fail
   clear c0 c1 c2 c3 c4 c5 c6 c7 c8 c9 c10 zP
   refine (need_valid p HP.out _ _ we mi we0 ⟨mi0, mi1⟩ _ (pairs_of_row jK.S) (pairs_of_row jK.C)).mono ?_
   rintro e w14 ⟨m, hor, hb⟩
   replace jK := jK.call hb
   clear hb
   rcases hor with ⟨rfl, n1, n2, n3⟩ | ⟨rfl, n4⟩
   · have hth : (m : Int) ≤ th ↔ we ≤ most := by
       have hM := HM.out
       by_cases h : (m : Int) ≤ th
       · have := HP.out.lim_thick false (a := (m : Int)) (b := th) mi (by omega) h
         exact ⟨fun _ => by omega, fun _ => h⟩
       · obtain ⟨j, rfl⟩ : ∃ j, m = j + 1 := ⟨m - 1, by omega⟩
         have h3 := n3 j rfl
         have := HP.out.lim_thick false (a := th) (b := (j : Int)) mi t0 (by omega)
         exact ⟨fun q => absurd q h, fun q => by omega⟩
     have N2 := Lib.hid n2
     have N3 := Lib.hid n3
     clear n2 n3
     have hth2 : (m : Int) ≤ th := hth.2 hwm
     clear hth
     go_upto_region 18 with fail
     obtain ⟨c0, c1, c2, c3, c4, c5, c6, c7, c8, c9, c10⟩ := jK.P.c11
     have zP := jK.P.lt
     go_wp2_with fail
     clear c0 c1 c2 c3 c4 c5 c6 c7 c8 c9 c10 zP
     refine (bears_valid p HP.out _ _ (m : Int) mi ⟨by omega, by omega⟩ ⟨mi0, mi1⟩ _ (pairs_of_row jK.S) (pairs_of_row jK.C)).mono ?_
     rintro e w18 ⟨rfl, hb⟩
     replace jK := jK.call hb
     clear hb
     have n5 : ¬ limV p false (m : Int) mi / 1000000000000 < we := by have := N2.out; omega
     generalize limV p false (m : Int) mi / 1000000000000 = lm at n5 ⊢
     go_upto_region 21 with fail
     by_cases hm0 : (0 : Int) < (m : Int)
     · obtain ⟨j, rfl⟩ : ∃ j, m = j + 1 := ⟨m - 1, by omega⟩
       have em : IntKind.i64.wrap (((j + 1 : Nat) : Int) - 1) = (j : Int) := by rw [show ((j + 1 : Nat) : Int) - 1 = (j : Int) by omega]; exact IntWalk.i64_in _ (by omega)
       have hne : ¬ ((j + 1 : Nat) : Int) = 0 := by omega
       obtain ⟨c0, c1, c2, c3, c4, c5, c6, c7, c8, c9, c10⟩ := jK.P.c11
       have zP := jK.P.lt
       go_wp2_with fail
       clear c0 c1 c2 c3 c4 c5 c6 c7 c8 c9 c10 zP
       refine (bears_valid p HP.out _ _ (j : Int) mi ⟨by omega, by omega⟩ ⟨mi0, mi1⟩ _ (pairs_of_row jK.S) (pairs_of_row jK.C)).mono ?_
       rintro e w22 ⟨rfl, hb⟩
       replace jK := jK.call hb
       clear hb
       have n6 : limV p false (j : Int) mi / 1000000000000 < we := by have := N3.out j rfl; omega
       generalize limV p false (j : Int) mi / 1000000000000 = lj at n6 ⊢
       go_wp2_with fail
       refine (awake_any _).mono ?_
       rintro e w23 ⟨rfl, hb⟩
       replace jK := jK.call hb
       go_wp2
       go_ret
       exact ⟨rfl, jK.B⟩
     · obtain rfl : m = 0 := by omega
       go_wp2_with fail
       refine (awake_any _).mono ?_
       rintro e w23 ⟨rfl, hb⟩
       replace jK := jK.call hb
       go_wp2
       go_ret
       exact ⟨rfl, jK.B⟩
   · go_upto_region 16 with fail
     obtain ⟨c0, c1, c2, c3, c4, c5, c6, c7, c8, c9, c10⟩ := jK.P.c11
     have zP := jK.P.lt
     go_wp2_with fail
     clear c0 c1 c2 c3 c4 c5 c6 c7 c8 c9 c10 zP
     refine (bears_valid p HP.out _ _ 5000 mi ⟨by decide, by decide⟩ ⟨mi0, mi1⟩ _ (pairs_of_row jK.S) (pairs_of_row jK.C)).mono ?_
     rintro e w16 ⟨rfl, hb⟩
     replace jK := jK.call hb
     clear hb
     have n5 : limV p false 5000 mi / 1000000000000 < we := by omega
     clear n4
     generalize limV p false 5000 mi / 1000000000000 = l5 at n5 ⊢
     go_wp2_with fail
     refine (awake_any _).mono ?_
     rintro e w17 ⟨rfl, hb⟩
     replace jK := jK.call hb
     go_wp2
     go_ret
     exact ⟨rfl, jK.B⟩
 · have hvd : (vd == 1) = false := by simpa using fun q => hwm (HV.out.1 q)
   have hms : decide (mi ≤ (k : Int) - 1) = false := by simpa using fun q => hwm (HST.out.1 q)
   have hwd : decide (we ≤ most) = false := by simpa using hwm
   have HW := Lib.hid hwm
   clear hmost hwm
   go_upto_region 14 with fail
   clear hms hv0 hvd zv HW
   obtain ⟨c0, c1, c2, c3, c4, c5, c6, c7, c8, c9, c10⟩ := jK.P.c11
   have zP := jK.P.lt
   go_wp2_with fail
   clear c0 c1 c2 c3 c4 c5 c6 c7 c8 c9 c10 zP
   refine (need_valid p HP.out _ _ we mi we0 ⟨mi0, mi1⟩ _ (pairs_of_row jK.S) (pairs_of_row jK.C)).mono ?_
   rintro e w14 ⟨m, hor, hb⟩
   replace jK := jK.call hb
   clear hb
   rcases hor with ⟨rfl, n1, n2, n3⟩ | ⟨rfl, n4⟩
   · have hth : (m : Int) ≤ th ↔ we ≤ most := by
       have hM := HM.out
       by_cases h : (m : Int) ≤ th
       · have := HP.out.lim_thick false (a := (m : Int)) (b := th) mi (by omega) h
         exact ⟨fun _ => by omega, fun _ => h⟩
       · obtain ⟨j, rfl⟩ : ∃ j, m = j + 1 := ⟨m - 1, by omega⟩
         have h3 := n3 j rfl
         have := HP.out.lim_thick false (a := th) (b := (j : Int)) mi t0 (by omega)
         exact ⟨fun q => absurd q h, fun q => by omega⟩
     have N2 := Lib.hid n2
     have N3 := Lib.hid n3
     clear n2 n3
     have hth2 : decide ((m : Int) ≤ th) = false := by
       have hwm : ¬ we ≤ most := by simpa using hwd
       simp only [decide_eq_false_iff_not]
       omega
     clear hth
     go_upto_region 18 with fail
     obtain ⟨c0, c1, c2, c3, c4, c5, c6, c7, c8, c9, c10⟩ := jK.P.c11
     have zP := jK.P.lt
     go_wp2_with fail
     clear c0 c1 c2 c3 c4 c5 c6 c7 c8 c9 c10 zP
     refine (bears_valid p HP.out _ _ (m : Int) mi ⟨by omega, by omega⟩ ⟨mi0, mi1⟩ _ (pairs_of_row jK.S) (pairs_of_row jK.C)).mono ?_
     rintro e w18 ⟨rfl, hb⟩
     replace jK := jK.call hb
     clear hb
     have n5 : ¬ limV p false (m : Int) mi / 1000000000000 < we := by have := N2.out; omega
     generalize limV p false (m : Int) mi / 1000000000000 = lm at n5 ⊢
     go_upto_region 21 with fail
     by_cases hm0 : (0 : Int) < (m : Int)
     · obtain ⟨j, rfl⟩ : ∃ j, m = j + 1 := ⟨m - 1, by omega⟩
       have em : IntKind.i64.wrap (((j + 1 : Nat) : Int) - 1) = (j : Int) := by rw [show ((j + 1 : Nat) : Int) - 1 = (j : Int) by omega]; exact IntWalk.i64_in _ (by omega)
       have hne : ¬ ((j + 1 : Nat) : Int) = 0 := by omega
       obtain ⟨c0, c1, c2, c3, c4, c5, c6, c7, c8, c9, c10⟩ := jK.P.c11
       have zP := jK.P.lt
       go_wp2_with fail
       clear c0 c1 c2 c3 c4 c5 c6 c7 c8 c9 c10 zP
       refine (bears_valid p HP.out _ _ (j : Int) mi ⟨by omega, by omega⟩ ⟨mi0, mi1⟩ _ (pairs_of_row jK.S) (pairs_of_row jK.C)).mono ?_
       rintro e w22 ⟨rfl, hb⟩
       replace jK := jK.call hb
       clear hb
       have n6 : limV p false (j : Int) mi / 1000000000000 < we := by have := N3.out j rfl; omega
       generalize limV p false (j : Int) mi / 1000000000000 = lj at n6 ⊢
       go_wp2_with fail
       refine (awake_any _).mono ?_
       rintro e w23 ⟨rfl, hb⟩
       replace jK := jK.call hb
       go_wp2
       go_ret
       exact ⟨rfl, jK.B⟩
     · obtain rfl : m = 0 := by omega
       go_wp2_with fail
       refine (awake_any _).mono ?_
       rintro e w23 ⟨rfl, hb⟩
       replace jK := jK.call hb
       go_wp2
       go_ret
       exact ⟨rfl, jK.B⟩
   · go_upto_region 16 with fail
     obtain ⟨c0, c1, c2, c3, c4, c5, c6, c7, c8, c9, c10⟩ := jK.P.c11
     have zP := jK.P.lt
     go_wp2_with fail
     clear c0 c1 c2 c3 c4 c5 c6 c7 c8 c9 c10 zP
     refine (bears_valid p HP.out _ _ 5000 mi ⟨by decide, by decide⟩ ⟨mi0, mi1⟩ _ (pairs_of_row jK.S) (pairs_of_row jK.C)).mono ?_
     rintro e w16 ⟨rfl, hb⟩
     replace jK := jK.call hb
     clear hb
     have n5 : limV p false 5000 mi / 1000000000000 < we := by omega
     clear n4
     generalize limV p false 5000 mi / 1000000000000 = l5 at n5 ⊢
     go_wp2_with fail
     refine (awake_any _).mono ?_
     rintro e w17 ⟨rfl, hb⟩
     replace jK := jK.call hb
     go_wp2
     go_ret
     exact ⟨rfl, jK.B⟩
 }
 exact AllReadyH.nil
 }
 exact AllReadyH.nil )
end Go.Proofs.Ytfakmggabicdjaa
