/-
  The kit's InnerDays: days within days.
  FrostNarrows says yes: what is known better stays within.
-/
import Derived.Test.YtkldjaofgdklbaaTail
import Derived.Test.YtkldjaofgdklbaaInner
import Derived.Test.YtkldjaofgdklbaaRef11
import Derived.Test.YtkldjaofgdklbaaNn
import Derived.Test.YtkldjaofgdklbaaBearing
import Derived.Test.YtkldjaofgdklbaaBig
import Derived.Test.YtkldjaofgdklbaaAwake
import Derived.Test.YtkldjaofgdklbaaNew
set_option linter.unusedVariables false
set_option linter.unusedSimpArgs false
namespace Go.Proofs.Ytkldjaofgdklbaa
open Go.RowKit

theorem updD_at {d : Nat → Dy} {k : Nat} {v : Dy} {P : Nat → Dy → Prop} (h : ∀ i, i < k → P i (d i)) (hv : P k v) : ∀ i, i < k + 1 → P i (updD d k v i) := by
  intro i hi
  by_cases e : i = k
  · rw [show updD d k v i = v from if_pos e, e]
    exact hv
  · rw [show updD d k v i = d i from if_neg e]
    exact h i (by omega)
theorem day_in {d : Dy} (hd : d.Ok) {u0 u1 v0 v1 : Int} (h1 : d.c0 ≤ u0) (h2 : u0 ≤ u1) (h3 : u1 ≤ d.c1) (h4 : d.f0 ≤ v0) (h5 : v0 ≤ v1) (h6 : v1 ≤ d.f1) : Dy.Ok ⟨u0, u1, v0, v1, d.wa, d.cl⟩ ∧ Dy.Sub ⟨u0, u1, v0, v1, d.wa, d.cl⟩ d := by
  obtain ⟨a1, a2, a3, a4, a5, a6, a7, a8⟩ := hd
  exact ⟨⟨by simp only; omega, by simp only; omega, by simp only; omega, by simp only; omega, by simp only; omega, by simp only; omega, a7, a8⟩, ⟨h1, h3, h4, h6, rfl, rfl⟩⟩

set_option maxRecDepth 100000 in
set_option maxHeartbeats 8000000 in
theorem innerdays_in (n : Nat) (hn : n ≤ 400) (vd : Value) (d : Nat → Dy) (bs : Nat) (w : World) (hs : SeedAt bs w) (hR : w.ownsRow (bs + 1) 30 6 vd n (daysC d n)) (hd : ∀ i, i < n → (d i).Ok) :
    Calls Try.prog 43 #[.pointer (some ⟨bs, 0, none⟩), vd] w fun e w' => ∃ (v : Value) (dd : Nat → Dy), e = .returned v ∧ (∀ i, i < n → (dd i).Ok ∧ (dd i).Sub (d i)) ∧ w'.ownsRow w.heap.size 30 6 v n (daysC dd n) ∧ Drawn bs w w' := by
  have hbs : bs < w.heap.size := hs.choose_spec.lt
  obtain ⟨base, hbase⟩ : ∃ b, w.heap.size = b := ⟨_, rfl⟩
  rw [hbase]
  have zwb : w.heap.size ≤ base := by omega
  have zbb : base ≤ w.heap.size := by omega
  clear hbase
  have kD0 := daysAt_of_row hR
  obtain ⟨da, dcap, hvd, ncap, cmax, hz3⟩ := kD0
  clear hz3
  subst hvd
  have HR := Lib.hid hR
  clear hR
  have HD := Lib.hid hd
  clear hd
  have jR := World.ownsRow_nil w base 30 6
  have hA := Drawn.refl hs
  go_enter Try.func43, Try.ntmps43
  go_wp2_with fail
  go_loopw [5, 6] (fun vs ip wr => ∃ (k : Nat) (v : Value) (dd : Nat → Dy), vs = v ∧ ip = .int .i64 k ∧ k ≤ n ∧ (∀ i, i < k → (dd i).Ok ∧ (dd i).Sub (d i)) ∧ wr.ownsRow base 30 6 v k (daysC dd k) ∧ Drawn bs w wr ∧ base ≤ wr.heap.size) (fun _ ip _ => n - (intOf ip).toNat)
  case atStart => exact ⟨0, _, fun _ => ⟨0, 0, 0, 0, 0, false⟩, rfl, rfl, by omega, fun i hi => by omega, jR, hA, zbb⟩
  case round =>
    obtain ⟨k, v, dd, hv, rfl, hkn, hk, jR, hA, zB⟩ := hrel
    replace hv := hv.symm
    subst hv
    by_cases hlt : k < n
    · have kD := daysAt_of_row (hA.row HR.out (by omega))
      obtain ⟨da', dcap', hvd, _, _, hz3⟩ := kD
      simp only [Value.slice.injEq] at hvd
      obtain ⟨rfl, _, rfl⟩ := hvd
      obtain ⟨b, o, rfl, hc⟩ := hz3 (by omega)
      clear hz3
      have hdk := HD.out k hlt
      obtain ⟨a0, a1, a2, a3, a4, a5⟩ := hc k hlt
      clear hc
      obtain ⟨dk, hdk2⟩ : ∃ z, d k = z := ⟨_, rfl⟩
      rw [hdk2] at a0 a1 a2 a3 a4 a5 hdk
      have HK := Lib.hid hdk2
      clear hdk2
      obtain ⟨c0, c1, f0, f1, wa, cl⟩ := dk
      dsimp only at a0 a1 a2 a3 a4 a5
      have hblt := World.block_lt_of_cell? _ _ a0
      go_upto_region 6 with fail
      have hg0 : ∀ q, v.ownBlock = some q → q < wr.heap.size := fun q e => (jR.lt q e).2
      have jD := Blk.new wr #[.int .i64 c0, .int .i64 c1, .int .i64 f0, .int .i64 f1, .int .i64 wa, .bool cl] 30
      replace jR := jR.alloc (.cells #[.int .i64 c0, .int .i64 c1, .int .i64 f0, .int .i64 f1, .int .i64 wa, .bool cl] 30)
      replace hA := hA.new (.cells #[.int .i64 c0, .int .i64 c1, .int .i64 f0, .int .i64 f1, .int .i64 wa, .bool cl] 30)
      have zBD : base ≤ wr.heap.size := zB
      clear a0 a1 a2 a3 a4 a5 hblt
      have hg : ∀ q, v.ownBlock = some q → q < (⟨wr.heap.size, 0, none⟩ : Addr).block := hg0
      have kP0 := Lib.hid (fun (u0 u1 v0 v1 : Int) => day_in hdk (u0 := u0) (u1 := u1) (v0 := v0) (v1 := v1))
      obtain ⟨e1, e2, e3, e4, e5, e6, _, _⟩ := hdk
      dsimp only at e1 e2 e3 e4 e5 e6
      have HP1 := Lib.hid (show ∀ W, SeedAt bs W → Calls Try.prog 71 #[.pointer (some ⟨bs, 0, none⟩), .agg #[.int .i64 c0, .int .i64 c1]] W fun e w' => ∃ u v, e = .returned (.agg #[.int .i64 u, .int .i64 v]) ∧ c0 ≤ u ∧ u ≤ v ∧ v ≤ c1 ∧ Drawn bs W w' from fun W hW => kpart_in c0 c1 bs W hW (by omega) (by omega) (by omega))
      have HP2 := Lib.hid (show ∀ W, SeedAt bs W → Calls Try.prog 71 #[.pointer (some ⟨bs, 0, none⟩), .agg #[.int .i64 f0, .int .i64 f1]] W fun e w' => ∃ u v, e = .returned (.agg #[.int .i64 u, .int .i64 v]) ∧ f0 ≤ u ∧ u ≤ v ∧ v ≤ f1 ∧ Drawn bs W w' from fun W hW => kpart_in f0 f1 bs W hW (by omega) (by omega) (by omega))
      clear e1 e2 e3 e4 e5 e6
      obtain ⟨bD, hbD⟩ : ∃ b, wr.heap.size = b := ⟨_, rfl⟩
      have hwD : w.heap.size ≤ bD := by omega
      replace zB : base ≤ (wr.alloc (.cells #[.int .i64 c0, .int .i64 c1, .int .i64 f0, .int .i64 f1, .int .i64 wa, .bool cl] 30)).heap.size := by simp; omega
      generalize wr.alloc (.cells #[.int .i64 c0, .int .i64 c1, .int .i64 f0, .int .i64 f1, .int .i64 wa, .bool cl] 30) = V at jD jR hA zB ⊢
      rw [hbD] at hg jD zBD
      (try rw [hbD])
      clear hbD hg0
      go_cut [7] (fun s7 wx => ∃ u0 u1 v0 v1 : Int, s7 = .pointer (some ⟨bD, 0, none⟩) ∧ c0 ≤ u0 ∧ u0 ≤ u1 ∧ u1 ≤ c1 ∧ f0 ≤ v0 ∧ v0 ≤ v1 ∧ v1 ≤ f1 ∧ Blk wx bD #[.int .i64 u0, .int .i64 u1, .int .i64 v0, .int .i64 v1, .int .i64 wa, .bool cl] 30 ∧ wx.ownsRow base 30 6 v k (daysC dd k) ∧ Drawn bs w wx ∧ base ≤ wx.heap.size)
      case first =>
        have kP := jD.drew
        (
 refine wp_region_held_drew (S := (fun w' => w'.ownsRow base 30 6 v k (daysC dd k) ∧ Drawn bs w w' ∧ base ≤ w'.heap.size)) (by kernel_rfl) ?_ (fun hH => ?_)
 · (try dsimp only); (exact ⟨jR, hA.trans (Drawn.drew hA.seed), zB⟩)
 refine tkY 0 (some 18) ?_ ?_ ?_
 rotate_left
 · intro w _; go_simp; (try with_reducible rfl)
 (try simp only [cq])
 refine tkY 1 (some 19) ?_ ?_ ?_
 rotate_left
 · intro w hS0; go_simp; (try with_reducible rfl)
 (try simp only [cq])
 refine tkY 4 (some 22) ?_ ?_ ?_
 rotate_left
 · intro w _; go_simp; (try with_reducible rfl)
 (try simp only [cq])
 refine tkY 5 (some 23) ?_ ?_ ?_
 rotate_left
 · intro w hS0; go_simp; (try with_reducible rfl)
 (try simp only [cq])
 refine wpAnyH_ready (rs := [2, 6]) (by kernel_rfl) (by simp) ?_
 refine arc (some 20) (fun K hK => ?_) ?_
 {
 obtain ⟨q0, q1, q2, q3, q4, q5⟩ := kP.c6
 have zP := kP.lt
 go_simp
 refine hK.out _ _ ?_ ?_
 · exact hH
 (try clear hH); (try clear hd)
 intro hH
 clear q0 q1 q2 q3 q4 q5 zP
 clear hK K
 (try simp only [cq])
 refine wpAnyH_ready (rs := [3, 6]) (by kernel_rfl) (by simp) ?_
 refine arc (some 21) (fun K hK => ?_) ?_
 {
 go_simp
 (refine (HP1.out _ hH.2.1.seed).mono ?_; rintro e w' ⟨u0, u1, rfl, h1, h2, h3, hd⟩; replace kP := hd.blk kP (by omega))
 refine hK.out _ _ ?_ ?_
 · (exact ⟨hd.row hH.1 (by omega), hH.2.1.trans hd, Nat.le_trans hH.2.2 hd.2.size⟩)
 (try clear hH); (try clear hd)
 intro hH
 clear hK K
 (try simp only [cq])
 refine wpAnyH_ready (rs := [6]) (by kernel_rfl) (by simp) ?_
 refine arc1 (some 24) fun K hK => ?_
 obtain ⟨q0, q1, q2, q3, q4, q5⟩ := kP.c6
 have zP := kP.lt
 go_simp
 refine hK.out _ _ ?_ ?_
 · exact hH
 (try clear hH); (try clear hd)
 intro hH
 clear q0 q1 q2 q3 q4 q5 zP
 clear hK K
 (try simp only [cq])
 refine tkY 8 (some 26) ?_ ?_ ?_
 rotate_left
 · intro w hS0; go_simp; (try with_reducible rfl)
 (try simp only [cq])
 refine wpAnyH_ready (rs := [7]) (by kernel_rfl) (by simp) ?_
 refine arc1 (some 25) fun K hK => ?_
 go_simp
 (refine (HP2.out _ hH.2.1.seed).mono ?_; rintro e w' ⟨v0, v1, rfl, h4, h5, h6, hd⟩; replace kP := hd.blk kP (by omega))
 refine hK.out _ _ ?_ ?_
 · (exact ⟨hd.row hH.1 (by omega), hH.2.1.trans hd, Nat.le_trans hH.2.2 hd.2.size⟩)
 (try clear hH); (try clear hd)
 intro hH
 clear hK K
 (try simp only [cq])
 refine wpAnyH_ready (rs := [9]) (by kernel_rfl) (by simp) ?_
 refine arc1 none fun K hK => ?_
 obtain ⟨g1, g2, g3⟩ := hH
 obtain ⟨q0, q1, q2, q3, q4, q5⟩ := kP.c6
 have fr0 := kP.free 0
 have fr1 := kP.free 1
 have zR := kP.lt
 have HS := Lib.hid (show Blk _ _ #[.int .i64 u0, .int .i64 u1, .int .i64 f0, .int .i64 f1, .int .i64 wa, .bool cl] _ from (kP.set 0 (.int .i64 u0)).set 1 (.int .i64 u1))
 have HA := Lib.hid ((g2.set (p := ⟨bD, 0, none⟩) (by simp; omega) hbs (.int .i64 u0)).set (p := ⟨bD, 1, none⟩) (by simp; omega) hbs (.int .i64 u1))
 have HRw := Lib.hid (ownsRow_other (ownsRow_other g1 ⟨bD, 0, none⟩ (.int .i64 u0) hg) ⟨bD, 1, none⟩ (.int .i64 u1) hg)
 go_simp
 refine hK.out _ _ ?_ ?_
 · exact ⟨HRw.out, HA.out, by simpa using g3⟩
 (try clear hH); (try clear hd)
 intro hH
 clear q0 q1 q2 q3 q4 q5 fr0 fr1 zR g1 g2 g3
 replace kP := HS.out
 clear HS HA HRw
 clear hK K
 (try simp only [cq])
 refine tkY 10 (some 27) ?_ ?_ ?_
 rotate_left
 · intro w hS0; go_simp; (try with_reducible rfl)
 (try simp only [cq])
 refine wpAnyH_ready (rs := [11]) (by kernel_rfl) (by simp) ?_
 refine arc1 none fun K hK => ?_
 obtain ⟨g1, g2, g3⟩ := hH
 obtain ⟨q0, q1, q2, q3, q4, q5⟩ := kP.c6
 have fr2 := kP.free 2
 have fr3 := kP.free 3
 have zR := kP.lt
 have HS := Lib.hid (show Blk _ _ #[.int .i64 u0, .int .i64 u1, .int .i64 v0, .int .i64 v1, .int .i64 wa, .bool cl] _ from (kP.set 2 (.int .i64 v0)).set 3 (.int .i64 v1))
 have HA := Lib.hid ((g2.set (p := ⟨bD, 2, none⟩) (by simp; omega) hbs (.int .i64 v0)).set (p := ⟨bD, 3, none⟩) (by simp; omega) hbs (.int .i64 v1))
 have HRw := Lib.hid (ownsRow_other (ownsRow_other g1 ⟨bD, 2, none⟩ (.int .i64 v0) hg) ⟨bD, 3, none⟩ (.int .i64 v1) hg)
 go_simp
 refine hK.out _ _ ?_ ?_
 · exact ⟨HRw.out, HA.out, by simpa using g3⟩
 (try clear hH); (try clear hd)
 intro hH
 clear q0 q1 q2 q3 q4 q5 fr2 fr3 zR g1 g2 g3
 replace kP := HS.out
 clear HS HA HRw
 clear hK K
 (try simp only [cq])
 refine wpAnyH_done (by kernel_rfl) ?_ _
 (try dsimp only [Act.put])
 (try simp only [cq])
 go_wp2_with fail
 go_meet
 exact ⟨u0, u1, v0, v1, rfl, h1, h2, h3, h4, h5, h6, kP, hH.1, hH.2.1, hH.2.2⟩
 }
 refine arc (some 24) (fun K hK => ?_) ?_
 {
 obtain ⟨q0, q1, q2, q3, q4, q5⟩ := kP.c6
 have zP := kP.lt
 go_simp
 refine hK.out _ _ ?_ ?_
 · exact hH
 (try clear hH); (try clear hd)
 intro hH
 clear q0 q1 q2 q3 q4 q5 zP
 clear hK K
 (try simp only [cq])
 refine wpAnyH_ready (rs := [3]) (by kernel_rfl) (by simp) ?_
 refine arc1 (some 21) fun K hK => ?_
 go_simp
 (refine (HP1.out _ hH.2.1.seed).mono ?_; rintro e w' ⟨u0, u1, rfl, h1, h2, h3, hd⟩; replace kP := hd.blk kP (by omega))
 refine hK.out _ _ ?_ ?_
 · (exact ⟨hd.row hH.1 (by omega), hH.2.1.trans hd, Nat.le_trans hH.2.2 hd.2.size⟩)
 (try clear hH); (try clear hd)
 intro hH
 clear hK K
 (try simp only [cq])
 refine tkY 8 (some 26) ?_ ?_ ?_
 rotate_left
 · intro w hS0; go_simp; (try with_reducible rfl)
 (try simp only [cq])
 refine wpAnyH_ready (rs := [7]) (by kernel_rfl) (by simp) ?_
 refine arc1 (some 25) fun K hK => ?_
 go_simp
 (refine (HP2.out _ hH.2.1.seed).mono ?_; rintro e w' ⟨v0, v1, rfl, h4, h5, h6, hd⟩; replace kP := hd.blk kP (by omega))
 refine hK.out _ _ ?_ ?_
 · (exact ⟨hd.row hH.1 (by omega), hH.2.1.trans hd, Nat.le_trans hH.2.2 hd.2.size⟩)
 (try clear hH); (try clear hd)
 intro hH
 clear hK K
 (try simp only [cq])
 refine wpAnyH_ready (rs := [9]) (by kernel_rfl) (by simp) ?_
 refine arc1 none fun K hK => ?_
 obtain ⟨g1, g2, g3⟩ := hH
 obtain ⟨q0, q1, q2, q3, q4, q5⟩ := kP.c6
 have fr0 := kP.free 0
 have fr1 := kP.free 1
 have zR := kP.lt
 have HS := Lib.hid (show Blk _ _ #[.int .i64 u0, .int .i64 u1, .int .i64 f0, .int .i64 f1, .int .i64 wa, .bool cl] _ from (kP.set 0 (.int .i64 u0)).set 1 (.int .i64 u1))
 have HA := Lib.hid ((g2.set (p := ⟨bD, 0, none⟩) (by simp; omega) hbs (.int .i64 u0)).set (p := ⟨bD, 1, none⟩) (by simp; omega) hbs (.int .i64 u1))
 have HRw := Lib.hid (ownsRow_other (ownsRow_other g1 ⟨bD, 0, none⟩ (.int .i64 u0) hg) ⟨bD, 1, none⟩ (.int .i64 u1) hg)
 go_simp
 refine hK.out _ _ ?_ ?_
 · exact ⟨HRw.out, HA.out, by simpa using g3⟩
 (try clear hH); (try clear hd)
 intro hH
 clear q0 q1 q2 q3 q4 q5 fr0 fr1 zR g1 g2 g3
 replace kP := HS.out
 clear HS HA HRw
 clear hK K
 (try simp only [cq])
 refine tkY 10 (some 27) ?_ ?_ ?_
 rotate_left
 · intro w hS0; go_simp; (try with_reducible rfl)
 (try simp only [cq])
 refine wpAnyH_ready (rs := [11]) (by kernel_rfl) (by simp) ?_
 refine arc1 none fun K hK => ?_
 obtain ⟨g1, g2, g3⟩ := hH
 obtain ⟨q0, q1, q2, q3, q4, q5⟩ := kP.c6
 have fr2 := kP.free 2
 have fr3 := kP.free 3
 have zR := kP.lt
 have HS := Lib.hid (show Blk _ _ #[.int .i64 u0, .int .i64 u1, .int .i64 v0, .int .i64 v1, .int .i64 wa, .bool cl] _ from (kP.set 2 (.int .i64 v0)).set 3 (.int .i64 v1))
 have HA := Lib.hid ((g2.set (p := ⟨bD, 2, none⟩) (by simp; omega) hbs (.int .i64 v0)).set (p := ⟨bD, 3, none⟩) (by simp; omega) hbs (.int .i64 v1))
 have HRw := Lib.hid (ownsRow_other (ownsRow_other g1 ⟨bD, 2, none⟩ (.int .i64 v0) hg) ⟨bD, 3, none⟩ (.int .i64 v1) hg)
 go_simp
 refine hK.out _ _ ?_ ?_
 · exact ⟨HRw.out, HA.out, by simpa using g3⟩
 (try clear hH); (try clear hd)
 intro hH
 clear q0 q1 q2 q3 q4 q5 fr2 fr3 zR g1 g2 g3
 replace kP := HS.out
 clear HS HA HRw
 clear hK K
 (try simp only [cq])
 refine wpAnyH_done (by kernel_rfl) ?_ _
 (try dsimp only [Act.put])
 (try simp only [cq])
 go_wp2_with fail
 go_meet
 exact ⟨u0, u1, v0, v1, rfl, h1, h2, h3, h4, h5, h6, kP, hH.1, hH.2.1, hH.2.2⟩
 }
 exact AllReadyH.nil
 }
 refine arc (some 24) (fun K hK => ?_) ?_
 {
 obtain ⟨q0, q1, q2, q3, q4, q5⟩ := kP.c6
 have zP := kP.lt
 go_simp
 refine hK.out _ _ ?_ ?_
 · exact hH
 (try clear hH); (try clear hd)
 intro hH
 clear q0 q1 q2 q3 q4 q5 zP
 clear hK K
 (try simp only [cq])
 refine wpAnyH_ready (rs := [2]) (by kernel_rfl) (by simp) ?_
 refine arc1 (some 20) fun K hK => ?_
 obtain ⟨q0, q1, q2, q3, q4, q5⟩ := kP.c6
 have zP := kP.lt
 go_simp
 refine hK.out _ _ ?_ ?_
 · exact hH
 (try clear hH); (try clear hd)
 intro hH
 clear q0 q1 q2 q3 q4 q5 zP
 clear hK K
 (try simp only [cq])
 refine wpAnyH_ready (rs := [3]) (by kernel_rfl) (by simp) ?_
 refine arc1 (some 21) fun K hK => ?_
 go_simp
 (refine (HP1.out _ hH.2.1.seed).mono ?_; rintro e w' ⟨u0, u1, rfl, h1, h2, h3, hd⟩; replace kP := hd.blk kP (by omega))
 refine hK.out _ _ ?_ ?_
 · (exact ⟨hd.row hH.1 (by omega), hH.2.1.trans hd, Nat.le_trans hH.2.2 hd.2.size⟩)
 (try clear hH); (try clear hd)
 intro hH
 clear hK K
 (try simp only [cq])
 refine tkY 8 (some 26) ?_ ?_ ?_
 rotate_left
 · intro w hS0; go_simp; (try with_reducible rfl)
 (try simp only [cq])
 refine wpAnyH_ready (rs := [7]) (by kernel_rfl) (by simp) ?_
 refine arc1 (some 25) fun K hK => ?_
 go_simp
 (refine (HP2.out _ hH.2.1.seed).mono ?_; rintro e w' ⟨v0, v1, rfl, h4, h5, h6, hd⟩; replace kP := hd.blk kP (by omega))
 refine hK.out _ _ ?_ ?_
 · (exact ⟨hd.row hH.1 (by omega), hH.2.1.trans hd, Nat.le_trans hH.2.2 hd.2.size⟩)
 (try clear hH); (try clear hd)
 intro hH
 clear hK K
 (try simp only [cq])
 refine wpAnyH_ready (rs := [9]) (by kernel_rfl) (by simp) ?_
 refine arc1 none fun K hK => ?_
 obtain ⟨g1, g2, g3⟩ := hH
 obtain ⟨q0, q1, q2, q3, q4, q5⟩ := kP.c6
 have fr0 := kP.free 0
 have fr1 := kP.free 1
 have zR := kP.lt
 have HS := Lib.hid (show Blk _ _ #[.int .i64 u0, .int .i64 u1, .int .i64 f0, .int .i64 f1, .int .i64 wa, .bool cl] _ from (kP.set 0 (.int .i64 u0)).set 1 (.int .i64 u1))
 have HA := Lib.hid ((g2.set (p := ⟨bD, 0, none⟩) (by simp; omega) hbs (.int .i64 u0)).set (p := ⟨bD, 1, none⟩) (by simp; omega) hbs (.int .i64 u1))
 have HRw := Lib.hid (ownsRow_other (ownsRow_other g1 ⟨bD, 0, none⟩ (.int .i64 u0) hg) ⟨bD, 1, none⟩ (.int .i64 u1) hg)
 go_simp
 refine hK.out _ _ ?_ ?_
 · exact ⟨HRw.out, HA.out, by simpa using g3⟩
 (try clear hH); (try clear hd)
 intro hH
 clear q0 q1 q2 q3 q4 q5 fr0 fr1 zR g1 g2 g3
 replace kP := HS.out
 clear HS HA HRw
 clear hK K
 (try simp only [cq])
 refine tkY 10 (some 27) ?_ ?_ ?_
 rotate_left
 · intro w hS0; go_simp; (try with_reducible rfl)
 (try simp only [cq])
 refine wpAnyH_ready (rs := [11]) (by kernel_rfl) (by simp) ?_
 refine arc1 none fun K hK => ?_
 obtain ⟨g1, g2, g3⟩ := hH
 obtain ⟨q0, q1, q2, q3, q4, q5⟩ := kP.c6
 have fr2 := kP.free 2
 have fr3 := kP.free 3
 have zR := kP.lt
 have HS := Lib.hid (show Blk _ _ #[.int .i64 u0, .int .i64 u1, .int .i64 v0, .int .i64 v1, .int .i64 wa, .bool cl] _ from (kP.set 2 (.int .i64 v0)).set 3 (.int .i64 v1))
 have HA := Lib.hid ((g2.set (p := ⟨bD, 2, none⟩) (by simp; omega) hbs (.int .i64 v0)).set (p := ⟨bD, 3, none⟩) (by simp; omega) hbs (.int .i64 v1))
 have HRw := Lib.hid (ownsRow_other (ownsRow_other g1 ⟨bD, 2, none⟩ (.int .i64 v0) hg) ⟨bD, 3, none⟩ (.int .i64 v1) hg)
 go_simp
 refine hK.out _ _ ?_ ?_
 · exact ⟨HRw.out, HA.out, by simpa using g3⟩
 (try clear hH); (try clear hd)
 intro hH
 clear q0 q1 q2 q3 q4 q5 fr2 fr3 zR g1 g2 g3
 replace kP := HS.out
 clear HS HA HRw
 clear hK K
 (try simp only [cq])
 refine wpAnyH_done (by kernel_rfl) ?_ _
 (try dsimp only [Act.put])
 (try simp only [cq])
 go_wp2_with fail
 go_meet
 exact ⟨u0, u1, v0, v1, rfl, h1, h2, h3, h4, h5, h6, kP, hH.1, hH.2.1, hH.2.2⟩
 }
 exact AllReadyH.nil )
      case rest =>
        obtain ⟨u0, u1, v0, v1, rfl, h1, h2, h3, h4, h5, h6, jD, jR, hA, zB⟩ := hcut
        have hk2 : Dy.Ok ⟨u0, u1, v0, v1, wa, cl⟩ ∧ Dy.Sub ⟨u0, u1, v0, v1, wa, cl⟩ (d k) := by rw [HK.out]; exact kP0.out _ _ _ _ h1 h2 h3 h4 h5 h6
        have hk3 := updD_at (P := fun i z => z.Ok ∧ z.Sub (d i)) hk hk2
        obtain ⟨q0, q1, q2, q3, q4, q5⟩ := jD.c6
        have zD := jD.lt
        have hr : ∀ q, v.ownBlock = some q → base ≤ q := fun q e => (jR.lt q e).1
        obtain ⟨i0, hi0, hz0, hz1, hz2⟩ := info_parts Try.infoDay
        go_wp2_with (at_builtin; refine wpList_append_own_at _ rfl _ _ 38 rfl base 30 i0 (.agg #[.int .i64 0, .int .i64 0, .int .i64 0, .int .i64 0, .int .i64 0, .bool false]) 6 48 Try.underlying38 hi0 hz0 hz1 hz2 rfl (by decide) _ _ _ rfl (jR.alloc _) ⟨wc.heap.size, 0, none⟩ 1 1 (dayC ⟨u0, u1, v0, v1, wa, cl⟩) rfl rfl (news6 _ ⟨u0, u1, v0, v1, wa, cl⟩ _) (one6 _) (by unfold maxLen; omega) (by omega) (by simp; omega) ?_; intro v' w10 hown' hgrow _ _; rw [← daysC_upd] at hown'; have kA := (hA.new (.cells #[.int .i64 u0, .int .i64 u1, .int .i64 v0, .int .i64 v1, .int .i64 wa, .bool cl] 30)).grown hgrow (fun q e => by have := hr q e; omega) hbs; have kB : base ≤ w10.heap.size := (by have := hgrow.size; simp at this; omega); clear q0 q1 q2 q3 q4 q5 zD)
        clear hgrow jD jR hA zB hr
        go_roundw
        case rel => exact ⟨k + 1, _, _, rfl, by go_num, by omega, hk3, hown', kA, kB⟩
        case measure => simp [intOf]; omega
    · obtain rfl : k = n := by omega
      go_wp2
      go_ret
      exact ⟨v, dd, rfl, hk, jR, hA⟩
end Go.Proofs.Ytkldjaofgdklbaa

namespace Go.Proofs.Ytkldjaofgdklbaa
open Go.RowKit

set_option maxRecDepth 100000 in
set_option maxHeartbeats 16000000 in
theorem narrows_any (a : Option Addr) (n0 cap : Nat) (w : World) (hn : NumsAt w a n0) :
    Calls Try.prog 7 #[.slice a n0 cap] w fun e w' => e = .returned (.bool true) ∧ Below w.heap.size w w' := by
  go_enter Try.func7, Try.ntmps7
  go_wp2_with fail
  refine (newseed_at a n0 cap _ hn).mono ?_
  rintro e w1 ⟨rfl, hS, hB⟩
  clear hn
  obtain ⟨bs, hbs⟩ : ∃ b, w.heap.size = b := ⟨_, rfl⟩
  rw [hbs] at hS ⊢
  have hle : w.heap.size ≤ bs := by omega
  have HB := Lib.hid (And.intro hle hB)
  clear hbs hB hle
  have hb1 : bs < w1.heap.size := hS.choose_spec.lt
  go_wp2_with fail
  refine (frostof_in bs w1 hS).mono ?_
  rintro e w2 ⟨l, v, rfl, hl, hR, hA⟩
  clear hS
  obtain ⟨va, vcap, hvv, hz1, hz2, hz3⟩ := covAt_of_row hR
  clear hz1 hz2 hz3
  subst hvv
  go_wp2_with fail
  refine (iceof_in bs w2 hA.seed).mono ?_
  rintro e w3 ⟨x, rfl, hx, hd⟩
  replace hR := hd.row hR (by omega)
  replace hA := hA.trans hd
  clear hd
  have zA := hA.2.size
  have jL := (Blk.new w3 #[.int .i64 l.gr, .int .i64 l.la, .slice va l.n vcap, .int .i64 l.m0, .int .i64 l.m1, .int .i64 l.so, .int .i64 l.h0, .int .i64 l.h1] 26).alloc (.cells #[.int .i64 x.b0, .int .i64 x.b1, .int .i64 x.w0, .int .i64 x.w1, .int .i64 x.q0, .int .i64 x.q1, .int .i64 x.s0, .int .i64 x.s1] 28)
  have jX := Blk.new1 w3 (.cells #[.int .i64 l.gr, .int .i64 l.la, .slice va l.n vcap, .int .i64 l.m0, .int .i64 l.m1, .int .i64 l.so, .int .i64 l.h0, .int .i64 l.h1] 26) #[.int .i64 x.b0, .int .i64 x.b1, .int .i64 x.w0, .int .i64 x.w1, .int .i64 x.q0, .int .i64 x.q1, .int .i64 x.s0, .int .i64 x.s1] 28
  replace hR := (hR.alloc (.cells #[.int .i64 l.gr, .int .i64 l.la, .slice va l.n vcap, .int .i64 l.m0, .int .i64 l.m1, .int .i64 l.so, .int .i64 l.h0, .int .i64 l.h1] 26)).alloc (.cells #[.int .i64 x.b0, .int .i64 x.b1, .int .i64 x.w0, .int .i64 x.w1, .int .i64 x.q0, .int .i64 x.q1, .int .i64 x.s0, .int .i64 x.s1] 28)
  replace hA := (hA.new (.cells #[.int .i64 l.gr, .int .i64 l.la, .slice va l.n vcap, .int .i64 l.m0, .int .i64 l.m1, .int .i64 l.so, .int .i64 l.h0, .int .i64 l.h1] 26)).new (.cells #[.int .i64 x.b0, .int .i64 x.b1, .int .i64 x.w0, .int .i64 x.w1, .int .i64 x.q0, .int .i64 x.q1, .int .i64 x.s0, .int .i64 x.s1] 28)
  go_wp2_with fail
  refine (yes_in 2 bs _ hA.seed (by decide)).mono ?_
  rintro e w4 ⟨fr, rfl, hd⟩
  obtain ⟨bL, hbL⟩ : ∃ b, w3.heap.size = b := ⟨_, rfl⟩
  rw [hbL] at zA jL jX
  (try rw [hbL])
  clear hbL
  replace jL := hd.blk jL (by omega)
  replace jX := hd.blk jX (by omega)
  replace hR := hd.row hR (by omega)
  replace hA := hA.trans hd
  clear hd
  go_wp2_with fail
  refine (daysof_in 10 (by decide) (by decide) fr bs _ hA.seed).mono ?_
  rintro e w5 ⟨vd, n, d, rfl, hn10, hdk, hD, hd⟩
  replace jL := hd.blk jL (by omega)
  replace jX := hd.blk jX (by omega)
  replace hR := hd.row hR (by omega)
  replace hA := hA.trans hd
  clear hd
  have hok : ∀ i, i < n → (d i).Ok := fun i hi => (hdk i hi).ok
  clear hdk
  obtain ⟨x0, x1, x2, x3, x4, x5, x6, x7⟩ := jX.c8
  have zX := jX.lt
  go_wp2_with fail
  refine (innerice_in x bs _ hA.seed hx).mono ?_
  rintro e w6 ⟨y, rfl, hyx, hy, hd⟩
  clear x0 x1 x2 x3 x4 x5 x6 x7 zX
  replace jL := hd.blk jL (by omega)
  replace jX := hd.blk jX (by omega)
  replace hR := hd.row hR (by omega)
  replace hD := hd.row hD (by omega)
  replace hA := hA.trans hd
  clear hd
  go_wp2_with fail
  refine (innerdays_in n (by omega) vd d bs _ hA.seed hD hok).mono ?_
  rintro e w7 ⟨vd2, d2, rfl, hd2, hD2, hd⟩
  replace jL := hd.blk jL (by omega)
  replace jX := hd.blk jX (by omega)
  replace hR := hd.row hR (by omega)
  replace hD := hd.row hD (by omega)
  replace hA := hA.trans hd
  clear hd
  have kC := covAt_of_row hR
  have kD := daysAt_of_row hD
  have kD2 := daysAt_of_row hD2
  clear hR hD hD2
  obtain ⟨da, dcap, hvd, ncap, hz2, hz3⟩ := id kD
  clear hz2 hz3
  subst hvd
  obtain ⟨da2, dcap2, hvd, ncap2, hz2, hz3⟩ := id kD2
  clear hz2 hz3
  subst hvd
  have hok2 : ∀ i, i < n → (d2 i).Ok := fun i hi => (hd2 i hi).1
  have hsub : ∀ i, i < n → (d2 i).Sub (d i) := fun i hi => (hd2 i hi).2
  clear hd2
  have HOk := Lib.hid (And.intro hok (And.intro hok2 hsub))
  clear hok hok2 hsub
  obtain ⟨l0, l1, l2, l3, l4, l5, l6, l7⟩ := jL.c8
  obtain ⟨x0, x1, x2, x3, x4, x5, x6, x7⟩ := jX.c8
  have zL := jL.lt
  have zX := jX.lt
  go_wp2_with fail
  clear l0 l1 l2 l3 l4 l5 l6 l7 x0 x1 x2 x3 x4 x5 x6 x7 zL zX
  have jY := Blk.new w7 #[.int .i64 y.b0, .int .i64 y.b1, .int .i64 y.w0, .int .i64 y.w1, .int .i64 y.q0, .int .i64 y.q1, .int .i64 y.s0, .int .i64 y.s1] 28
  have hbY : Below w7.heap.size w7 (w7.alloc (.cells #[.int .i64 y.b0, .int .i64 y.b1, .int .i64 y.w0, .int .i64 y.w1, .int .i64 y.q0, .int .i64 y.q1, .int .i64 y.s0, .int .i64 y.s1] 28)) := bwA (Below.refl _ _) (Nat.le_refl _) _
  replace jL := jL.alloc (.cells #[.int .i64 y.b0, .int .i64 y.b1, .int .i64 y.w0, .int .i64 y.w1, .int .i64 y.q0, .int .i64 y.q1, .int .i64 y.s0, .int .i64 y.s1] 28)
  replace jX := jX.alloc (.cells #[.int .i64 y.b0, .int .i64 y.b1, .int .i64 y.w0, .int .i64 y.w1, .int .i64 y.q0, .int .i64 y.q1, .int .i64 y.s0, .int .i64 y.s1] 28)
  replace kC := kC.later hbY
  replace kD := kD.later hbY
  replace kD2 := kD2.later hbY
  have zY7 := hA.2.size
  replace hA := hA.new (.cells #[.int .i64 y.b0, .int .i64 y.b1, .int .i64 y.w0, .int .i64 y.w1, .int .i64 y.q0, .int .i64 y.q1, .int .i64 y.s0, .int .i64 y.s1] 28)
  clear hbY
  obtain ⟨bY, hbY⟩ : ∃ b, w7.heap.size = b := ⟨_, rfl⟩
  rw [hbY] at jY zY7
  (try rw [hbY])
  clear hbY
  refine (run_kit l _ x _ n d _ hl kC hx.val kD (by omega) HOk.out.1 (Nat.lt_of_le_of_lt (Nat.zero_le _) jL.lt)).mono ?_
  rintro e w8 ⟨ra, rfl, hra, hb⟩
  replace jL := jL.call hb
  replace jX := jX.call hb
  replace jY := jY.call hb
  replace kC := kC.later hb
  replace kD := kD.later hb
  replace kD2 := kD2.later hb
  replace hA := hA.after hb
  have kRa := iceL_of_row hra
  clear hb hra
  obtain ⟨aa, acap, hra', acn, hz2, hz3⟩ := id kRa
  clear hz2 hz3
  subst hra'
  obtain ⟨l0, l1, l2, l3, l4, l5, l6, l7⟩ := jL.c8
  obtain ⟨x0, x1, x2, x3, x4, x5, x6, x7⟩ := jY.c8
  have zL := jL.lt
  have zX := jY.lt
  go_wp2_with fail
  clear l0 l1 l2 l3 l4 l5 l6 l7 x0 x1 x2 x3 x4 x5 x6 x7 zL zX
  refine (run_kit l _ y _ n d2 _ hl kC hy.val kD2 (by omega) HOk.out.2.1 (Nat.lt_of_le_of_lt (Nat.zero_le _) jL.lt)).mono ?_
  rintro e w9 ⟨rb, rfl, hrb, hb⟩
  replace jL := jL.call hb
  replace jX := jX.call hb
  replace jY := jY.call hb
  replace kC := kC.later hb
  replace kD := kD.later hb
  replace kD2 := kD2.later hb
  replace hA := hA.after hb
  replace kRa := kRa.later hb
  have kRb := iceL_of_row hrb
  clear hb hrb
  obtain ⟨ab, bcap, hrb', bcn, hz2, hz3⟩ := id kRb
  clear hz2 hz3
  subst hrb'
  have xb := hx.b
  go_upto_region 7 with fail
  refine wp_region_held_drew (S := (fun w' => Drawn bs w9 w')) (by kernel_rfl) ?_ (fun hH => ?_)
  · (try dsimp only); (exact Drawn.drew hA.seed)
  refine tkY 0 (some 57) ?_ ?_ ?_
  rotate_left
  · intro w hS0; (try dsimp only at hS0); have kx := hS0.blk jX (by omega); obtain ⟨x0, x1, x2, x3, x4, x5, x6, x7⟩ := kx.c8; have zX := kx.lt;go_simp; (try with_reducible rfl)
  (try simp only [cq])
  refine tkY 1 (some 58) ?_ ?_ ?_
  rotate_left
  · intro w hS0; (try dsimp only at hS0); have kx := hS0.blk jX (by omega); obtain ⟨x0, x1, x2, x3, x4, x5, x6, x7⟩ := kx.c8; have zX := kx.lt;go_simp; (try with_reducible rfl)
  (try simp only [cq])
  refine tkY 2 (some 59) ?_ ?_ ?_
  rotate_left
  · intro w hS0; (try dsimp only at hS0); have kx := hS0.blk jX (by omega); obtain ⟨x0, x1, x2, x3, x4, x5, x6, x7⟩ := kx.c8; have zX := kx.lt;go_simp; (try with_reducible rfl)
  (try simp only [cq])
  refine tkY 3 (some 60) ?_ ?_ ?_
  rotate_left
  · intro w _; go_simp; (try with_reducible rfl)
  (try simp only [cq])
  refine wpAnyH_ready (rs := [4]) (by kernel_rfl) (by simp) ?_
  refine arc1 (some 61) fun K hK => ?_
  go_simp
  (refine (from_in (-5) 200 bs _ hH.seed (by decide) (by decide) (by decide) (by decide)).mono ?_; rintro e w' ⟨r, rfl, r0, r1, hd⟩)
  refine hK.out _ _ ?_ ?_
  · (exact hH.trans hd)
  (try clear hH); (try clear hd)
  intro hH
  have e1 : IntKind.i64.wrap (x.b0 + r) = x.b0 + r := IntWalk.i64_in _ (by omega)
  clear hK K
  (try simp only [cq])
  refine tkY 5 (some 62) ?_ ?_ ?_
  rotate_left
  · intro w _; go_simp; (try with_reducible rfl)
  (try simp only [cq])
  refine tkY 6 (some 13) ?_ ?_ ?_
  rotate_left
  · intro w _; go_simp; (try with_reducible rfl)
  (try simp only [cq])
  refine wpAnyH_done (by kernel_rfl) ?_ _
  (try dsimp only [Act.put])
  (try simp only [cq])
  replace jL := hH.blk jL (by omega)
  replace jX := hH.blk jX (by omega)
  replace jY := hH.blk jY (by omega)
  replace kC := kC.drawn hA.seed hH
  replace kD := kD.drawn hA.seed hH
  replace kD2 := kD2.drawn hA.seed hH
  replace kRa := kRa.drawn hA.seed hH
  replace kRb := kRb.drawn hA.seed hH
  replace hA := hA.trans hH
  clear hH e1
  go_upto_if 64 with fail
  go_cut [13] (fun s13 wx => ∃ need : Int, s13 = .int .i64 need ∧ 0 ≤ need ∧ need ≤ 5000 ∧ wx = w')
  case first =>
    by_cases hneg : x.b0 + r < 0
    · go_wp2_with fail
      go_meet
      exact ⟨0, rfl, by decide, by decide, rfl⟩
    · go_wp2_with fail
      go_meet
      exact ⟨x.b0 + r, rfl, by omega, by omega, rfl⟩
  case rest =>
    obtain ⟨need, rfl, nd0, nd1, rfl⟩ := hcut
    clear r0 r1 xb
    have hNx : ∀ i, i < n → (iceAt l d x (i + 1)).Nn := fun i hi => iceAt_nn hl hx.val.nn n HOk.out.1 (i + 1) (by omega)
    have hNy : ∀ i, i < n → (iceAt l d2 y (i + 1)).Nn := fun i hi => iceAt_nn hl hy.val.nn n HOk.out.2.1 (i + 1) (by omega)
    have hSub : ∀ i, i < n → (iceAt l d2 y (i + 1)).Sub (iceAt l d x (i + 1)) := fun i hi => iceAt_sub hl hx.val.nn hy.val.nn hyx n HOk.out.1 HOk.out.2.1 HOk.out.2.2 (i + 1) (by omega)
    have k0 := hl.ok.h0
    have k1 : 0 ≤ l.h1 := Int.le_trans hl.ok.h0 hl.ok.h1
    have HI1 := Lib.hid (firstI_imp (fun i => rdyS need l.h0 (iceAt l d x (i + 1))) (fun i => rdyS need l.h0 (iceAt l d2 y (i + 1))) n 0 (fun i _ hi h => rdyS_sub k0 (hNx i (by omega)) (hNy i (by omega)) (hSub i (by omega)) h))
    have HI2 := Lib.hid (firstI_imp (fun i => rdyP need l.h1 (iceAt l d2 y (i + 1))) (fun i => rdyP need l.h1 (iceAt l d x (i + 1))) n 0 (fun i _ hi h => rdyP_sub k1 (hNx i (by omega)) (hNy i (by omega)) (hSub i (by omega)) h))
    have HS := Lib.hid hSub
    clear hNx hNy hSub
    have q1 := fun W g1 g2 g3 => ready_kit l (.slice va l.n vcap) x (.slice da n dcap) n d need W hl g1 hx.val g2 (by omega) HOk.out.1 g3 nd0 nd1
    have q2 := fun W g1 g2 g3 => ready_kit l (.slice va l.n vcap) y (.slice da2 n dcap2) n d2 need W hl g1 hy.val g2 (by omega) HOk.out.2.1 g3 nd0 nd1
    generalize firstI (fun i => rdyS need l.h0 (iceAt l d x (i + 1))) 0 n = p at HI1 q1
    generalize firstI (fun i => rdyP need l.h1 (iceAt l d x (i + 1))) 0 n = q at HI2 q1
    generalize firstI (fun i => rdyS need l.h0 (iceAt l d2 y (i + 1))) 0 n = r at HI1 q2
    generalize firstI (fun i => rdyP need l.h1 (iceAt l d2 y (i + 1))) 0 n = t at HI2 q2
    have Q1 := Lib.hid q1
    have Q2 := Lib.hid q2
    clear q1 q2
    obtain ⟨l0, l1, l2, l3, l4, l5, l6, l7⟩ := jL.c8
    obtain ⟨x0, x1, x2, x3, x4, x5, x6, x7⟩ := jX.c8
    have zL := jL.lt
    have zX := jX.lt
    go_wp2_with fail
    clear l0 l1 l2 l3 l4 l5 l6 l7 x0 x1 x2 x3 x4 x5 x6 x7 zL zX
    refine (Q1.out _ kC kD (Nat.lt_of_le_of_lt (Nat.zero_le _) jL.lt)).mono ?_
    rintro e w11 ⟨rfl, hb⟩
    replace jL := jL.call hb
    replace jX := jX.call hb
    replace jY := jY.call hb
    replace kC := kC.later hb
    replace kD := kD.later hb
    replace kD2 := kD2.later hb
    replace kRa := kRa.later hb
    replace kRb := kRb.later hb
    replace hA := hA.after hb
    clear hb
    obtain ⟨l0, l1, l2, l3, l4, l5, l6, l7⟩ := jL.c8
    obtain ⟨x0, x1, x2, x3, x4, x5, x6, x7⟩ := jY.c8
    have zL := jL.lt
    have zX := jY.lt
    go_wp2_with fail
    clear l0 l1 l2 l3 l4 l5 l6 l7 x0 x1 x2 x3 x4 x5 x6 x7 zL zX
    refine (Q2.out _ kC kD2 (Nat.lt_of_le_of_lt (Nat.zero_le _) jL.lt)).mono ?_
    rintro e w12 ⟨rfl, hb⟩
    replace jL := jL.call hb
    replace jX := jX.call hb
    replace jY := jY.call hb
    replace kC := kC.later hb
    replace kD := kD.later hb
    replace kD2 := kD2.later hb
    replace kRa := kRa.later hb
    replace kRb := kRb.later hb
    replace hA := hA.after hb
    clear hb
    clear Q1 Q2
    have hbl : bearL x.b0 x.w0 l.h0 ≤ bearL y.b0 y.w0 l.h0 := by
      have g := gotL_mono hx.w.1 hyx.w0 k0 (Int.le_refl l.h0)
      have b := hyx.b0
      unfold bearL
      omega
    have hbh : bearH y.b1 y.w1 l.h1 ≤ bearH x.b1 x.w1 l.h1 := by
      have g := gotH_mono (Int.le_trans hy.w.1 hy.w.2.1) hyx.w1 k1 (Int.le_refl l.h1)
      have b := hyx.b1
      unfold bearH
      omega
    have q1 := fun W g1 => bearing_kit l (.slice va l.n vcap) x W hl g1 hx.val
    have q2 := fun W g1 => bearing_kit l (.slice va l.n vcap) y W hl g1 hy.val
    generalize bearL x.b0 x.w0 l.h0 = u0 at hbl q1
    generalize bearL y.b0 y.w0 l.h0 = v0 at hbl q2
    generalize bearH x.b1 x.w1 l.h1 = u1 at hbh q1
    generalize bearH y.b1 y.w1 l.h1 = v1 at hbh q2
    generalize soundI x.q0 x.q1 = so1 at q1
    generalize soundI y.q0 y.q1 = so2 at q2
    have Q1 := Lib.hid q1
    have Q2 := Lib.hid q2
    have HB1 := Lib.hid (And.intro hbl hbh)
    clear q1 q2 hbl hbh k0 k1
    obtain ⟨l0, l1, l2, l3, l4, l5, l6, l7⟩ := jL.c8
    obtain ⟨x0, x1, x2, x3, x4, x5, x6, x7⟩ := jX.c8
    have zL := jL.lt
    have zX := jX.lt
    go_wp2_with fail
    clear l0 l1 l2 l3 l4 l5 l6 l7 x0 x1 x2 x3 x4 x5 x6 x7 zL zX
    refine (Q1.out _ kC).mono ?_
    rintro e w13 ⟨rfl, hb⟩
    replace jL := jL.call hb
    replace jX := jX.call hb
    replace jY := jY.call hb
    replace kC := kC.later hb
    replace kD := kD.later hb
    replace kD2 := kD2.later hb
    replace kRa := kRa.later hb
    replace kRb := kRb.later hb
    replace hA := hA.after hb
    clear hb
    have jU := Blk.new w13 #[.int .i64 u0, .int .i64 u1] 24
    obtain ⟨bU, hbU⟩ : ∃ b, w13.heap.size = b := ⟨_, rfl⟩
    replace jL := jL.alloc (.cells #[.int .i64 u0, .int .i64 u1] 24)
    replace jX := jX.alloc (.cells #[.int .i64 u0, .int .i64 u1] 24)
    replace jY := jY.alloc (.cells #[.int .i64 u0, .int .i64 u1] 24)
    have hbY : Below w13.heap.size w13 (w13.alloc (.cells #[.int .i64 u0, .int .i64 u1] 24)) := bwA (Below.refl _ _) (Nat.le_refl _) _
    replace kC := kC.later hbY
    replace kRa := kRa.later hbY
    replace kRb := kRb.later hbY
    replace hA := hA.new (.cells #[.int .i64 u0, .int .i64 u1] 24)
    clear kD kD2 hbY
    go_upto_region 13 with fail
    rw [hbU] at jU
    (try rw [hbU])
    clear hbU
    generalize w13.alloc (.cells #[.int .i64 u0, .int .i64 u1] 24) = w14 at jL jX jY jU kC kRa kRb hA ⊢
    obtain ⟨l0, l1, l2, l3, l4, l5, l6, l7⟩ := jL.c8
    obtain ⟨x0, x1, x2, x3, x4, x5, x6, x7⟩ := jY.c8
    have zL := jL.lt
    have zX := jY.lt
    go_wp2_with fail
    clear l0 l1 l2 l3 l4 l5 l6 l7 x0 x1 x2 x3 x4 x5 x6 x7 zL zX
    refine (Q2.out _ kC).mono ?_
    rintro e w15 ⟨rfl, hb⟩
    replace jU := jU.call hb
    replace kRa := kRa.later hb
    replace kRb := kRb.later hb
    replace hA := hA.after hb
    clear hb jL jX jY kC Q1 Q2
    have jV := Blk.new w15 #[.int .i64 v0, .int .i64 v1] 24
    obtain ⟨bV, hbV⟩ : ∃ b, w15.heap.size = b := ⟨_, rfl⟩
    replace jU := jU.alloc (.cells #[.int .i64 v0, .int .i64 v1] 24)
    have hbY : Below w15.heap.size w15 (w15.alloc (.cells #[.int .i64 v0, .int .i64 v1] 24)) := bwA (Below.refl _ _) (Nat.le_refl _) _
    replace kRa := kRa.later hbY
    replace kRb := kRb.later hbY
    replace hA := hA.new (.cells #[.int .i64 v0, .int .i64 v1] 24)
    clear hbY
    go_upto_region 14 with fail
    rw [hbV] at jV
    (try rw [hbV])
    clear hbV
    generalize w15.alloc (.cells #[.int .i64 v0, .int .i64 v1] 24) = w16 at jU jV kRa kRb hA ⊢
    obtain ⟨u00, u01⟩ := jU.c2
    obtain ⟨v00, v01⟩ := jV.c2
    have zU := jU.lt
    have zV := jV.lt
    go_wp2_with fail
    refine (kin_yes _ _ _ _ _ HB1.out.1 HB1.out.2).mono ?_
    rintro e w17 ⟨rfl, hb⟩
    replace kRa := kRa.later hb
    replace kRb := kRb.later hb
    replace hA := hA.after hb
    clear hb jU jV u00 u01 v00 v01 zU zV
    have HA := Lib.hid hA
    clear hA
    obtain ⟨_, _, hva, _, _, ka⟩ := kRa
    simp only [Value.slice.injEq] at hva
    obtain ⟨rfl, _, rfl⟩ := hva
    obtain ⟨_, _, hvb, _, _, kb⟩ := kRb
    simp only [Value.slice.injEq] at hvb
    obtain ⟨rfl, _, rfl⟩ := hvb
    have KA := Lib.hid ka
    have KB := Lib.hid kb
    clear ka kb
    go_wp2_with fail
    go_loopw [26] (fun i wr => ∃ k : Nat, k ≤ n ∧ i = .int .i64 k ∧ Below w17.heap.size w17 wr) (fun i _ => n - (intOf i).toNat)
    case atStart => exact ⟨0, Nat.zero_le _, rfl, Below.refl _ _⟩
    case round =>
      obtain ⟨k, hk, rfl, hB⟩ := hrel
      by_cases hlt : k < n
      · obtain ⟨b1, o1, rfl, qa⟩ := KA.out (by omega)
        obtain ⟨b2, o2, rfl, qb⟩ := KB.out (by omega)
        replace qa := (qa.call hB) k hlt
        replace qb := (qb.call hB) k hlt
        have HSk := HS.out k hlt
        dsimp only at qa qb
        generalize iceAt l d x (k + 1) = zx at qa HSk
        generalize iceAt l d2 y (k + 1) = zy at qb HSk
        have zq1 := World.block_lt_of_cell? _ _ qa.1
        have zq2 := World.block_lt_of_cell? _ _ qb.1
        go_upto_region 19 with fail
        refine wp_region_held_drew (S := (fun w' => Below wr.heap.size wr w')) (by kernel_rfl) ?_ (fun hH => ?_)
        · (try dsimp only); (exact (Below.refl _ _).drew)
        refine tkY 0 (some 138) ?_ ?_ ?_
        rotate_left
        · intro w _; go_simp; (try with_reducible rfl)
        (try simp only [cq])
        refine tkY 1 (some 139) ?_ ?_ ?_
        rotate_left
        · intro w _; go_simp; (try with_reducible rfl)
        (try simp only [cq])
        refine tkY 2 (some 140) ?_ ?_ ?_
        rotate_left
        · intro w hS0; (try dsimp only at hS0); have p0 := cell_later hS0 qa.1; have p1 := cell_later hS0 qa.2.1; have p2 := cell_later hS0 qa.2.2.1; have p3 := cell_later hS0 qa.2.2.2.1; have p4 := cell_later hS0 qa.2.2.2.2.1; have p5 := cell_later hS0 qa.2.2.2.2.2.1; have p6 := cell_later hS0 qa.2.2.2.2.2.2.1; have p7 := cell_later hS0 qa.2.2.2.2.2.2.2; have r0 := cell_later hS0 qb.1; have r1 := cell_later hS0 qb.2.1; have r2 := cell_later hS0 qb.2.2.1; have r3 := cell_later hS0 qb.2.2.2.1; have r4 := cell_later hS0 qb.2.2.2.2.1; have r5 := cell_later hS0 qb.2.2.2.2.2.1; have r6 := cell_later hS0 qb.2.2.2.2.2.2.1; have r7 := cell_later hS0 qb.2.2.2.2.2.2.2;go_simp; (try with_reducible rfl)
        (try simp only [cq])
        refine tkY 3 (some 141) ?_ ?_ ?_
        rotate_left
        · intro w hS0; (try dsimp only at hS0); have p0 := cell_later hS0 qa.1; have p1 := cell_later hS0 qa.2.1; have p2 := cell_later hS0 qa.2.2.1; have p3 := cell_later hS0 qa.2.2.2.1; have p4 := cell_later hS0 qa.2.2.2.2.1; have p5 := cell_later hS0 qa.2.2.2.2.2.1; have p6 := cell_later hS0 qa.2.2.2.2.2.2.1; have p7 := cell_later hS0 qa.2.2.2.2.2.2.2; have r0 := cell_later hS0 qb.1; have r1 := cell_later hS0 qb.2.1; have r2 := cell_later hS0 qb.2.2.1; have r3 := cell_later hS0 qb.2.2.2.1; have r4 := cell_later hS0 qb.2.2.2.2.1; have r5 := cell_later hS0 qb.2.2.2.2.2.1; have r6 := cell_later hS0 qb.2.2.2.2.2.2.1; have r7 := cell_later hS0 qb.2.2.2.2.2.2.2;go_simp; (try with_reducible rfl)
        (try simp only [cq])
        refine tkY 4 (some 142) ?_ ?_ ?_
        rotate_left
        · intro w _; go_simp; (try with_reducible rfl)
        (try simp only [cq])
        refine tkY 5 (some 143) ?_ ?_ ?_
        rotate_left
        · intro w _; go_simp; (try with_reducible rfl)
        (try simp only [cq])
        refine tkY 6 (some 144) ?_ ?_ ?_
        rotate_left
        · intro w hS0; (try dsimp only at hS0); have p0 := cell_later hS0 qa.1; have p1 := cell_later hS0 qa.2.1; have p2 := cell_later hS0 qa.2.2.1; have p3 := cell_later hS0 qa.2.2.2.1; have p4 := cell_later hS0 qa.2.2.2.2.1; have p5 := cell_later hS0 qa.2.2.2.2.2.1; have p6 := cell_later hS0 qa.2.2.2.2.2.2.1; have p7 := cell_later hS0 qa.2.2.2.2.2.2.2; have r0 := cell_later hS0 qb.1; have r1 := cell_later hS0 qb.2.1; have r2 := cell_later hS0 qb.2.2.1; have r3 := cell_later hS0 qb.2.2.2.1; have r4 := cell_later hS0 qb.2.2.2.2.1; have r5 := cell_later hS0 qb.2.2.2.2.2.1; have r6 := cell_later hS0 qb.2.2.2.2.2.2.1; have r7 := cell_later hS0 qb.2.2.2.2.2.2.2;go_simp; (try with_reducible rfl)
        (try simp only [cq])
        refine tkY 7 (some 145) ?_ ?_ ?_
        rotate_left
        · intro w hS0; (try dsimp only at hS0); have p0 := cell_later hS0 qa.1; have p1 := cell_later hS0 qa.2.1; have p2 := cell_later hS0 qa.2.2.1; have p3 := cell_later hS0 qa.2.2.2.1; have p4 := cell_later hS0 qa.2.2.2.2.1; have p5 := cell_later hS0 qa.2.2.2.2.2.1; have p6 := cell_later hS0 qa.2.2.2.2.2.2.1; have p7 := cell_later hS0 qa.2.2.2.2.2.2.2; have r0 := cell_later hS0 qb.1; have r1 := cell_later hS0 qb.2.1; have r2 := cell_later hS0 qb.2.2.1; have r3 := cell_later hS0 qb.2.2.2.1; have r4 := cell_later hS0 qb.2.2.2.2.1; have r5 := cell_later hS0 qb.2.2.2.2.2.1; have r6 := cell_later hS0 qb.2.2.2.2.2.2.1; have r7 := cell_later hS0 qb.2.2.2.2.2.2.2;go_simp; (try with_reducible rfl)
        (try simp only [cq])
        refine wpAnyH_ready (rs := [8]) (by kernel_rfl) (by simp) ?_
        refine arc1 (some 146) fun K hK => ?_
        go_simp
        (refine (kinside_yes zy zx HSk _).mono ?_; rintro e w' ⟨rfl, hb⟩)
        refine hK.out _ _ ?_ ?_
        · (exact bwS hH (Nat.le_refl _) hb)
        (try clear hH); (try clear hb)
        intro hH
        clear hK K
        (try simp only [cq])
        refine tkY 9 (some 147) ?_ ?_ ?_
        rotate_left
        · intro w _; go_simp; (try with_reducible rfl)
        (try simp only [cq])
        refine wpAnyH_done (by kernel_rfl) ?_ _
        (try dsimp only [Act.put])
        (try simp only [cq])
        have hB2 := bwS hB (Nat.le_refl _) hH
        go_wp2
        go_roundw
        case rel => exact ⟨k + 1, by omega, by go_num, hB2⟩
        case measure => simp [intOf]; omega
      · obtain rfl : k = n := by omega
        have H1 := HI1.out
        have H2 := HI2.out
        clear HI1 HI2
        rcases H1 with rfl | ⟨g1, g2⟩
        · rcases H2 with rfl | ⟨g3, g4⟩
          · go_wp2_with fail
            refine (awake_any _).mono ?_
            rintro e w18 ⟨rfl, hb⟩
            have hA := HA.out.after (bwS hB (Nat.le_refl _) hb)
            go_wp2
            go_ret
            exact ⟨rfl, Drawn.below HB.out.2 hA HB.out.1⟩
          · have z1 : (t == 0) = false := by simp; omega
            go_wp2_with fail
            refine (awake_any _).mono ?_
            rintro e w18 ⟨rfl, hb⟩
            have hA := HA.out.after (bwS hB (Nat.le_refl _) hb)
            go_wp2
            go_ret
            exact ⟨rfl, Drawn.below HB.out.2 hA HB.out.1⟩
        · have z0 : (p == 0) = false := by simp; omega
          rcases H2 with rfl | ⟨g3, g4⟩
          · go_wp2_with fail
            refine (awake_any _).mono ?_
            rintro e w18 ⟨rfl, hb⟩
            have hA := HA.out.after (bwS hB (Nat.le_refl _) hb)
            go_wp2
            go_ret
            exact ⟨rfl, Drawn.below HB.out.2 hA HB.out.1⟩
          · have z1 : (t == 0) = false := by simp; omega
            go_wp2_with fail
            refine (awake_any _).mono ?_
            rintro e w18 ⟨rfl, hb⟩
            have hA := HA.out.after (bwS hB (Nat.le_refl _) hb)
            go_wp2
            go_ret
            exact ⟨rfl, Drawn.below HB.out.2 hA HB.out.1⟩
end Go.Proofs.Ytkldjaofgdklbaa
