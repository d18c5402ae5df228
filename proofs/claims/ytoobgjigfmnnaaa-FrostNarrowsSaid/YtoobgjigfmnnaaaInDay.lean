/-
  The kit's InnerDays: days within days.
-/
import Derived.Test.YtoobgjigfmnnaaaInner
import Derived.Test.YtoobgjigfmnnaaaSame
import Derived.Test.YtoobgjigfmnnaaaNn
set_option linter.unusedVariables false
set_option linter.unusedSimpArgs false
namespace Go.Proofs.Ytoobgjigfmnnaaa
open Go.RowKit

theorem updD_at {d : Nat → Dy} {k : Nat} {v : Dy} {P : Nat → Dy → Prop} (h : ∀ i, i < k → P i (d i)) (hv : P k v) : ∀ i, i < k + 1 → P i (updD d k v i) := by
  intro i hi
  by_cases e : i = k
  · rw [show updD d k v i = v from if_pos e, e]
    exact hv
  · rw [show updD d k v i = d i from if_neg e]
    exact h i (by omega)
theorem day_in {d : Dy} (hd : d.Ok) {u0 u1 v0 v1 : Int} (h1 : d.c0 ≤ u0) (h2 : u0 ≤ u1) (h3 : u1 ≤ d.c1) (h4 : d.f0 ≤ v0) (h5 : v0 ≤ v1) (h6 : v1 ≤ d.f1) : Dy.Ok ⟨u0, u1, v0, v1, d.wa, d.cl⟩ ∧ Dy.Sub ⟨u0, u1, v0, v1, d.wa, d.cl⟩ d := by
  obtain ⟨a1, a2, a3, a4, a5, a6, a7, a8⟩ := hd
  exact ⟨⟨by simp only; omega, by simp only; omega, by simp only; omega, by simp only; omega, by simp only; omega, by simp only; omega, a7, a8⟩, ⟨h1, h3, h4, h6, rfl, rfl⟩⟩

set_option maxRecDepth 100000 in
set_option maxHeartbeats 8000000 in
theorem innerdays_in (n : Nat) (hn : n ≤ 400) (vd : Value) (d : Nat → Dy) (bs : Nat) (w : World) (hs : SeedAt bs w) (hR : w.ownsRow (bs + 1) 30 6 vd n (daysC d n)) (hd : ∀ i, i < n → (d i).Ok) :
    Calls Try.prog 54 #[.pointer (some ⟨bs, 0, none⟩), vd] w fun e w' => ∃ (v : Value) (dd : Nat → Dy), e = .returned v ∧ (∀ i, i < n → (dd i).Ok ∧ (dd i).Sub (d i)) ∧ w'.ownsRow w.heap.size 30 6 v n (daysC dd n) ∧ Drawn bs w w' := by
  have hbs : bs < w.heap.size := hs.choose_spec.lt
  obtain ⟨base, hbase⟩ : ∃ b, w.heap.size = b := ⟨_, rfl⟩
  rw [hbase]
  have zwb : w.heap.size ≤ base := by omega
  have zbb : base ≤ w.heap.size := by omega
  clear hbase
  have kD0 := daysAt_of_row hR
  obtain ⟨da, dcap, hvd, ncap, cmax, hz3⟩ := kD0
  clear hz3
  subst hvd
  have HR := Lib.hid hR
  clear hR
  have HD := Lib.hid hd
  clear hd
  have jR := World.ownsRow_nil w base 30 6
  have hA := Drawn.refl hs
  go_enter Try.func54, Try.ntmps54
  go_wp2_with fail
  go_loopw [5, 6] (fun vs ip wr => ∃ (k : Nat) (v : Value) (dd : Nat → Dy), vs = v ∧ ip = .int .i64 k ∧ k ≤ n ∧ (∀ i, i < k → (dd i).Ok ∧ (dd i).Sub (d i)) ∧ wr.ownsRow base 30 6 v k (daysC dd k) ∧ Drawn bs w wr ∧ base ≤ wr.heap.size) (fun _ ip _ => n - (intOf ip).toNat)
  case atStart => exact ⟨0, _, fun _ => ⟨0, 0, 0, 0, 0, false⟩, rfl, rfl, by omega, fun i hi => by omega, jR, hA, zbb⟩
  case round =>
    obtain ⟨k, v, dd, hv, rfl, hkn, hk, jR, hA, zB⟩ := hrel
    replace hv := hv.symm
    subst hv
    by_cases hlt : k < n
    · have kD := daysAt_of_row (hA.row HR.out (by omega))
      obtain ⟨da', dcap', hvd, _, _, hz3⟩ := kD
      simp only [Value.slice.injEq] at hvd
      obtain ⟨rfl, _, rfl⟩ := hvd
      obtain ⟨b, o, rfl, hc⟩ := hz3 (by omega)
      clear hz3
      have hdk := HD.out k hlt
      obtain ⟨a0, a1, a2, a3, a4, a5⟩ := hc k hlt
      clear hc
      obtain ⟨dk, hdk2⟩ : ∃ z, d k = z := ⟨_, rfl⟩
      rw [hdk2] at a0 a1 a2 a3 a4 a5 hdk
      have HK := Lib.hid hdk2
      clear hdk2
      obtain ⟨c0, c1, f0, f1, wa, cl⟩ := dk
      dsimp only at a0 a1 a2 a3 a4 a5
      have hblt := World.block_lt_of_cell? _ _ a0
      go_upto_region 6 with fail
      have hg0 : ∀ q, v.ownBlock = some q → q < wr.heap.size := fun q e => (jR.lt q e).2
      have jD := Blk.new wr #[.int .i64 c0, .int .i64 c1, .int .i64 f0, .int .i64 f1, .int .i64 wa, .bool cl] 30
      replace jR := jR.alloc (.cells #[.int .i64 c0, .int .i64 c1, .int .i64 f0, .int .i64 f1, .int .i64 wa, .bool cl] 30)
      replace hA := hA.new (.cells #[.int .i64 c0, .int .i64 c1, .int .i64 f0, .int .i64 f1, .int .i64 wa, .bool cl] 30)
      have zBD : base ≤ wr.heap.size := zB
      clear a0 a1 a2 a3 a4 a5 hblt
      have hg : ∀ q, v.ownBlock = some q → q < (⟨wr.heap.size, 0, none⟩ : Addr).block := hg0
      have kP0 := Lib.hid (fun (u0 u1 v0 v1 : Int) => day_in hdk (u0 := u0) (u1 := u1) (v0 := v0) (v1 := v1))
      obtain ⟨e1, e2, e3, e4, e5, e6, _, _⟩ := hdk
      dsimp only at e1 e2 e3 e4 e5 e6
      have HP1 := Lib.hid (show ∀ W, SeedAt bs W → Calls Try.prog 89 #[.pointer (some ⟨bs, 0, none⟩), .agg #[.int .i64 c0, .int .i64 c1]] W fun e w' => ∃ u v, e = .returned (.agg #[.int .i64 u, .int .i64 v]) ∧ c0 ≤ u ∧ u ≤ v ∧ v ≤ c1 ∧ Drawn bs W w' from fun W hW => kpart_in c0 c1 bs W hW (by omega) (by omega) (by omega))
      have HP2 := Lib.hid (show ∀ W, SeedAt bs W → Calls Try.prog 89 #[.pointer (some ⟨bs, 0, none⟩), .agg #[.int .i64 f0, .int .i64 f1]] W fun e w' => ∃ u v, e = .returned (.agg #[.int .i64 u, .int .i64 v]) ∧ f0 ≤ u ∧ u ≤ v ∧ v ≤ f1 ∧ Drawn bs W w' from fun W hW => kpart_in f0 f1 bs W hW (by omega) (by omega) (by omega))
      clear e1 e2 e3 e4 e5 e6
      obtain ⟨bD, hbD⟩ : ∃ b, wr.heap.size = b := ⟨_, rfl⟩
      have hwD : w.heap.size ≤ bD := by omega
      replace zB : base ≤ (wr.alloc (.cells #[.int .i64 c0, .int .i64 c1, .int .i64 f0, .int .i64 f1, .int .i64 wa, .bool cl] 30)).heap.size := by simp; omega
      generalize wr.alloc (.cells #[.int .i64 c0, .int .i64 c1, .int .i64 f0, .int .i64 f1, .int .i64 wa, .bool cl] 30) = V at jD jR hA zB ⊢
      rw [hbD] at hg jD zBD
      (try rw [hbD])
      clear hbD hg0
      go_cut [7] (fun s7 wx => ∃ u0 u1 v0 v1 : Int, s7 = .pointer (some ⟨bD, 0, none⟩) ∧ c0 ≤ u0 ∧ u0 ≤ u1 ∧ u1 ≤ c1 ∧ f0 ≤ v0 ∧ v0 ≤ v1 ∧ v1 ≤ f1 ∧ Blk wx bD #[.int .i64 u0, .int .i64 u1, .int .i64 v0, .int .i64 v1, .int .i64 wa, .bool cl] 30 ∧ wx.ownsRow base 30 6 v k (daysC dd k) ∧ Drawn bs w wx ∧ base ≤ wx.heap.size)
      case first =>
        have kP := jD.drew
        refine wp_region_held_drew (S := (fun w' => w'.ownsRow base 30 6 v k (daysC dd k) ∧ Drawn bs w w' ∧ base ≤ w'.heap.size)) (by kernel_rfl) ?_ (fun hHeld => ?_)
        · (try dsimp only); (exact ⟨jR, hA.trans (Drawn.drew hA.seed), zB⟩)
        refine wpAnyH_take (i := 0) (oi := { dst := some 18, op := _, type := _, pos := _, after := _, guard := _ }) (v := ?_) rfl (by kernel_rfl) (by kernel_rfl) (by kernel_rfl) (fun _ _ _ h => h) (Or.inl ⟨by rfl, ?_⟩) (by assumption) ?_
        rotate_left
        · intro w hSw; (try dsimp only at hSw); go_simp; (try with_reducible rfl)
        (try simp only [Act.put, List.setIfInBounds_toArray, List.set_cons_zero, List.set_cons_succ])
        refine wpAnyH_take (i := 1) (oi := { dst := some 19, op := _, type := _, pos := _, after := _, guard := _ }) (v := ?_) rfl (by kernel_rfl) (by kernel_rfl) (by kernel_rfl) (fun _ _ _ h => h) (Or.inl ⟨by rfl, ?_⟩) (by assumption) ?_
        rotate_left
        · intro w hSw; (try dsimp only at hSw); go_simp; (try with_reducible rfl)
        (try simp only [Act.put, List.setIfInBounds_toArray, List.set_cons_zero, List.set_cons_succ])
        refine wpAnyH_take (i := 4) (oi := { dst := some 22, op := _, type := _, pos := _, after := _, guard := _ }) (v := ?_) rfl (by kernel_rfl) (by kernel_rfl) (by kernel_rfl) (fun _ _ _ h => h) (Or.inl ⟨by rfl, ?_⟩) (by assumption) ?_
        rotate_left
        · intro w hSw; (try dsimp only at hSw); go_simp; (try with_reducible rfl)
        (try simp only [Act.put, List.setIfInBounds_toArray, List.set_cons_zero, List.set_cons_succ])
        refine wpAnyH_take (i := 5) (oi := { dst := some 23, op := _, type := _, pos := _, after := _, guard := _ }) (v := ?_) rfl (by kernel_rfl) (by kernel_rfl) (by kernel_rfl) (fun _ _ _ h => h) (Or.inl ⟨by rfl, ?_⟩) (by assumption) ?_
        rotate_left
        · intro w hSw; (try dsimp only at hSw); go_simp; (try with_reducible rfl)
        (try simp only [Act.put, List.setIfInBounds_toArray, List.set_cons_zero, List.set_cons_succ])
        refine wpAnyH_ready (rs := [2, 6]) (by kernel_rfl) (by simp) ?_
        refine AllReadyH.cons (o := { dst := some 20, op := _, type := _, pos := _, after := _, guard := _ }) rfl (fun K hK => ?_) ?_
        · obtain ⟨q0, q1, q2, q3, q4, q5⟩ := kP.c6
          have zP := kP.lt
          go_simp
          refine hK.out _ _ ?_ ?_
          · exact hHeld
          (try clear hHeld); (try clear hd)
          intro hHeld
          clear q0 q1 q2 q3 q4 q5 zP
          clear hK K
          (try simp only [Act.put, List.setIfInBounds_toArray, List.set_cons_zero, List.set_cons_succ])
          refine wpAnyH_ready (rs := [3, 6]) (by kernel_rfl) (by simp) ?_
          refine AllReadyH.cons (o := { dst := some 21, op := _, type := _, pos := _, after := _, guard := _ }) rfl (fun K hK => ?_) ?_
          · go_simp
            (refine (HP1.out _ hHeld.2.1.seed).mono ?_; rintro e w' ⟨u0, u1, rfl, h1, h2, h3, hd⟩; replace kP := hd.blk kP (by omega))
            refine hK.out _ _ ?_ ?_
            · (exact ⟨hd.row hHeld.1 (by omega), hHeld.2.1.trans hd, Nat.le_trans hHeld.2.2 hd.2.size⟩)
            (try clear hHeld); (try clear hd)
            intro hHeld
            clear hK K
            (try simp only [Act.put, List.setIfInBounds_toArray, List.set_cons_zero, List.set_cons_succ])
            refine wpAnyH_ready (rs := [6]) (by kernel_rfl) (by simp) ?_
            refine AllReadyH.cons (o := { dst := some 24, op := _, type := _, pos := _, after := _, guard := _ }) rfl (fun K hK => ?_) AllReadyH.nil
            obtain ⟨q0, q1, q2, q3, q4, q5⟩ := kP.c6
            have zP := kP.lt
            go_simp
            refine hK.out _ _ ?_ ?_
            · exact hHeld
            (try clear hHeld); (try clear hd)
            intro hHeld
            clear q0 q1 q2 q3 q4 q5 zP
            clear hK K
            (try simp only [Act.put, List.setIfInBounds_toArray, List.set_cons_zero, List.set_cons_succ])
            refine wpAnyH_take (i := 8) (oi := { dst := some 26, op := _, type := _, pos := _, after := _, guard := _ }) (v := ?_) rfl (by kernel_rfl) (by kernel_rfl) (by kernel_rfl) (fun _ _ _ h => h) (Or.inl ⟨by rfl, ?_⟩) (by assumption) ?_
            rotate_left
            · intro w hSw; (try dsimp only at hSw); go_simp; (try with_reducible rfl)
            (try simp only [Act.put, List.setIfInBounds_toArray, List.set_cons_zero, List.set_cons_succ])
            refine wpAnyH_ready (rs := [7]) (by kernel_rfl) (by simp) ?_
            refine AllReadyH.cons (o := { dst := some 25, op := _, type := _, pos := _, after := _, guard := _ }) rfl (fun K hK => ?_) AllReadyH.nil
            go_simp
            (refine (HP2.out _ hHeld.2.1.seed).mono ?_; rintro e w' ⟨v0, v1, rfl, h4, h5, h6, hd⟩; replace kP := hd.blk kP (by omega))
            refine hK.out _ _ ?_ ?_
            · (exact ⟨hd.row hHeld.1 (by omega), hHeld.2.1.trans hd, Nat.le_trans hHeld.2.2 hd.2.size⟩)
            (try clear hHeld); (try clear hd)
            intro hHeld
            clear hK K
            (try simp only [Act.put, List.setIfInBounds_toArray, List.set_cons_zero, List.set_cons_succ])
            refine wpAnyH_ready (rs := [9]) (by kernel_rfl) (by simp) ?_
            refine AllReadyH.cons (o := { dst := none, op := _, type := _, pos := _, after := _, guard := _ }) rfl (fun K hK => ?_) AllReadyH.nil
            obtain ⟨g1, g2, g3⟩ := hHeld
            obtain ⟨q0, q1, q2, q3, q4, q5⟩ := kP.c6
            have fr0 := kP.free 0
            have fr1 := kP.free 1
            have zR := kP.lt
            have HS := Lib.hid (show Blk _ _ #[.int .i64 u0, .int .i64 u1, .int .i64 f0, .int .i64 f1, .int .i64 wa, .bool cl] _ from (kP.set 0 (.int .i64 u0)).set 1 (.int .i64 u1))
            have HA := Lib.hid ((g2.set (p := ⟨bD, 0, none⟩) (by simp; omega) hbs (.int .i64 u0)).set (p := ⟨bD, 1, none⟩) (by simp; omega) hbs (.int .i64 u1))
            have HRw := Lib.hid (ownsRow_other (ownsRow_other g1 ⟨bD, 0, none⟩ (.int .i64 u0) hg) ⟨bD, 1, none⟩ (.int .i64 u1) hg)
            go_simp
            refine hK.out _ _ ?_ ?_
            · exact ⟨HRw.out, HA.out, by simpa using g3⟩
            (try clear hHeld); (try clear hd)
            intro hHeld
            clear q0 q1 q2 q3 q4 q5 fr0 fr1 zR g1 g2 g3
            replace kP := HS.out
            clear HS HA HRw
            clear hK K
            (try simp only [Act.put, List.setIfInBounds_toArray, List.set_cons_zero, List.set_cons_succ])
            refine wpAnyH_take (i := 10) (oi := { dst := some 27, op := _, type := _, pos := _, after := _, guard := _ }) (v := ?_) rfl (by kernel_rfl) (by kernel_rfl) (by kernel_rfl) (fun _ _ _ h => h) (Or.inl ⟨by rfl, ?_⟩) (by assumption) ?_
            rotate_left
            · intro w hSw; (try dsimp only at hSw); go_simp; (try with_reducible rfl)
            (try simp only [Act.put, List.setIfInBounds_toArray, List.set_cons_zero, List.set_cons_succ])
            refine wpAnyH_ready (rs := [11]) (by kernel_rfl) (by simp) ?_
            refine AllReadyH.cons (o := { dst := none, op := _, type := _, pos := _, after := _, guard := _ }) rfl (fun K hK => ?_) AllReadyH.nil
            obtain ⟨g1, g2, g3⟩ := hHeld
            obtain ⟨q0, q1, q2, q3, q4, q5⟩ := kP.c6
            have fr2 := kP.free 2
            have fr3 := kP.free 3
            have zR := kP.lt
            have HS := Lib.hid (show Blk _ _ #[.int .i64 u0, .int .i64 u1, .int .i64 v0, .int .i64 v1, .int .i64 wa, .bool cl] _ from (kP.set 2 (.int .i64 v0)).set 3 (.int .i64 v1))
            have HA := Lib.hid ((g2.set (p := ⟨bD, 2, none⟩) (by simp; omega) hbs (.int .i64 v0)).set (p := ⟨bD, 3, none⟩) (by simp; omega) hbs (.int .i64 v1))
            have HRw := Lib.hid (ownsRow_other (ownsRow_other g1 ⟨bD, 2, none⟩ (.int .i64 v0) hg) ⟨bD, 3, none⟩ (.int .i64 v1) hg)
            go_simp
            refine hK.out _ _ ?_ ?_
            · exact ⟨HRw.out, HA.out, by simpa using g3⟩
            (try clear hHeld); (try clear hd)
            intro hHeld
            clear q0 q1 q2 q3 q4 q5 fr2 fr3 zR g1 g2 g3
            replace kP := HS.out
            clear HS HA HRw
            clear hK K
            (try simp only [Act.put, List.setIfInBounds_toArray, List.set_cons_zero, List.set_cons_succ])
            refine wpAnyH_done (by kernel_rfl) ?_ _
            (try dsimp only [Act.put])
            (try simp only [Act.put, List.setIfInBounds_toArray, List.set_cons_zero, List.set_cons_succ])
            go_wp2_with fail
            go_meet
            exact ⟨u0, u1, v0, v1, rfl, h1, h2, h3, h4, h5, h6, kP, hHeld.1, hHeld.2.1, hHeld.2.2⟩
          refine AllReadyH.cons (o := { dst := some 24, op := _, type := _, pos := _, after := _, guard := _ }) rfl (fun K hK => ?_) ?_
          · obtain ⟨q0, q1, q2, q3, q4, q5⟩ := kP.c6
            have zP := kP.lt
            go_simp
            refine hK.out _ _ ?_ ?_
            · exact hHeld
            (try clear hHeld); (try clear hd)
            intro hHeld
            clear q0 q1 q2 q3 q4 q5 zP
            clear hK K
            (try simp only [Act.put, List.setIfInBounds_toArray, List.set_cons_zero, List.set_cons_succ])
            refine wpAnyH_ready (rs := [3]) (by kernel_rfl) (by simp) ?_
            refine AllReadyH.cons (o := { dst := some 21, op := _, type := _, pos := _, after := _, guard := _ }) rfl (fun K hK => ?_) AllReadyH.nil
            go_simp
            (refine (HP1.out _ hHeld.2.1.seed).mono ?_; rintro e w' ⟨u0, u1, rfl, h1, h2, h3, hd⟩; replace kP := hd.blk kP (by omega))
            refine hK.out _ _ ?_ ?_
            · (exact ⟨hd.row hHeld.1 (by omega), hHeld.2.1.trans hd, Nat.le_trans hHeld.2.2 hd.2.size⟩)
            (try clear hHeld); (try clear hd)
            intro hHeld
            clear hK K
            (try simp only [Act.put, List.setIfInBounds_toArray, List.set_cons_zero, List.set_cons_succ])
            refine wpAnyH_take (i := 8) (oi := { dst := some 26, op := _, type := _, pos := _, after := _, guard := _ }) (v := ?_) rfl (by kernel_rfl) (by kernel_rfl) (by kernel_rfl) (fun _ _ _ h => h) (Or.inl ⟨by rfl, ?_⟩) (by assumption) ?_
            rotate_left
            · intro w hSw; (try dsimp only at hSw); go_simp; (try with_reducible rfl)
            (try simp only [Act.put, List.setIfInBounds_toArray, List.set_cons_zero, List.set_cons_succ])
            refine wpAnyH_ready (rs := [7]) (by kernel_rfl) (by simp) ?_
            refine AllReadyH.cons (o := { dst := some 25, op := _, type := _, pos := _, after := _, guard := _ }) rfl (fun K hK => ?_) AllReadyH.nil
            go_simp
            (refine (HP2.out _ hHeld.2.1.seed).mono ?_; rintro e w' ⟨v0, v1, rfl, h4, h5, h6, hd⟩; replace kP := hd.blk kP (by omega))
            refine hK.out _ _ ?_ ?_
            · (exact ⟨hd.row hHeld.1 (by omega), hHeld.2.1.trans hd, Nat.le_trans hHeld.2.2 hd.2.size⟩)
            (try clear hHeld); (try clear hd)
            intro hHeld
            clear hK K
            (try simp only [Act.put, List.setIfInBounds_toArray, List.set_cons_zero, List.set_cons_succ])
            refine wpAnyH_ready (rs := [9]) (by kernel_rfl) (by simp) ?_
            refine AllReadyH.cons (o := { dst := none, op := _, type := _, pos := _, after := _, guard := _ }) rfl (fun K hK => ?_) AllReadyH.nil
            obtain ⟨g1, g2, g3⟩ := hHeld
            obtain ⟨q0, q1, q2, q3, q4, q5⟩ := kP.c6
            have fr0 := kP.free 0
            have fr1 := kP.free 1
            have zR := kP.lt
            have HS := Lib.hid (show Blk _ _ #[.int .i64 u0, .int .i64 u1, .int .i64 f0, .int .i64 f1, .int .i64 wa, .bool cl] _ from (kP.set 0 (.int .i64 u0)).set 1 (.int .i64 u1))
            have HA := Lib.hid ((g2.set (p := ⟨bD, 0, none⟩) (by simp; omega) hbs (.int .i64 u0)).set (p := ⟨bD, 1, none⟩) (by simp; omega) hbs (.int .i64 u1))
            have HRw := Lib.hid (ownsRow_other (ownsRow_other g1 ⟨bD, 0, none⟩ (.int .i64 u0) hg) ⟨bD, 1, none⟩ (.int .i64 u1) hg)
            go_simp
            refine hK.out _ _ ?_ ?_
            · exact ⟨HRw.out, HA.out, by simpa using g3⟩
            (try clear hHeld); (try clear hd)
            intro hHeld
            clear q0 q1 q2 q3 q4 q5 fr0 fr1 zR g1 g2 g3
            replace kP := HS.out
            clear HS HA HRw
            clear hK K
            (try simp only [Act.put, List.setIfInBounds_toArray, List.set_cons_zero, List.set_cons_succ])
            refine wpAnyH_take (i := 10) (oi := { dst := some 27, op := _, type := _, pos := _, after := _, guard := _ }) (v := ?_) rfl (by kernel_rfl) (by kernel_rfl) (by kernel_rfl) (fun _ _ _ h => h) (Or.inl ⟨by rfl, ?_⟩) (by assumption) ?_
            rotate_left
            · intro w hSw; (try dsimp only at hSw); go_simp; (try with_reducible rfl)
            (try simp only [Act.put, List.setIfInBounds_toArray, List.set_cons_zero, List.set_cons_succ])
            refine wpAnyH_ready (rs := [11]) (by kernel_rfl) (by simp) ?_
            refine AllReadyH.cons (o := { dst := none, op := _, type := _, pos := _, after := _, guard := _ }) rfl (fun K hK => ?_) AllReadyH.nil
            obtain ⟨g1, g2, g3⟩ := hHeld
            obtain ⟨q0, q1, q2, q3, q4, q5⟩ := kP.c6
            have fr2 := kP.free 2
            have fr3 := kP.free 3
            have zR := kP.lt
            have HS := Lib.hid (show Blk _ _ #[.int .i64 u0, .int .i64 u1, .int .i64 v0, .int .i64 v1, .int .i64 wa, .bool cl] _ from (kP.set 2 (.int .i64 v0)).set 3 (.int .i64 v1))
            have HA := Lib.hid ((g2.set (p := ⟨bD, 2, none⟩) (by simp; omega) hbs (.int .i64 v0)).set (p := ⟨bD, 3, none⟩) (by simp; omega) hbs (.int .i64 v1))
            have HRw := Lib.hid (ownsRow_other (ownsRow_other g1 ⟨bD, 2, none⟩ (.int .i64 v0) hg) ⟨bD, 3, none⟩ (.int .i64 v1) hg)
            go_simp
            refine hK.out _ _ ?_ ?_
            · exact ⟨HRw.out, HA.out, by simpa using g3⟩
            (try clear hHeld); (try clear hd)
            intro hHeld
            clear q0 q1 q2 q3 q4 q5 fr2 fr3 zR g1 g2 g3
            replace kP := HS.out
            clear HS HA HRw
            clear hK K
            (try simp only [Act.put, List.setIfInBounds_toArray, List.set_cons_zero, List.set_cons_succ])
            refine wpAnyH_done (by kernel_rfl) ?_ _
            (try dsimp only [Act.put])
            (try simp only [Act.put, List.setIfInBounds_toArray, List.set_cons_zero, List.set_cons_succ])
            go_wp2_with fail
            go_meet
            exact ⟨u0, u1, v0, v1, rfl, h1, h2, h3, h4, h5, h6, kP, hHeld.1, hHeld.2.1, hHeld.2.2⟩
          exact AllReadyH.nil
        refine AllReadyH.cons (o := { dst := some 24, op := _, type := _, pos := _, after := _, guard := _ }) rfl (fun K hK => ?_) ?_
        · obtain ⟨q0, q1, q2, q3, q4, q5⟩ := kP.c6
          have zP := kP.lt
          go_simp
          refine hK.out _ _ ?_ ?_
          · exact hHeld
          (try clear hHeld); (try clear hd)
          intro hHeld
          clear q0 q1 q2 q3 q4 q5 zP
          clear hK K
          (try simp only [Act.put, List.setIfInBounds_toArray, List.set_cons_zero, List.set_cons_succ])
          refine wpAnyH_ready (rs := [2]) (by kernel_rfl) (by simp) ?_
          refine AllReadyH.cons (o := { dst := some 20, op := _, type := _, pos := _, after := _, guard := _ }) rfl (fun K hK => ?_) AllReadyH.nil
          obtain ⟨q0, q1, q2, q3, q4, q5⟩ := kP.c6
          have zP := kP.lt
          go_simp
          refine hK.out _ _ ?_ ?_
          · exact hHeld
          (try clear hHeld); (try clear hd)
          intro hHeld
          clear q0 q1 q2 q3 q4 q5 zP
          clear hK K
          (try simp only [Act.put, List.setIfInBounds_toArray, List.set_cons_zero, List.set_cons_succ])
          refine wpAnyH_ready (rs := [3]) (by kernel_rfl) (by simp) ?_
          refine AllReadyH.cons (o := { dst := some 21, op := _, type := _, pos := _, after := _, guard := _ }) rfl (fun K hK => ?_) AllReadyH.nil
          go_simp
          (refine (HP1.out _ hHeld.2.1.seed).mono ?_; rintro e w' ⟨u0, u1, rfl, h1, h2, h3, hd⟩; replace kP := hd.blk kP (by omega))
          refine hK.out _ _ ?_ ?_
          · (exact ⟨hd.row hHeld.1 (by omega), hHeld.2.1.trans hd, Nat.le_trans hHeld.2.2 hd.2.size⟩)
          (try clear hHeld); (try clear hd)
          intro hHeld
          clear hK K
          (try simp only [Act.put, List.setIfInBounds_toArray, List.set_cons_zero, List.set_cons_succ])
          refine wpAnyH_take (i := 8) (oi := { dst := some 26, op := _, type := _, pos := _, after := _, guard := _ }) (v := ?_) rfl (by kernel_rfl) (by kernel_rfl) (by kernel_rfl) (fun _ _ _ h => h) (Or.inl ⟨by rfl, ?_⟩) (by assumption) ?_
          rotate_left
          · intro w hSw; (try dsimp only at hSw); go_simp; (try with_reducible rfl)
          (try simp only [Act.put, List.setIfInBounds_toArray, List.set_cons_zero, List.set_cons_succ])
          refine wpAnyH_ready (rs := [7]) (by kernel_rfl) (by simp) ?_
          refine AllReadyH.cons (o := { dst := some 25, op := _, type := _, pos := _, after := _, guard := _ }) rfl (fun K hK => ?_) AllReadyH.nil
          go_simp
          (refine (HP2.out _ hHeld.2.1.seed).mono ?_; rintro e w' ⟨v0, v1, rfl, h4, h5, h6, hd⟩; replace kP := hd.blk kP (by omega))
          refine hK.out _ _ ?_ ?_
          · (exact ⟨hd.row hHeld.1 (by omega), hHeld.2.1.trans hd, Nat.le_trans hHeld.2.2 hd.2.size⟩)
          (try clear hHeld); (try clear hd)
          intro hHeld
          clear hK K
          (try simp only [Act.put, List.setIfInBounds_toArray, List.set_cons_zero, List.set_cons_succ])
          refine wpAnyH_ready (rs := [9]) (by kernel_rfl) (by simp) ?_
          refine AllReadyH.cons (o := { dst := none, op := _, type := _, pos := _, after := _, guard := _ }) rfl (fun K hK => ?_) AllReadyH.nil
          obtain ⟨g1, g2, g3⟩ := hHeld
          obtain ⟨q0, q1, q2, q3, q4, q5⟩ := kP.c6
          have fr0 := kP.free 0
          have fr1 := kP.free 1
          have zR := kP.lt
          have HS := Lib.hid (show Blk _ _ #[.int .i64 u0, .int .i64 u1, .int .i64 f0, .int .i64 f1, .int .i64 wa, .bool cl] _ from (kP.set 0 (.int .i64 u0)).set 1 (.int .i64 u1))
          have HA := Lib.hid ((g2.set (p := ⟨bD, 0, none⟩) (by simp; omega) hbs (.int .i64 u0)).set (p := ⟨bD, 1, none⟩) (by simp; omega) hbs (.int .i64 u1))
          have HRw := Lib.hid (ownsRow_other (ownsRow_other g1 ⟨bD, 0, none⟩ (.int .i64 u0) hg) ⟨bD, 1, none⟩ (.int .i64 u1) hg)
          go_simp
          refine hK.out _ _ ?_ ?_
          · exact ⟨HRw.out, HA.out, by simpa using g3⟩
          (try clear hHeld); (try clear hd)
          intro hHeld
          clear q0 q1 q2 q3 q4 q5 fr0 fr1 zR g1 g2 g3
          replace kP := HS.out
          clear HS HA HRw
          clear hK K
          (try simp only [Act.put, List.setIfInBounds_toArray, List.set_cons_zero, List.set_cons_succ])
          refine wpAnyH_take (i := 10) (oi := { dst := some 27, op := _, type := _, pos := _, after := _, guard := _ }) (v := ?_) rfl (by kernel_rfl) (by kernel_rfl) (by kernel_rfl) (fun _ _ _ h => h) (Or.inl ⟨by rfl, ?_⟩) (by assumption) ?_
          rotate_left
          · intro w hSw; (try dsimp only at hSw); go_simp; (try with_reducible rfl)
          (try simp only [Act.put, List.setIfInBounds_toArray, List.set_cons_zero, List.set_cons_succ])
          refine wpAnyH_ready (rs := [11]) (by kernel_rfl) (by simp) ?_
          refine AllReadyH.cons (o := { dst := none, op := _, type := _, pos := _, after := _, guard := _ }) rfl (fun K hK => ?_) AllReadyH.nil
          obtain ⟨g1, g2, g3⟩ := hHeld
          obtain ⟨q0, q1, q2, q3, q4, q5⟩ := kP.c6
          have fr2 := kP.free 2
          have fr3 := kP.free 3
          have zR := kP.lt
          have HS := Lib.hid (show Blk _ _ #[.int .i64 u0, .int .i64 u1, .int .i64 v0, .int .i64 v1, .int .i64 wa, .bool cl] _ from (kP.set 2 (.int .i64 v0)).set 3 (.int .i64 v1))
          have HA := Lib.hid ((g2.set (p := ⟨bD, 2, none⟩) (by simp; omega) hbs (.int .i64 v0)).set (p := ⟨bD, 3, none⟩) (by simp; omega) hbs (.int .i64 v1))
          have HRw := Lib.hid (ownsRow_other (ownsRow_other g1 ⟨bD, 2, none⟩ (.int .i64 v0) hg) ⟨bD, 3, none⟩ (.int .i64 v1) hg)
          go_simp
          refine hK.out _ _ ?_ ?_
          · exact ⟨HRw.out, HA.out, by simpa using g3⟩
          (try clear hHeld); (try clear hd)
          intro hHeld
          clear q0 q1 q2 q3 q4 q5 fr2 fr3 zR g1 g2 g3
          replace kP := HS.out
          clear HS HA HRw
          clear hK K
          (try simp only [Act.put, List.setIfInBounds_toArray, List.set_cons_zero, List.set_cons_succ])
          refine wpAnyH_done (by kernel_rfl) ?_ _
          (try dsimp only [Act.put])
          (try simp only [Act.put, List.setIfInBounds_toArray, List.set_cons_zero, List.set_cons_succ])
          go_wp2_with fail
          go_meet
          exact ⟨u0, u1, v0, v1, rfl, h1, h2, h3, h4, h5, h6, kP, hHeld.1, hHeld.2.1, hHeld.2.2⟩
        exact AllReadyH.nil
      case rest =>
        obtain ⟨u0, u1, v0, v1, rfl, h1, h2, h3, h4, h5, h6, jD, jR, hA, zB⟩ := hcut
        have hk2 : Dy.Ok ⟨u0, u1, v0, v1, wa, cl⟩ ∧ Dy.Sub ⟨u0, u1, v0, v1, wa, cl⟩ (d k) := by rw [HK.out]; exact kP0.out _ _ _ _ h1 h2 h3 h4 h5 h6
        have hk3 := updD_at (P := fun i z => z.Ok ∧ z.Sub (d i)) hk hk2
        obtain ⟨q0, q1, q2, q3, q4, q5⟩ := jD.c6
        have zD := jD.lt
        have hr : ∀ q, v.ownBlock = some q → base ≤ q := fun q e => (jR.lt q e).1
        obtain ⟨i0, hi0, hz0, hz1, hz2⟩ := info_parts Try.infoDay
        go_wp2_with (at_builtin; refine wpList_append_own_at _ rfl _ _ 38 rfl base 30 i0 (.agg #[.int .i64 0, .int .i64 0, .int .i64 0, .int .i64 0, .int .i64 0, .bool false]) 6 48 Try.underlying38 hi0 hz0 hz1 hz2 rfl (by decide) _ _ _ rfl (jR.alloc _) ⟨wc.heap.size, 0, none⟩ 1 1 (dayC ⟨u0, u1, v0, v1, wa, cl⟩) rfl rfl (news6 _ ⟨u0, u1, v0, v1, wa, cl⟩ _) (one6 _) (by unfold maxLen; omega) (by omega) (by simp; omega) ?_; intro v' w10 hown' hgrow _ _; rw [← daysC_upd] at hown'; have kA := (hA.new (.cells #[.int .i64 u0, .int .i64 u1, .int .i64 v0, .int .i64 v1, .int .i64 wa, .bool cl] 30)).grown hgrow (fun q e => by have := hr q e; omega) hbs; have kB : base ≤ w10.heap.size := (by have := hgrow.size; simp at this; omega); clear q0 q1 q2 q3 q4 q5 zD)
        clear hgrow jD jR hA zB hr
        go_roundw
        case rel => exact ⟨k + 1, _, _, rfl, by go_num, by omega, hk3, hown', kA, kB⟩
        case measure => simp [intOf]; omega
    · obtain rfl : k = n := by omega
      go_wp2
      go_ret
      exact ⟨v, dd, rfl, hk, jR, hA⟩
end Go.Proofs.Ytoobgjigfmnnaaa
