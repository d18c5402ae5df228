/-
  The kit's DaysOf: valid days.
-/
import Derived.Test.YtdbiijldincoiaaGreatLawOf
set_option linter.unusedVariables false
set_option linter.unusedSimpArgs false
namespace Go.Proofs.YtdbiijldincoiaaGreat
open Go.RowKit

theorem ownsRow_other {w : World} {base : Nat} {e : TypeId} {size : Nat} {v : Value} {n : Nat} {xs : List Value} (h : w.ownsRow base e size v n xs) (p : Addr) (u : Value) (hp : ∀ k, v.ownBlock = some k → k < p.block) : (w.setCell p u).ownsRow base e size v n xs :=
  h.kept (row := some p.block) ⟨rfl, rfl, rfl, by simp, fun k _ hne => Below.heap_setCell w p u k (fun e => hne (by rw [e]))⟩ (by
    cases hv : v.ownBlock with
    | none => exact .inl rfl
    | some k => exact .inr (fun e => by
        have := hp k hv
        simp only [Option.some.injEq] at e
        omega))
structure Dy.Kit (fr : Bool) (d : Dy) : Prop where
  c0 : -60 ≤ d.c0
  c1 : d.c0 ≤ d.c1
  c2 : d.c1 ≤ 300
  fr : fr = true → 0 ≤ d.c0
  f0 : 0 ≤ d.f0
  f1 : d.f0 ≤ d.f1
  f2 : d.f1 ≤ 90
  w0 : 0 ≤ d.wa
  w1 : d.wa ≤ 30
theorem Dy.Kit.ok {fr : Bool} {d : Dy} (h : d.Kit fr) : d.Ok := by
  obtain ⟨h1, h2, h3, _, h4, h5, h6, h7, h8⟩ := h
  exact ⟨by omega, by omega, by omega, by omega, by omega, by omega, by omega, by omega⟩
def dayC (d : Dy) : List Value := [.int .i64 d.c0, .int .i64 d.c1, .int .i64 d.f0, .int .i64 d.f1, .int .i64 d.wa, .bool d.cl]
def daysC (d : Nat → Dy) : Nat → List Value
  | 0 => []
  | k + 1 => daysC d k ++ dayC (d k)
def updD (f : Nat → Dy) (k : Nat) (v : Dy) : Nat → Dy := fun i => if i = k then v else f i
theorem daysC_congr {d d' : Nat → Dy} : ∀ k, (∀ i, i < k → d i = d' i) → daysC d k = daysC d' k
  | 0, _ => rfl
  | k + 1, h => by rw [daysC, daysC, daysC_congr k (fun i hi => h i (by omega)), h k (by omega)]
theorem daysC_upd (d : Nat → Dy) (k : Nat) (v : Dy) : daysC (updD d k v) (k + 1) = daysC d k ++ dayC v := by
  rw [daysC, daysC_congr (d := updD d k v) (d' := d) k (fun i hi => if_neg (by omega)), show updD d k v k = v from if_pos rfl]
theorem updD_kit {fr : Bool} {d : Nat → Dy} {k : Nat} {v : Dy} (h : ∀ i, i < k → (d i).Kit fr) (hv : v.Kit fr) : ∀ i, i < k + 1 → (updD d k v i).Kit fr := by
  intro i hi
  by_cases e : i = k
  · rw [show updD d k v i = v from if_pos e]
    exact hv
  · rw [show updD d k v i = d i from if_neg e]
    exact h i (by omega)
theorem news6 (W : World) (d : Dy) (t : TypeId) : ∀ (j : Nat) (u : Value), (dayC d)[j]? = some u → (W.alloc (.cells #[.int .i64 d.c0, .int .i64 d.c1, .int .i64 d.f0, .int .i64 d.f1, .int .i64 d.wa, .bool d.cl] t)).cell? ((⟨W.heap.size, 0, none⟩ : Addr).add j) = some u := by
  intro j u h
  have hk := Blk.new W #[.int .i64 d.c0, .int .i64 d.c1, .int .i64 d.f0, .int .i64 d.f1, .int .i64 d.wa, .bool d.cl] t
  have e : (⟨W.heap.size, 0, none⟩ : Addr).add j = ⟨W.heap.size, j, none⟩ := by simp [Addr.add]; intro hj; exact hj.symm
  rw [e]
  exact hk.cell j (by simpa [dayC] using h)
theorem one6 (d : Dy) : ∀ u ∈ dayC d, u.oneCell' = true := by
  intro u h
  simp only [dayC, List.mem_cons, List.not_mem_nil, or_false] at h
  rcases h with rfl | rfl | rfl | rfl | rfl | rfl <;> rfl
theorem Tryz.infoDay : (Tryz.prog.info? 58).map (fun i => (i.zero, i.size, i.bytes)) = some (some (.agg #[.int .i64 0, .int .i64 0, .int .i64 0, .int .i64 0, .int .i64 0, .bool false]), 6, 48) := by kernel_rfl

set_option maxRecDepth 100000 in
set_option maxHeartbeats 8000000 in
theorem daysof_false (most : Int) (hm0 : 0 ≤ most) (hm : most ≤ 400) (bs : Nat) (w : World) (hs : SeedAt bs w) :
    Calls Tryz.prog 11 #[.pointer (some ⟨bs, 0, none⟩), .int .i64 most, .bool false] w fun e w' => ∃ (v : Value) (n : Nat) (d : Nat → Dy), e = .returned v ∧ (n : Int) ≤ most ∧ (∀ i, i < n → (d i).Kit false) ∧ w'.ownsRow (bs + 1) 58 6 v n (daysC d n) ∧ Drawn bs w w' := by
  have hbs : bs < w.heap.size := hs.choose_spec.lt
  have e1 : IntKind.i64.wrap (most + 1) = most + 1 := IntWalk.i64_in _ (by omega)
  have HB := Lib.hid (below_in (most + 1) bs w hs (by omega))
  obtain ⟨base, hbase⟩ : ∃ b, w.heap.size = b := ⟨_, rfl⟩
  have zwb : w.heap.size ≤ base := by omega
  have zbb : base ≤ w.heap.size := by omega
  clear hbase
  go_enter Tryz.func11, Tryz.ntmps11
  go_wp2_with fail
  refine HB.out.mono ?_
  rintro e w1 ⟨c, rfl, c0, c1, hA⟩
  replace c1 : c ≤ most := by omega
  obtain ⟨c, rfl⟩ := Int.eq_ofNat_of_zero_le c0
  have jR := World.ownsRow_nil w1 base 58 6
  have zB : base ≤ w1.heap.size := Nat.le_trans zbb hA.2.size
  clear HB c0 e1
  go_wp2_with fail
  go_loopw [7, 8] (fun vs ip wr => ∃ (k j : Nat) (v : Value) (dd : Nat → Dy), vs = v ∧ ip = .int .i64 j ∧ k + j = c ∧ (∀ i, i < k → (dd i).Kit false) ∧ wr.ownsRow base 58 6 v k (daysC dd k) ∧ Drawn bs w wr ∧ base ≤ wr.heap.size) (fun _ ip _ => (intOf ip).toNat)
  case atStart => exact ⟨0, c, _, fun _ => ⟨0, 0, 0, 0, 0, false⟩, rfl, rfl, by omega, fun i hi => by omega, jR, hA, zB⟩
  case round =>
    obtain ⟨k, j, v, dd, hv, rfl, hkj, hk, jR, hA, zB⟩ := hrel
    replace hv := hv.symm
    subst hv
    by_cases hj : 0 < j
    · obtain ⟨j, rfl⟩ : ∃ i, j = i + 1 := ⟨j - 1, by omega⟩
      go_wp2_with fail
      refine (of3_in (-60) 0 100 (-60) 100 bs _ _ (by simp) hA.seed (by decide) (by decide) (by decide) (by decide) (by decide) (by decide)).mono ?_
      rintro e w2 ⟨u0, rfl, u0l, u0h, hd⟩
      replace jR := hd.row (jR.alloc (.cells #[.int .i64 (-60), .int .i64 0, .int .i64 100] 3)) (by omega)
      replace hA := (hA.new (.cells #[.int .i64 (-60), .int .i64 0, .int .i64 100] 3)).trans hd
      clear hd
      go_wp2_with fail
      refine (of2_in 100 300 100 300 bs _ _ (by simp) hA.seed (by decide) (by decide) (by decide) (by decide)).mono ?_
      rintro e w3 ⟨u1, rfl, u1l, u1h, hd⟩
      replace jR := hd.row (jR.alloc (.cells #[.int .i64 100, .int .i64 300] 3)) (by omega)
      replace hA := (hA.new (.cells #[.int .i64 100, .int .i64 300] 3)).trans hd
      clear hd
      go_wp2_with fail
      refine (kspan_in u0 u1 bs _ hA.seed (by omega) (by omega) (by omega)).mono ?_
      rintro e w4 ⟨c0, c1, rfl, c0l, c01, c1h, hd⟩
      replace jR := hd.row jR (by omega)
      replace hA := hA.trans hd
      clear hd
      go_wp2_with fail
      refine (yes_in 4 bs _ hA.seed (by decide)).mono ?_
      rintro e w5 ⟨cl, rfl, hd⟩
      replace jR := hd.row jR (by omega)
      replace hA := hA.trans hd
      clear hd
      replace zB : base ≤ w5.heap.size := Nat.le_trans zbb hA.2.size
      have hg0 : ∀ q, v.ownBlock = some q → q < w5.heap.size := fun q e => (jR.lt q e).2
      have jD := Blk.new w5 #[.int .i64 c0, .int .i64 c1, .int .i64 0, .int .i64 0, .int .i64 0, .bool cl] 58
      replace jR := jR.alloc (.cells #[.int .i64 c0, .int .i64 c1, .int .i64 0, .int .i64 0, .int .i64 0, .bool cl] 58)
      replace hA := hA.new (.cells #[.int .i64 c0, .int .i64 c1, .int .i64 0, .int .i64 0, .int .i64 0, .bool cl] 58)
      have zBD : base ≤ w5.heap.size := zB
      obtain ⟨bD, hbD⟩ : ∃ b, w5.heap.size = b := ⟨_, rfl⟩
      go_upto_region 6 with fail
      replace zB : base ≤ (w5.alloc (.cells #[.int .i64 c0, .int .i64 c1, .int .i64 0, .int .i64 0, .int .i64 0, .bool cl] 58)).heap.size := by simp; omega
      generalize w5.alloc (.cells #[.int .i64 c0, .int .i64 c1, .int .i64 0, .int .i64 0, .int .i64 0, .bool cl] 58) = V at jD jR hA zB ⊢
      rw [hbD] at hg0 jD zBD
      (try rw [hbD])
      clear hbD
      have hg : ∀ q, v.ownBlock = some q → q < (⟨bD, 0, none⟩ : Addr).block := hg0
      obtain ⟨q0, q1, q2, q3, q4, q5⟩ := jD.c6
      have zD := jD.lt
      clear q2 q3 q4 q5
      go_wp2_with fail
      refine (yes_in 3 bs _ hA.seed (by decide)).mono ?_
      rintro e w6 ⟨y1, rfl, hd⟩
      clear q0 q1 zD
      replace jD := hd.blk jD (by omega)
      replace jR := hd.row jR (by omega)
      replace hA := hA.trans hd
      replace zB : base ≤ _ := Nat.le_trans zB hd.2.size
      clear hd
      go_upto_if 43 with fail
      go_cut [9] (fun s9 wx => ∃ f0 f1 : Int, s9 = .pointer (some ⟨bD, 0, none⟩) ∧ 0 ≤ f0 ∧ f0 ≤ f1 ∧ f1 ≤ 90 ∧ Blk wx bD #[.int .i64 c0, .int .i64 c1, .int .i64 f0, .int .i64 f1, .int .i64 0, .bool cl] 58 ∧ wx.ownsRow base 58 6 v k (daysC dd k) ∧ Drawn bs w wx ∧ base ≤ wx.heap.size)
      case first =>
        cases y1 with
        | true =>
          go_wp2_with fail
          refine (kspan_in 0 90 bs _ hA.seed (by decide) (by decide) (by decide)).mono ?_
          rintro e w7 ⟨f0, f1, rfl, fl, f01, fh, hd⟩
          replace jD := hd.blk jD (by omega)
          replace jR := hd.row jR (by omega)
          replace hA := hA.trans hd
          replace zB : base ≤ _ := Nat.le_trans zB hd.2.size
          clear hd
          obtain ⟨q0, q1, q2, q3, q4, q5⟩ := jD.c6
          have r2 := jD.free 2
          have r3 := jD.free 3
          have zD := jD.lt
          have jD2 : Blk _ _ #[.int .i64 c0, .int .i64 c1, .int .i64 f0, .int .i64 f1, .int .i64 0, .bool cl] _ := (jD.set 2 (.int .i64 f0)).set 3 (.int .i64 f1)
          have jR2 := ownsRow_other (ownsRow_other jR ⟨bD, 2, none⟩ (.int .i64 f0) hg) ⟨bD, 3, none⟩ (.int .i64 f1) hg
          have hA2 := (hA.set (p := ⟨bD, 2, none⟩) (by simp; omega) hbs (.int .i64 f0)).set (p := ⟨bD, 3, none⟩) (by simp; omega) hbs (.int .i64 f1)
          have zB2 : base ≤ ((w7.setCell ⟨bD, 2, none⟩ (.int .i64 f0)).setCell ⟨bD, 3, none⟩ (.int .i64 f1)).heap.size := by simpa using zB
          go_wp2_with fail
          go_meet
          exact ⟨f0, f1, rfl, fl, f01, fh, jD2, jR2, hA2, zB2⟩
        | false =>
          go_wp2_with fail
          go_meet
          exact ⟨0, 0, rfl, by decide, by decide, by decide, jD, jR, hA, zB⟩
      case rest =>
        obtain ⟨f0, f1, rfl, fl, f01, fh, jD, jR, hA, zB⟩ := hcut
        go_wp2_with fail
        refine (yes_in 4 bs _ hA.seed (by decide)).mono ?_
        rintro e w8 ⟨y2, rfl, hd⟩
        replace jD := hd.blk jD (by omega)
        replace jR := hd.row jR (by omega)
        replace hA := hA.trans hd
        replace zB : base ≤ _ := Nat.le_trans zB hd.2.size
        clear hd
        go_upto_if 48 with fail
        go_cut [9] (fun s9 wx => ∃ wa : Int, s9 = .pointer (some ⟨bD, 0, none⟩) ∧ 0 ≤ wa ∧ wa ≤ 30 ∧ Blk wx bD #[.int .i64 c0, .int .i64 c1, .int .i64 f0, .int .i64 f1, .int .i64 wa, .bool cl] 58 ∧ wx.ownsRow base 58 6 v k (daysC dd k) ∧ Drawn bs w wx ∧ base ≤ wx.heap.size)
        case first =>
          cases y2 with
          | true =>
            go_wp2_with fail
            refine (from_in 1 30 bs _ hA.seed (by decide) (by decide) (by decide) (by decide)).mono ?_
            rintro e w9 ⟨wa, rfl, wl, wh, hd⟩
            replace wh : wa ≤ 30 := by omega
            replace jD := hd.blk jD (by omega)
            replace jR := hd.row jR (by omega)
            replace hA := hA.trans hd
            replace zB : base ≤ _ := Nat.le_trans zB hd.2.size
            clear hd
            obtain ⟨q0, q1, q2, q3, q4, q5⟩ := jD.c6
            have r4 := jD.free 4
            have zD := jD.lt
            have jD2 : Blk _ _ #[.int .i64 c0, .int .i64 c1, .int .i64 f0, .int .i64 f1, .int .i64 wa, .bool cl] _ := jD.set 4 (.int .i64 wa)
            have jR2 := ownsRow_other jR ⟨bD, 4, none⟩ (.int .i64 wa) hg
            have hA2 := hA.set (p := ⟨bD, 4, none⟩) (by simp; omega) hbs (.int .i64 wa)
            have zB2 : base ≤ (w9.setCell ⟨bD, 4, none⟩ (.int .i64 wa)).heap.size := by simpa using zB
            go_wp2_with fail
            go_meet
            exact ⟨wa, rfl, by omega, wh, jD2, jR2, hA2, zB2⟩
          | false =>
            go_wp2_with fail
            go_meet
            exact ⟨0, rfl, by decide, by decide, jD, jR, hA, zB⟩
        case rest =>
          obtain ⟨wa, rfl, wl, wh, jD, jR, hA, zB⟩ := hcut
          have hk2 : Dy.Kit false ⟨c0, c1, f0, f1, wa, cl⟩ := ⟨by simp only; omega, by simp only; omega, by simp only; omega, fun h => by first | (exact absurd h (by decide)) | (simp only; omega), fl, f01, fh, wl, wh⟩
          obtain ⟨q0, q1, q2, q3, q4, q5⟩ := jD.c6
          have zD := jD.lt
          have hr : ∀ q, v.ownBlock = some q → base ≤ q := fun q e => (jR.lt q e).1
          obtain ⟨i0, hi0, hz0, hz1, hz2⟩ := info_parts Tryz.infoDay
          go_wp2_with (at_builtin; refine wpList_append_own_at _ rfl _ _ 29 rfl base 58 i0 (.agg #[.int .i64 0, .int .i64 0, .int .i64 0, .int .i64 0, .int .i64 0, .bool false]) 6 48 Tryz.underlying29 hi0 hz0 hz1 hz2 rfl (by decide) _ _ _ rfl (jR.alloc _) ⟨wc.heap.size, 0, none⟩ 1 1 (dayC ⟨c0, c1, f0, f1, wa, cl⟩) rfl rfl (news6 _ ⟨c0, c1, f0, f1, wa, cl⟩ _) (one6 _) (by unfold maxLen; omega) (by omega) (by simp; omega) ?_; intro v' w10 hown' hgrow _ _; rw [← daysC_upd] at hown'; have kA := (hA.new (.cells #[.int .i64 c0, .int .i64 c1, .int .i64 f0, .int .i64 f1, .int .i64 wa, .bool cl] 58)).grown hgrow (fun q e => by have := hr q e; omega) hbs; have kB : base ≤ w10.heap.size := (by have := hgrow.size; simp at this; omega); clear q0 q1 q2 q3 q4 q5 zD)
          clear hgrow jD jR hA zB hr
          go_roundw
          case rel => exact ⟨k + 1, j, _, _, rfl, by go_num, by omega, updD_kit hk hk2, hown', kA, kB⟩
          case measure => simp [intOf]
    · obtain rfl : j = 0 := by omega
      go_wp2
      go_ret
      exact ⟨v, k, dd, rfl, by omega, hk, ownsRow_base jR (by omega), hA⟩

set_option maxRecDepth 100000 in
set_option maxHeartbeats 8000000 in
theorem daysof_true (most : Int) (hm0 : 0 ≤ most) (hm : most ≤ 400) (bs : Nat) (w : World) (hs : SeedAt bs w) :
    Calls Tryz.prog 11 #[.pointer (some ⟨bs, 0, none⟩), .int .i64 most, .bool true] w fun e w' => ∃ (v : Value) (n : Nat) (d : Nat → Dy), e = .returned v ∧ (n : Int) ≤ most ∧ (∀ i, i < n → (d i).Kit true) ∧ w'.ownsRow (bs + 1) 58 6 v n (daysC d n) ∧ Drawn bs w w' := by
  have hbs : bs < w.heap.size := hs.choose_spec.lt
  have e1 : IntKind.i64.wrap (most + 1) = most + 1 := IntWalk.i64_in _ (by omega)
  have HB := Lib.hid (below_in (most + 1) bs w hs (by omega))
  obtain ⟨base, hbase⟩ : ∃ b, w.heap.size = b := ⟨_, rfl⟩
  have zwb : w.heap.size ≤ base := by omega
  have zbb : base ≤ w.heap.size := by omega
  clear hbase
  go_enter Tryz.func11, Tryz.ntmps11
  go_wp2_with fail
  refine HB.out.mono ?_
  rintro e w1 ⟨c, rfl, c0, c1, hA⟩
  replace c1 : c ≤ most := by omega
  obtain ⟨c, rfl⟩ := Int.eq_ofNat_of_zero_le c0
  have jR := World.ownsRow_nil w1 base 58 6
  have zB : base ≤ w1.heap.size := Nat.le_trans zbb hA.2.size
  clear HB c0 e1
  go_wp2_with fail
  go_loopw [7, 8] (fun vs ip wr => ∃ (k j : Nat) (v : Value) (dd : Nat → Dy), vs = v ∧ ip = .int .i64 j ∧ k + j = c ∧ (∀ i, i < k → (dd i).Kit true) ∧ wr.ownsRow base 58 6 v k (daysC dd k) ∧ Drawn bs w wr ∧ base ≤ wr.heap.size) (fun _ ip _ => (intOf ip).toNat)
  case atStart => exact ⟨0, c, _, fun _ => ⟨0, 0, 0, 0, 0, false⟩, rfl, rfl, by omega, fun i hi => by omega, jR, hA, zB⟩
  case round =>
    obtain ⟨k, j, v, dd, hv, rfl, hkj, hk, jR, hA, zB⟩ := hrel
    replace hv := hv.symm
    subst hv
    by_cases hj : 0 < j
    · obtain ⟨j, rfl⟩ : ∃ i, j = i + 1 := ⟨j - 1, by omega⟩
      go_wp2_with fail
      refine (of3_in (-60) 0 100 (-60) 100 bs _ _ (by simp) hA.seed (by decide) (by decide) (by decide) (by decide) (by decide) (by decide)).mono ?_
      rintro e w2 ⟨u0, rfl, u0l, u0h, hd⟩
      replace jR := hd.row (jR.alloc (.cells #[.int .i64 (-60), .int .i64 0, .int .i64 100] 3)) (by omega)
      replace hA := (hA.new (.cells #[.int .i64 (-60), .int .i64 0, .int .i64 100] 3)).trans hd
      clear hd
      go_wp2_with fail
      refine (of2_in 100 300 100 300 bs _ _ (by simp) hA.seed (by decide) (by decide) (by decide) (by decide)).mono ?_
      rintro e w3 ⟨u1, rfl, u1l, u1h, hd⟩
      replace jR := hd.row (jR.alloc (.cells #[.int .i64 100, .int .i64 300] 3)) (by omega)
      replace hA := (hA.new (.cells #[.int .i64 100, .int .i64 300] 3)).trans hd
      clear hd
      go_wp2_with fail
      refine (kspan_in u0 u1 bs _ hA.seed (by omega) (by omega) (by omega)).mono ?_
      rintro e w4 ⟨c0, c1, rfl, c0l, c01, c1h, hd⟩
      replace jR := hd.row jR (by omega)
      replace hA := hA.trans hd
      clear hd
      go_wp2_with fail
      refine (yes_in 4 bs _ hA.seed (by decide)).mono ?_
      rintro e w5 ⟨cl, rfl, hd⟩
      replace jR := hd.row jR (by omega)
      replace hA := hA.trans hd
      clear hd
      replace zB : base ≤ w5.heap.size := Nat.le_trans zbb hA.2.size
      have hg0 : ∀ q, v.ownBlock = some q → q < w5.heap.size := fun q e => (jR.lt q e).2
      have jD := Blk.new w5 #[.int .i64 c0, .int .i64 c1, .int .i64 0, .int .i64 0, .int .i64 0, .bool cl] 58
      replace jR := jR.alloc (.cells #[.int .i64 c0, .int .i64 c1, .int .i64 0, .int .i64 0, .int .i64 0, .bool cl] 58)
      replace hA := hA.new (.cells #[.int .i64 c0, .int .i64 c1, .int .i64 0, .int .i64 0, .int .i64 0, .bool cl] 58)
      have zBD : base ≤ w5.heap.size := zB
      obtain ⟨bD, hbD⟩ : ∃ b, w5.heap.size = b := ⟨_, rfl⟩
      go_upto_region 6 with fail
      replace zB : base ≤ (w5.alloc (.cells #[.int .i64 c0, .int .i64 c1, .int .i64 0, .int .i64 0, .int .i64 0, .bool cl] 58)).heap.size := by simp; omega
      generalize w5.alloc (.cells #[.int .i64 c0, .int .i64 c1, .int .i64 0, .int .i64 0, .int .i64 0, .bool cl] 58) = V at jD jR hA zB ⊢
      rw [hbD] at hg0 jD zBD
      (try rw [hbD])
      clear hbD
      have hg : ∀ q, v.ownBlock = some q → q < (⟨bD, 0, none⟩ : Addr).block := hg0
      obtain ⟨q0, q1, q2, q3, q4, q5⟩ := jD.c6
      have zD := jD.lt
      clear q2 q3 q4 q5
      by_cases hc : c0 < 0
      · have r0 := jD.free 0
        have r1 := jD.free 1
        have jD2 : Blk _ _ #[.int .i64 0, .int .i64 (max 0 c1), .int .i64 0, .int .i64 0, .int .i64 0, .bool cl] _ := (jD.set 0 (.int .i64 0)).set 1 (.int .i64 (max 0 c1))
        have jR2 := ownsRow_other (ownsRow_other jR ⟨bD, 0, none⟩ (.int .i64 0) hg) ⟨bD, 1, none⟩ (.int .i64 (max 0 c1)) hg
        have hA2 := (hA.set (p := ⟨bD, 0, none⟩) (by simp; omega) hbs (.int .i64 0)).set (p := ⟨bD, 1, none⟩) (by simp; omega) hbs (.int .i64 (max 0 c1))
        have zB2 : base ≤ ((V.setCell ⟨bD, 0, none⟩ (.int .i64 0)).setCell ⟨bD, 1, none⟩ (.int .i64 (max 0 c1))).heap.size := by simpa using zB
        go_upto_region 8 with fail
        clear q0 q1 zD r0 r1 jD jR hA zB
        generalize (V.setCell ⟨bD, 0, none⟩ (.int .i64 0)).setCell ⟨bD, 1, none⟩ (.int .i64 (max 0 c1)) = V2 at jD2 jR2 hA2 zB2 ⊢
        have jD := jD2
        have jR := jR2
        have hA := hA2
        have zB := zB2
        clear jD2 jR2 hA2 zB2
        obtain ⟨q0, q1, _, _, _, _⟩ := jD.c6
        have zD := jD.lt
        go_wp2_with fail
        refine (yes_in 3 bs _ hA.seed (by decide)).mono ?_
        rintro e w6 ⟨y1, rfl, hd⟩
        clear q0 q1 zD
        replace jD := hd.blk jD (by omega)
        replace jR := hd.row jR (by omega)
        replace hA := hA.trans hd
        replace zB : base ≤ _ := Nat.le_trans zB hd.2.size
        clear hd
        go_upto_if 43 with fail
        go_cut [9] (fun s9 wx => ∃ f0 f1 : Int, s9 = .pointer (some ⟨bD, 0, none⟩) ∧ 0 ≤ f0 ∧ f0 ≤ f1 ∧ f1 ≤ 90 ∧ Blk wx bD #[.int .i64 0, .int .i64 (max 0 c1), .int .i64 f0, .int .i64 f1, .int .i64 0, .bool cl] 58 ∧ wx.ownsRow base 58 6 v k (daysC dd k) ∧ Drawn bs w wx ∧ base ≤ wx.heap.size)
        case first =>
          cases y1 with
          | true =>
            go_wp2_with fail
            refine (kspan_in 0 90 bs _ hA.seed (by decide) (by decide) (by decide)).mono ?_
            rintro e w7 ⟨f0, f1, rfl, fl, f01, fh, hd⟩
            replace jD := hd.blk jD (by omega)
            replace jR := hd.row jR (by omega)
            replace hA := hA.trans hd
            replace zB : base ≤ _ := Nat.le_trans zB hd.2.size
            clear hd
            obtain ⟨q0, q1, q2, q3, q4, q5⟩ := jD.c6
            have r2 := jD.free 2
            have r3 := jD.free 3
            have zD := jD.lt
            have jD2 : Blk _ _ #[.int .i64 0, .int .i64 (max 0 c1), .int .i64 f0, .int .i64 f1, .int .i64 0, .bool cl] _ := (jD.set 2 (.int .i64 f0)).set 3 (.int .i64 f1)
            have jR2 := ownsRow_other (ownsRow_other jR ⟨bD, 2, none⟩ (.int .i64 f0) hg) ⟨bD, 3, none⟩ (.int .i64 f1) hg
            have hA2 := (hA.set (p := ⟨bD, 2, none⟩) (by simp; omega) hbs (.int .i64 f0)).set (p := ⟨bD, 3, none⟩) (by simp; omega) hbs (.int .i64 f1)
            have zB2 : base ≤ ((w7.setCell ⟨bD, 2, none⟩ (.int .i64 f0)).setCell ⟨bD, 3, none⟩ (.int .i64 f1)).heap.size := by simpa using zB
            go_wp2_with fail
            go_meet
            exact ⟨f0, f1, rfl, fl, f01, fh, jD2, jR2, hA2, zB2⟩
          | false =>
            go_wp2_with fail
            go_meet
            exact ⟨0, 0, rfl, by decide, by decide, by decide, jD, jR, hA, zB⟩
        case rest =>
          obtain ⟨f0, f1, rfl, fl, f01, fh, jD, jR, hA, zB⟩ := hcut
          go_wp2_with fail
          refine (yes_in 4 bs _ hA.seed (by decide)).mono ?_
          rintro e w8 ⟨y2, rfl, hd⟩
          replace jD := hd.blk jD (by omega)
          replace jR := hd.row jR (by omega)
          replace hA := hA.trans hd
          replace zB : base ≤ _ := Nat.le_trans zB hd.2.size
          clear hd
          go_upto_if 48 with fail
          go_cut [9] (fun s9 wx => ∃ wa : Int, s9 = .pointer (some ⟨bD, 0, none⟩) ∧ 0 ≤ wa ∧ wa ≤ 30 ∧ Blk wx bD #[.int .i64 0, .int .i64 (max 0 c1), .int .i64 f0, .int .i64 f1, .int .i64 wa, .bool cl] 58 ∧ wx.ownsRow base 58 6 v k (daysC dd k) ∧ Drawn bs w wx ∧ base ≤ wx.heap.size)
          case first =>
            cases y2 with
            | true =>
              go_wp2_with fail
              refine (from_in 1 30 bs _ hA.seed (by decide) (by decide) (by decide) (by decide)).mono ?_
              rintro e w9 ⟨wa, rfl, wl, wh, hd⟩
              replace wh : wa ≤ 30 := by omega
              replace jD := hd.blk jD (by omega)
              replace jR := hd.row jR (by omega)
              replace hA := hA.trans hd
              replace zB : base ≤ _ := Nat.le_trans zB hd.2.size
              clear hd
              obtain ⟨q0, q1, q2, q3, q4, q5⟩ := jD.c6
              have r4 := jD.free 4
              have zD := jD.lt
              have jD2 : Blk _ _ #[.int .i64 0, .int .i64 (max 0 c1), .int .i64 f0, .int .i64 f1, .int .i64 wa, .bool cl] _ := jD.set 4 (.int .i64 wa)
              have jR2 := ownsRow_other jR ⟨bD, 4, none⟩ (.int .i64 wa) hg
              have hA2 := hA.set (p := ⟨bD, 4, none⟩) (by simp; omega) hbs (.int .i64 wa)
              have zB2 : base ≤ (w9.setCell ⟨bD, 4, none⟩ (.int .i64 wa)).heap.size := by simpa using zB
              go_wp2_with fail
              go_meet
              exact ⟨wa, rfl, by omega, wh, jD2, jR2, hA2, zB2⟩
            | false =>
              go_wp2_with fail
              go_meet
              exact ⟨0, rfl, by decide, by decide, jD, jR, hA, zB⟩
          case rest =>
            obtain ⟨wa, rfl, wl, wh, jD, jR, hA, zB⟩ := hcut
            have hk2 : Dy.Kit true ⟨0, (max 0 c1), f0, f1, wa, cl⟩ := ⟨by simp only; omega, by simp only; omega, by simp only; omega, fun h => by first | (exact absurd h (by decide)) | (simp only; omega), fl, f01, fh, wl, wh⟩
            obtain ⟨q0, q1, q2, q3, q4, q5⟩ := jD.c6
            have zD := jD.lt
            have hr : ∀ q, v.ownBlock = some q → base ≤ q := fun q e => (jR.lt q e).1
            obtain ⟨i0, hi0, hz0, hz1, hz2⟩ := info_parts Tryz.infoDay
            go_wp2_with (at_builtin; refine wpList_append_own_at _ rfl _ _ 29 rfl base 58 i0 (.agg #[.int .i64 0, .int .i64 0, .int .i64 0, .int .i64 0, .int .i64 0, .bool false]) 6 48 Tryz.underlying29 hi0 hz0 hz1 hz2 rfl (by decide) _ _ _ rfl (jR.alloc _) ⟨wc.heap.size, 0, none⟩ 1 1 (dayC ⟨0, (max 0 c1), f0, f1, wa, cl⟩) rfl rfl (news6 _ ⟨0, (max 0 c1), f0, f1, wa, cl⟩ _) (one6 _) (by unfold maxLen; omega) (by omega) (by simp; omega) ?_; intro v' w10 hown' hgrow _ _; rw [← daysC_upd] at hown'; have kA := (hA.new (.cells #[.int .i64 0, .int .i64 (max 0 c1), .int .i64 f0, .int .i64 f1, .int .i64 wa, .bool cl] 58)).grown hgrow (fun q e => by have := hr q e; omega) hbs; have kB : base ≤ w10.heap.size := (by have := hgrow.size; simp at this; omega); clear q0 q1 q2 q3 q4 q5 zD)
            clear hgrow jD jR hA zB hr
            go_roundw
            case rel => exact ⟨k + 1, j, _, _, rfl, by go_num, by omega, updD_kit hk hk2, hown', kA, kB⟩
            case measure => simp [intOf]
      · go_wp2_with fail
        refine (yes_in 3 bs _ hA.seed (by decide)).mono ?_
        rintro e w6 ⟨y1, rfl, hd⟩
        clear q0 q1 zD
        replace jD := hd.blk jD (by omega)
        replace jR := hd.row jR (by omega)
        replace hA := hA.trans hd
        replace zB : base ≤ _ := Nat.le_trans zB hd.2.size
        clear hd
        go_upto_if 43 with fail
        go_cut [9] (fun s9 wx => ∃ f0 f1 : Int, s9 = .pointer (some ⟨bD, 0, none⟩) ∧ 0 ≤ f0 ∧ f0 ≤ f1 ∧ f1 ≤ 90 ∧ Blk wx bD #[.int .i64 c0, .int .i64 c1, .int .i64 f0, .int .i64 f1, .int .i64 0, .bool cl] 58 ∧ wx.ownsRow base 58 6 v k (daysC dd k) ∧ Drawn bs w wx ∧ base ≤ wx.heap.size)
        case first =>
          cases y1 with
          | true =>
            go_wp2_with fail
            refine (kspan_in 0 90 bs _ hA.seed (by decide) (by decide) (by decide)).mono ?_
            rintro e w7 ⟨f0, f1, rfl, fl, f01, fh, hd⟩
            replace jD := hd.blk jD (by omega)
            replace jR := hd.row jR (by omega)
            replace hA := hA.trans hd
            replace zB : base ≤ _ := Nat.le_trans zB hd.2.size
            clear hd
            obtain ⟨q0, q1, q2, q3, q4, q5⟩ := jD.c6
            have r2 := jD.free 2
            have r3 := jD.free 3
            have zD := jD.lt
            have jD2 : Blk _ _ #[.int .i64 c0, .int .i64 c1, .int .i64 f0, .int .i64 f1, .int .i64 0, .bool cl] _ := (jD.set 2 (.int .i64 f0)).set 3 (.int .i64 f1)
            have jR2 := ownsRow_other (ownsRow_other jR ⟨bD, 2, none⟩ (.int .i64 f0) hg) ⟨bD, 3, none⟩ (.int .i64 f1) hg
            have hA2 := (hA.set (p := ⟨bD, 2, none⟩) (by simp; omega) hbs (.int .i64 f0)).set (p := ⟨bD, 3, none⟩) (by simp; omega) hbs (.int .i64 f1)
            have zB2 : base ≤ ((w7.setCell ⟨bD, 2, none⟩ (.int .i64 f0)).setCell ⟨bD, 3, none⟩ (.int .i64 f1)).heap.size := by simpa using zB
            go_wp2_with fail
            go_meet
            exact ⟨f0, f1, rfl, fl, f01, fh, jD2, jR2, hA2, zB2⟩
          | false =>
            go_wp2_with fail
            go_meet
            exact ⟨0, 0, rfl, by decide, by decide, by decide, jD, jR, hA, zB⟩
        case rest =>
          obtain ⟨f0, f1, rfl, fl, f01, fh, jD, jR, hA, zB⟩ := hcut
          go_wp2_with fail
          refine (yes_in 4 bs _ hA.seed (by decide)).mono ?_
          rintro e w8 ⟨y2, rfl, hd⟩
          replace jD := hd.blk jD (by omega)
          replace jR := hd.row jR (by omega)
          replace hA := hA.trans hd
          replace zB : base ≤ _ := Nat.le_trans zB hd.2.size
          clear hd
          go_upto_if 48 with fail
          go_cut [9] (fun s9 wx => ∃ wa : Int, s9 = .pointer (some ⟨bD, 0, none⟩) ∧ 0 ≤ wa ∧ wa ≤ 30 ∧ Blk wx bD #[.int .i64 c0, .int .i64 c1, .int .i64 f0, .int .i64 f1, .int .i64 wa, .bool cl] 58 ∧ wx.ownsRow base 58 6 v k (daysC dd k) ∧ Drawn bs w wx ∧ base ≤ wx.heap.size)
          case first =>
            cases y2 with
            | true =>
              go_wp2_with fail
              refine (from_in 1 30 bs _ hA.seed (by decide) (by decide) (by decide) (by decide)).mono ?_
              rintro e w9 ⟨wa, rfl, wl, wh, hd⟩
              replace wh : wa ≤ 30 := by omega
              replace jD := hd.blk jD (by omega)
              replace jR := hd.row jR (by omega)
              replace hA := hA.trans hd
              replace zB : base ≤ _ := Nat.le_trans zB hd.2.size
              clear hd
              obtain ⟨q0, q1, q2, q3, q4, q5⟩ := jD.c6
              have r4 := jD.free 4
              have zD := jD.lt
              have jD2 : Blk _ _ #[.int .i64 c0, .int .i64 c1, .int .i64 f0, .int .i64 f1, .int .i64 wa, .bool cl] _ := jD.set 4 (.int .i64 wa)
              have jR2 := ownsRow_other jR ⟨bD, 4, none⟩ (.int .i64 wa) hg
              have hA2 := hA.set (p := ⟨bD, 4, none⟩) (by simp; omega) hbs (.int .i64 wa)
              have zB2 : base ≤ (w9.setCell ⟨bD, 4, none⟩ (.int .i64 wa)).heap.size := by simpa using zB
              go_wp2_with fail
              go_meet
              exact ⟨wa, rfl, by omega, wh, jD2, jR2, hA2, zB2⟩
            | false =>
              go_wp2_with fail
              go_meet
              exact ⟨0, rfl, by decide, by decide, jD, jR, hA, zB⟩
          case rest =>
            obtain ⟨wa, rfl, wl, wh, jD, jR, hA, zB⟩ := hcut
            have hk2 : Dy.Kit true ⟨c0, c1, f0, f1, wa, cl⟩ := ⟨by simp only; omega, by simp only; omega, by simp only; omega, fun h => by first | (exact absurd h (by decide)) | (simp only; omega), fl, f01, fh, wl, wh⟩
            obtain ⟨q0, q1, q2, q3, q4, q5⟩ := jD.c6
            have zD := jD.lt
            have hr : ∀ q, v.ownBlock = some q → base ≤ q := fun q e => (jR.lt q e).1
            obtain ⟨i0, hi0, hz0, hz1, hz2⟩ := info_parts Tryz.infoDay
            go_wp2_with (at_builtin; refine wpList_append_own_at _ rfl _ _ 29 rfl base 58 i0 (.agg #[.int .i64 0, .int .i64 0, .int .i64 0, .int .i64 0, .int .i64 0, .bool false]) 6 48 Tryz.underlying29 hi0 hz0 hz1 hz2 rfl (by decide) _ _ _ rfl (jR.alloc _) ⟨wc.heap.size, 0, none⟩ 1 1 (dayC ⟨c0, c1, f0, f1, wa, cl⟩) rfl rfl (news6 _ ⟨c0, c1, f0, f1, wa, cl⟩ _) (one6 _) (by unfold maxLen; omega) (by omega) (by simp; omega) ?_; intro v' w10 hown' hgrow _ _; rw [← daysC_upd] at hown'; have kA := (hA.new (.cells #[.int .i64 c0, .int .i64 c1, .int .i64 f0, .int .i64 f1, .int .i64 wa, .bool cl] 58)).grown hgrow (fun q e => by have := hr q e; omega) hbs; have kB : base ≤ w10.heap.size := (by have := hgrow.size; simp at this; omega); clear q0 q1 q2 q3 q4 q5 zD)
            clear hgrow jD jR hA zB hr
            go_roundw
            case rel => exact ⟨k + 1, j, _, _, rfl, by go_num, by omega, updD_kit hk hk2, hown', kA, kB⟩
            case measure => simp [intOf]
    · obtain rfl : j = 0 := by omega
      go_wp2
      go_ret
      exact ⟨v, k, dd, rfl, by omega, hk, ownsRow_base jR (by omega), hA⟩

theorem daysof_in (most : Int) (hm0 : 0 ≤ most) (hm : most ≤ 400) (fr : Bool) (bs : Nat) (w : World) (hs : SeedAt bs w) :
    Calls Tryz.prog 11 #[.pointer (some ⟨bs, 0, none⟩), .int .i64 most, .bool fr] w fun e w' => ∃ (v : Value) (n : Nat) (d : Nat → Dy), e = .returned v ∧ (n : Int) ≤ most ∧ (∀ i, i < n → (d i).Kit fr) ∧ w'.ownsRow (bs + 1) 58 6 v n (daysC d n) ∧ Drawn bs w w' := by
  cases fr with
  | false => exact daysof_false most hm0 hm bs w hs
  | true => exact daysof_true most hm0 hm bs w hs
end Go.Proofs.YtdbiijldincoiaaGreat
