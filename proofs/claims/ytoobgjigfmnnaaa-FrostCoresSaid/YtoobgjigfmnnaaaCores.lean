/-
  FrostCores says yes: the program and the reference say the same of any ice and core.
-/
import Derived.Test.YtoobgjigfmnnaaaInner
import Derived.Test.YtoobgjigfmnnaaaRef1
import Derived.Test.YtoobgjigfmnnaaaAwake
import Derived.IntWalk
import Derived.Test.YtoobgjigfmnnaaaShare
set_option linter.unusedVariables false
set_option linter.unusedSimpArgs false
namespace Go.Proofs.Ytoobgjigfmnnaaa
open Go.RowKit

theorem coV_ic (x c : Ic) : ∃ v : Ic, coV x c = .agg #[.int .i64 v.b0, .int .i64 v.b1, .int .i64 v.w0, .int .i64 v.w1, .int .i64 v.q0, .int .i64 v.q1, .int .i64 v.s0, .int .i64 v.s1] := by
  unfold coV
  split
  · exact ⟨coI x c, rfl⟩
  · exact ⟨⟨0, 0, 0, 0, 0, 0, 0, 0⟩, rfl⟩
theorem NumsAt.later {w W : World} {a : Option Addr} {n : Nat} (h : NumsAt w a n) (hB : Below w.heap.size w W) : NumsAt W a n :=
  ⟨h.1, fun h0 => by
    obtain ⟨b, o, e, hb, hc⟩ := h.2 h0
    exact ⟨b, o, e, Nat.lt_of_lt_of_le hb hB.size, fun i hi => by
      obtain ⟨x, hx⟩ := hc i hi
      exact ⟨x, cell_later hB hx⟩⟩⟩
theorem Blk.other2 {w : World} {b : Nat} {C : Array Value} {t : TypeId} (h : Blk w b C t) {c : Nat} (hp : b ≠ c) (y0 y1 : Value) :
    Blk ((w.setCell ⟨c, 0, none⟩ y0).setCell ⟨c, 1, none⟩ y1) b C t := (h.other _ _ hp).other _ _ hp
theorem Drawn.set2 {bs : Nat} {w v : World} (h : Drawn bs w v) {b : Nat} (hp : w.heap.size ≤ b) (hb : bs < w.heap.size) (u0 u1 : Value) :
    Drawn bs w ((v.setCell ⟨b, 0, none⟩ u0).setCell ⟨b, 1, none⟩ u1) := (h.set (p := ⟨b, 0, none⟩) hp hb u0).set (p := ⟨b, 1, none⟩) hp hb u1
theorem Eight.of {w : World} {b : Nat} {t : TypeId} {x0 x1 x2 x3 x4 x5 x6 x7 : Value} (h : Blk w b #[x0, x1, x2, x3, x4, x5, x6, x7] t) : Eight w b t := ⟨x0, x1, x2, x3, x4, x5, x6, x7, h⟩
/-- Cells of m of ice. -/
def IcArr (C : Array Value) (o m : Nat) (x : Nat → Ic) : Prop :=
  ∀ i, i < m → C[o + i * 8]? = some (.int .i64 (x i).b0) ∧ C[o + i * 8 + 1]? = some (.int .i64 (x i).b1) ∧ C[o + i * 8 + 2]? = some (.int .i64 (x i).w0) ∧ C[o + i * 8 + 3]? = some (.int .i64 (x i).w1) ∧ C[o + i * 8 + 4]? = some (.int .i64 (x i).q0) ∧ C[o + i * 8 + 5]? = some (.int .i64 (x i).q1) ∧ C[o + i * 8 + 6]? = some (.int .i64 (x i).s0) ∧ C[o + i * 8 + 7]? = some (.int .i64 (x i).s1)
theorem IcArr.cells {C : Array Value} {o m : Nat} {x : Nat → Ic} (h : IcArr C o m x) {w : World} {b : Nat} {t : TypeId} (hb : Blk w b C t) {k : Nat} (hk : k < m) :
    w.cell? ⟨b, o + k * 8, none⟩ = some (.int .i64 (x k).b0) ∧ w.cell? ⟨b, o + k * 8 + 1, none⟩ = some (.int .i64 (x k).b1) ∧ w.cell? ⟨b, o + k * 8 + 2, none⟩ = some (.int .i64 (x k).w0) ∧ w.cell? ⟨b, o + k * 8 + 3, none⟩ = some (.int .i64 (x k).w1) ∧ w.cell? ⟨b, o + k * 8 + 4, none⟩ = some (.int .i64 (x k).q0) ∧ w.cell? ⟨b, o + k * 8 + 5, none⟩ = some (.int .i64 (x k).q1) ∧ w.cell? ⟨b, o + k * 8 + 6, none⟩ = some (.int .i64 (x k).s0) ∧ w.cell? ⟨b, o + k * 8 + 7, none⟩ = some (.int .i64 (x k).s1) := by
  obtain ⟨a0, a1, a2, a3, a4, a5, a6, a7⟩ := h k hk
  exact ⟨hb.cell _ a0, hb.cell _ a1, hb.cell _ a2, hb.cell _ a3, hb.cell _ a4, hb.cell _ a5, hb.cell _ a6, hb.cell _ a7⟩
def pick4 (a b c d : Ic) (k : Nat) : Ic := match k with | 0 => a | 1 => b | 2 => c | _ => d
theorem icArr4 (a b c d : Ic) : IcArr #[.int .i64 a.b0, .int .i64 a.b1, .int .i64 a.w0, .int .i64 a.w1, .int .i64 a.q0, .int .i64 a.q1, .int .i64 a.s0, .int .i64 a.s1, .int .i64 b.b0, .int .i64 b.b1, .int .i64 b.w0, .int .i64 b.w1, .int .i64 b.q0, .int .i64 b.q1, .int .i64 b.s0, .int .i64 b.s1, .int .i64 c.b0, .int .i64 c.b1, .int .i64 c.w0, .int .i64 c.w1, .int .i64 c.q0, .int .i64 c.q1, .int .i64 c.s0, .int .i64 c.s1, .int .i64 d.b0, .int .i64 d.b1, .int .i64 d.w0, .int .i64 d.w1, .int .i64 d.q0, .int .i64 d.q1, .int .i64 d.s0, .int .i64 d.s1] 0 4 (pick4 a b c d) := by
  intro k hk
  match k, hk with
  | 0, _ => exact ⟨rfl, rfl, rfl, rfl, rfl, rfl, rfl, rfl⟩
  | 1, _ => exact ⟨rfl, rfl, rfl, rfl, rfl, rfl, rfl, rfl⟩
  | 2, _ => exact ⟨rfl, rfl, rfl, rfl, rfl, rfl, rfl, rfl⟩
  | 3, _ => exact ⟨rfl, rfl, rfl, rfl, rfl, rfl, rfl, rfl⟩

set_option maxRecDepth 100000 in
set_option maxHeartbeats 16000000 in
theorem cores_any (x c : Ic) (a : Option Addr) (n cap : Nat) (w : World) (hn : NumsAt w a n) :
    Calls Try.prog 6 #[.agg #[.int .i64 x.b0, .int .i64 x.b1, .int .i64 x.w0, .int .i64 x.w1, .int .i64 x.q0, .int .i64 x.q1, .int .i64 x.s0, .int .i64 x.s1], .agg #[.int .i64 c.b0, .int .i64 c.b1, .int .i64 c.w0, .int .i64 c.w1, .int .i64 c.q0, .int .i64 c.q1, .int .i64 c.s0, .int .i64 c.s1], .slice a n cap] w fun e w' => e = .returned (.bool true) ∧ Below w.heap.size w w' := by
  go_enter Try.func6, Try.ntmps6
  have jX := (Blk.new w #[.int .i64 x.b0, .int .i64 x.b1, .int .i64 x.w0, .int .i64 x.w1, .int .i64 x.q0, .int .i64 x.q1, .int .i64 x.s0, .int .i64 x.s1] 28).alloc (.cells #[.int .i64 c.b0, .int .i64 c.b1, .int .i64 c.w0, .int .i64 c.w1, .int .i64 c.q0, .int .i64 c.q1, .int .i64 c.s0, .int .i64 c.s1] 28)
  have jC := Blk.new1 w (.cells #[.int .i64 x.b0, .int .i64 x.b1, .int .i64 x.w0, .int .i64 x.w1, .int .i64 x.q0, .int .i64 x.q1, .int .i64 x.s0, .int .i64 x.s1] 28) #[.int .i64 c.b0, .int .i64 c.b1, .int .i64 c.w0, .int .i64 c.w1, .int .i64 c.q0, .int .i64 c.q1, .int .i64 c.s0, .int .i64 c.s1] 28
  have jB : Below w.heap.size w ((w.alloc (.cells #[.int .i64 x.b0, .int .i64 x.b1, .int .i64 x.w0, .int .i64 x.w1, .int .i64 x.q0, .int .i64 x.q1, .int .i64 x.s0, .int .i64 x.s1] 28)).alloc (.cells #[.int .i64 c.b0, .int .i64 c.b1, .int .i64 c.w0, .int .i64 c.w1, .int .i64 c.q0, .int .i64 c.q1, .int .i64 c.s0, .int .i64 c.s1] 28)) := by (repeat (first | exact Below.refl _ _ | assumption | refine Below.drew ?_ | refine Below.drewN ?_ _ | refine Below.setCell ?_ (by first | (simp; done) | (simp; omega) | omega) _ | refine below_alloc ?_ (by first | exact Nat.le_refl _ | (simp; done) | (simp; omega) | omega) _))
  go_wp2_with fail
  obtain ⟨V, hV⟩ : ∃ V, (w.alloc (.cells #[.int .i64 x.b0, .int .i64 x.b1, .int .i64 x.w0, .int .i64 x.w1, .int .i64 x.q0, .int .i64 x.q1, .int .i64 x.s0, .int .i64 x.s1] 28)).alloc (.cells #[.int .i64 c.b0, .int .i64 c.b1, .int .i64 c.w0, .int .i64 c.w1, .int .i64 c.q0, .int .i64 c.q1, .int .i64 c.s0, .int .i64 c.s1] 28) = V := ⟨_, rfl⟩
  rw [hV] at jX jC jB ⊢
  clear hV
  refine (newseed_at a n cap _ (hn.later jB)).mono ?_
  rintro e w1 ⟨rfl, hS, hB⟩
  clear hn
  have zC := jC.lt
  obtain ⟨bs, hbs⟩ : ∃ b, V.heap.size = b := ⟨_, rfl⟩
  replace jX := jX.call hB
  replace jC := jC.call hB
  replace jB := below_step jB (Nat.le_refl _) hB
  rw [hbs] at hS zC ⊢
  obtain ⟨bX, hbX⟩ : ∃ b, w.heap.size = b := ⟨_, rfl⟩
  have hle : w.heap.size ≤ bs := by omega
  have HB := Lib.hid (And.intro hle jB)
  clear hbs hB jB hle
  rw [hbX] at jX jC zC ⊢
  have hb1 : bs < w1.heap.size := hS.choose_spec.lt
  go_wp2_with fail
  refine (iceof_in bs w1 hS).mono ?_
  rintro e w2 ⟨i, rfl, hi, hA⟩
  have zI := hA.2.size
  replace jX := hA.blk jX (by omega)
  replace jC := hA.blk jC (by omega)
  have jI := Blk.new w2 #[.int .i64 i.b0, .int .i64 i.b1, .int .i64 i.w0, .int .i64 i.w1, .int .i64 i.q0, .int .i64 i.q1, .int .i64 i.s0, .int .i64 i.s1] 28
  replace hA := hA.new (.cells #[.int .i64 i.b0, .int .i64 i.b1, .int .i64 i.w0, .int .i64 i.w1, .int .i64 i.q0, .int .i64 i.q1, .int .i64 i.s0, .int .i64 i.s1] 28)
  replace jX := jX.alloc (.cells #[.int .i64 i.b0, .int .i64 i.b1, .int .i64 i.w0, .int .i64 i.w1, .int .i64 i.q0, .int .i64 i.q1, .int .i64 i.s0, .int .i64 i.s1] 28)
  replace jC := jC.alloc (.cells #[.int .i64 i.b0, .int .i64 i.b1, .int .i64 i.w0, .int .i64 i.w1, .int .i64 i.q0, .int .i64 i.q1, .int .i64 i.s0, .int .i64 i.s1] 28)
  obtain ⟨i0, i1, i2, i3, i4, i5, i6, i7⟩ := jI.c8
  clear hS
  go_wp2_with fail
  refine (innerice_in i bs _ hA.seed hi).mono ?_
  rintro e w3 ⟨m, rfl, hsub, hm, hd⟩
  clear i0 i1 i2 i3 i4 i5 i6 i7 hsub hi
  replace jI := hd.blk jI (by omega)
  replace jX := hd.blk jX (by omega)
  replace jC := hd.blk jC (by omega)
  have zN := jI.lt
  replace hA := hA.trans hd
  clear hd
  have jN := Blk.new w3 #[.int .i64 m.b0, .int .i64 m.b1, .int .i64 m.w0, .int .i64 m.w1, .int .i64 m.q0, .int .i64 m.q1, .int .i64 m.s0, .int .i64 m.s1] 28
  replace jX := jX.alloc (.cells #[.int .i64 m.b0, .int .i64 m.b1, .int .i64 m.w0, .int .i64 m.w1, .int .i64 m.q0, .int .i64 m.q1, .int .i64 m.s0, .int .i64 m.s1] 28)
  replace jC := jC.alloc (.cells #[.int .i64 m.b0, .int .i64 m.b1, .int .i64 m.w0, .int .i64 m.w1, .int .i64 m.q0, .int .i64 m.q1, .int .i64 m.s0, .int .i64 m.s1] 28)
  replace jI := jI.alloc (.cells #[.int .i64 m.b0, .int .i64 m.b1, .int .i64 m.w0, .int .i64 m.w1, .int .i64 m.q0, .int .i64 m.q1, .int .i64 m.s0, .int .i64 m.s1] 28)
  replace hA := hA.new (.cells #[.int .i64 m.b0, .int .i64 m.b1, .int .i64 m.w0, .int .i64 m.w1, .int .i64 m.q0, .int .i64 m.q1, .int .i64 m.s0, .int .i64 m.s1] 28)
  obtain ⟨bI, hbI⟩ : ∃ b, w2.heap.size = b := ⟨_, rfl⟩
  obtain ⟨bN, hbN⟩ : ∃ b, w3.heap.size = b := ⟨_, rfl⟩
  go_upto_region 4 with fail
  generalize w3.alloc (.cells #[.int .i64 m.b0, .int .i64 m.b1, .int .i64 m.w0, .int .i64 m.w1, .int .i64 m.q0, .int .i64 m.q1, .int .i64 m.s0, .int .i64 m.s1] 28) = V at hA jX jC jI jN ⊢
  rw [hbI] at zI zN jI
  rw [hbN] at zN jN
  clear hbI hbN
  go_cut [9] (fun s9 wx => ∃ y : Ic, s9 = .pointer (some ⟨bN, 0, none⟩) ∧ Blk wx bN #[.int .i64 y.b0, .int .i64 y.b1, .int .i64 y.w0, .int .i64 y.w1, .int .i64 y.q0, .int .i64 y.q1, .int .i64 y.s0, .int .i64 y.s1] 28 ∧ Blk wx bX #[.int .i64 x.b0, .int .i64 x.b1, .int .i64 x.w0, .int .i64 x.w1, .int .i64 x.q0, .int .i64 x.q1, .int .i64 x.s0, .int .i64 x.s1] 28 ∧ Blk wx (bX + 1) #[.int .i64 c.b0, .int .i64 c.b1, .int .i64 c.w0, .int .i64 c.w1, .int .i64 c.q0, .int .i64 c.q1, .int .i64 c.s0, .int .i64 c.s1] 28 ∧ Blk wx bI #[.int .i64 i.b0, .int .i64 i.b1, .int .i64 i.w0, .int .i64 i.w1, .int .i64 i.q0, .int .i64 i.q1, .int .i64 i.s0, .int .i64 i.s1] 28 ∧ Drawn bs w1 wx)
  case first =>
    obtain ⟨⟨t0, _, t1⟩, _, _, _⟩ := hm
    have t2 : m.b1 ≤ 1200 := by omega
    have kN := jN.drew
    refine wp_region_held_drew (S := (fun w' => Drawn bs w1 w' ∧ Blk w' bX #[.int .i64 x.b0, .int .i64 x.b1, .int .i64 x.w0, .int .i64 x.w1, .int .i64 x.q0, .int .i64 x.q1, .int .i64 x.s0, .int .i64 x.s1] 28 ∧ Blk w' (bX + 1) #[.int .i64 c.b0, .int .i64 c.b1, .int .i64 c.w0, .int .i64 c.w1, .int .i64 c.q0, .int .i64 c.q1, .int .i64 c.s0, .int .i64 c.s1] 28 ∧ Blk w' bI #[.int .i64 i.b0, .int .i64 i.b1, .int .i64 i.w0, .int .i64 i.w1, .int .i64 i.q0, .int .i64 i.q1, .int .i64 i.s0, .int .i64 i.s1] 28 ∧ Eight w' bN 28)) (by kernel_rfl) ?_ (fun hHeld => ?_)
    · (try dsimp only); (exact ⟨hA.trans (Drawn.drew hA.seed), jX.drew, jC.drew, jI.drew, ⟨_, _, _, _, _, _, _, _, jN.drew⟩⟩)
    refine wpAnyH_take (i := 0) (oi := { dst := some 24, op := _, type := _, pos := _, after := _, guard := _ }) (v := ?_) rfl (by kernel_rfl) (by kernel_rfl) (by kernel_rfl) (fun _ _ _ h => h) (Or.inl ⟨by rfl, ?_⟩) (by assumption) ?_
    rotate_left
    · intro w hSw; (try dsimp only at hSw); go_simp; (try with_reducible rfl)
    (try simp only [Act.put, List.setIfInBounds_toArray, List.set_cons_zero, List.set_cons_succ])
    refine wpAnyH_take (i := 1) (oi := { dst := some 25, op := _, type := _, pos := _, after := _, guard := _ }) (v := ?_) rfl (by kernel_rfl) (by kernel_rfl) (by kernel_rfl) (fun _ _ _ h => h) (Or.inl ⟨by rfl, ?_⟩) (by assumption) ?_
    rotate_left
    · intro w hSw; (try dsimp only at hSw); go_simp; (try with_reducible rfl)
    (try simp only [Act.put, List.setIfInBounds_toArray, List.set_cons_zero, List.set_cons_succ])
    refine wpAnyH_take (i := 3) (oi := { dst := some 27, op := _, type := _, pos := _, after := _, guard := _ }) (v := ?_) rfl (by kernel_rfl) (by kernel_rfl) (by kernel_rfl) (fun _ _ _ h => h) (Or.inl ⟨by rfl, ?_⟩) (by assumption) ?_
    rotate_left
    · intro w hSw; (try dsimp only at hSw); go_simp; (try with_reducible rfl)
    (try simp only [Act.put, List.setIfInBounds_toArray, List.set_cons_zero, List.set_cons_succ])
    refine wpAnyH_take (i := 7) (oi := { dst := some 31, op := _, type := _, pos := _, after := _, guard := _ }) (v := ?_) rfl (by kernel_rfl) (by kernel_rfl) (by kernel_rfl) (fun _ _ _ h => h) (Or.inl ⟨by rfl, ?_⟩) (by assumption) ?_
    rotate_left
    · intro w hSw; (try dsimp only at hSw); go_simp; (try with_reducible rfl)
    (try simp only [Act.put, List.setIfInBounds_toArray, List.set_cons_zero, List.set_cons_succ])
    refine wpAnyH_take (i := 8) (oi := { dst := some 32, op := _, type := _, pos := _, after := _, guard := _ }) (v := ?_) rfl (by kernel_rfl) (by kernel_rfl) (by kernel_rfl) (fun _ _ _ h => h) (Or.inl ⟨by rfl, ?_⟩) (by assumption) ?_
    rotate_left
    · intro w hSw; (try dsimp only at hSw); go_simp; (try with_reducible rfl)
    (try simp only [Act.put, List.setIfInBounds_toArray, List.set_cons_zero, List.set_cons_succ])
    refine wpAnyH_take (i := 10) (oi := { dst := some 34, op := _, type := _, pos := _, after := _, guard := _ }) (v := ?_) rfl (by kernel_rfl) (by kernel_rfl) (by kernel_rfl) (fun _ _ _ h => h) (Or.inl ⟨by rfl, ?_⟩) (by assumption) ?_
    rotate_left
    · intro w hSw; (try dsimp only at hSw); go_simp; (try with_reducible rfl)
    (try simp only [Act.put, List.setIfInBounds_toArray, List.set_cons_zero, List.set_cons_succ])
    refine wpAnyH_ready (rs := [2, 4, 9]) (by kernel_rfl) (by simp) ?_
    refine AllReadyH.cons (o := { dst := some 26, op := _, type := _, pos := _, after := _, guard := _ }) rfl (fun K hK => ?_) ?_
    · have k0 := kN.c8.1
      go_simp
      refine hK.out _ _ ?_ ?_
      · exact hHeld
      (try clear hHeld); (try clear hd)
      intro hHeld
      clear k0
      clear hK K
      (try simp only [Act.put, List.setIfInBounds_toArray, List.set_cons_zero, List.set_cons_succ])
      refine wpAnyH_ready (rs := [4, 9]) (by kernel_rfl) (by simp) ?_
      refine AllReadyH.cons (o := { dst := some 28, op := _, type := _, pos := _, after := _, guard := _ }) rfl (fun K hK => ?_) ?_
      · go_simp
        (refine (from_in (-2) 2 bs _ hHeld.1.seed (by decide) (by decide) (by decide) (by decide)).mono ?_; rintro e w' ⟨n1, rfl, n1a, n1b, hd⟩; replace n1b : n1 ≤ 2 := (by omega); have e1 : IntKind.i64.wrap (m.b0 + n1) = m.b0 + n1 := IntWalk.i64_in _ (by omega); replace kN := hd.blk kN (by omega))
        refine hK.out _ _ ?_ ?_
        · (exact ⟨hHeld.1.trans hd, hd.blk hHeld.2.1 (by omega), hd.blk hHeld.2.2.1 (by omega), hd.blk hHeld.2.2.2.1 (by omega), hHeld.2.2.2.2.drawn hd (by omega)⟩)
        (try clear hHeld); (try clear hd)
        intro hHeld
        clear hK K
        (try simp only [Act.put, List.setIfInBounds_toArray, List.set_cons_zero, List.set_cons_succ])
        refine wpAnyH_take (i := 5) (oi := { dst := some 29, op := _, type := _, pos := _, after := _, guard := _ }) (v := ?_) rfl (by kernel_rfl) (by kernel_rfl) (by kernel_rfl) (fun _ _ _ h => h) (Or.inl ⟨by rfl, ?_⟩) (by assumption) ?_
        rotate_left
        · intro w hSw; (try dsimp only at hSw); go_simp; (try with_reducible rfl)
        (try simp only [Act.put, List.setIfInBounds_toArray, List.set_cons_zero, List.set_cons_succ])
        refine wpAnyH_take (i := 6) (oi := { dst := some 30, op := _, type := _, pos := _, after := _, guard := _ }) (v := ?_) rfl (by kernel_rfl) (by kernel_rfl) (by kernel_rfl) (fun _ _ _ h => h) (Or.inl ⟨by rfl, ?_⟩) (by assumption) ?_
        rotate_left
        · intro w hSw; (try dsimp only at hSw); go_simp; (try with_reducible rfl)
        (try simp only [Act.put, List.setIfInBounds_toArray, List.set_cons_zero, List.set_cons_succ])
        refine wpAnyH_ready (rs := [9, 11]) (by kernel_rfl) (by simp) ?_
        refine AllReadyH.cons (o := { dst := some 33, op := _, type := _, pos := _, after := _, guard := _ }) rfl (fun K hK => ?_) ?_
        · have k0 := kN.c8.2.1
          go_simp
          refine hK.out _ _ ?_ ?_
          · exact hHeld
          (try clear hHeld); (try clear hd)
          intro hHeld
          clear k0
          clear hK K
          (try simp only [Act.put, List.setIfInBounds_toArray, List.set_cons_zero, List.set_cons_succ])
          refine wpAnyH_ready (rs := [11]) (by kernel_rfl) (by simp) ?_
          refine AllReadyH.cons (o := { dst := some 35, op := _, type := _, pos := _, after := _, guard := _ }) rfl (fun K hK => ?_) AllReadyH.nil
          go_simp
          (refine (from_in 0 3 bs _ hHeld.1.seed (by decide) (by decide) (by decide) (by decide)).mono ?_; rintro e w' ⟨n2, rfl, n2a, n2b, hd⟩; replace n2b : n2 ≤ 3 := (by omega); have e2 : IntKind.i64.wrap (m.b1 + n2) = m.b1 + n2 := IntWalk.i64_in _ (by omega); replace kN := hd.blk kN (by omega))
          refine hK.out _ _ ?_ ?_
          · (exact ⟨hHeld.1.trans hd, hd.blk hHeld.2.1 (by omega), hd.blk hHeld.2.2.1 (by omega), hd.blk hHeld.2.2.2.1 (by omega), hHeld.2.2.2.2.drawn hd (by omega)⟩)
          (try clear hHeld); (try clear hd)
          intro hHeld
          clear hK K
          (try simp only [Act.put, List.setIfInBounds_toArray, List.set_cons_zero, List.set_cons_succ])
          refine wpAnyH_take (i := 12) (oi := { dst := some 36, op := _, type := _, pos := _, after := _, guard := _ }) (v := ?_) rfl (by kernel_rfl) (by kernel_rfl) (by kernel_rfl) (fun _ _ _ h => h) (Or.inl ⟨by rfl, ?_⟩) (by assumption) ?_
          rotate_left
          · intro w hSw; (try dsimp only at hSw); go_simp; (try with_reducible rfl)
          (try simp only [Act.put, List.setIfInBounds_toArray, List.set_cons_zero, List.set_cons_succ])
          refine wpAnyH_take (i := 13) (oi := { dst := some 37, op := _, type := _, pos := _, after := _, guard := _ }) (v := ?_) rfl (by kernel_rfl) (by kernel_rfl) (by kernel_rfl) (fun _ _ _ h => h) (Or.inl ⟨by rfl, ?_⟩) (by assumption) ?_
          rotate_left
          · intro w hSw; (try dsimp only at hSw); go_simp; (try with_reducible rfl)
          (try simp only [Act.put, List.setIfInBounds_toArray, List.set_cons_zero, List.set_cons_succ])
          refine wpAnyH_take (i := 14) (oi := { dst := some 38, op := _, type := _, pos := _, after := _, guard := _ }) (v := ?_) rfl (by kernel_rfl) (by kernel_rfl) (by kernel_rfl) (fun _ _ _ h => h) (Or.inl ⟨by rfl, ?_⟩) (by assumption) ?_
          rotate_left
          · intro w hSw; (try dsimp only at hSw); go_simp; (try with_reducible rfl)
          (try simp only [Act.put, List.setIfInBounds_toArray, List.set_cons_zero, List.set_cons_succ])
          refine wpAnyH_ready (rs := [15]) (by kernel_rfl) (by simp) ?_
          refine AllReadyH.cons (o := { dst := none, op := _, type := _, pos := _, after := _, guard := _ }) rfl (fun K hK => ?_) AllReadyH.nil
          obtain ⟨hD, hXX, hCC, hII, _⟩ := hHeld
          have k0 := kN.c8.1
          have k1 := kN.c8.2.1
          have fr0 := kN.free 0
          have fr1 := kN.free 1
          have zR := kN.lt
          have HS := Lib.hid (show Blk _ _ #[.int .i64 (max 0 (m.b0 + n1)), .int .i64 (m.b1 + n2), .int .i64 m.w0, .int .i64 m.w1, .int .i64 m.q0, .int .i64 m.q1, .int .i64 m.s0, .int .i64 m.s1] _ from (kN.set 0 (.int .i64 (max 0 (m.b0 + n1)))).set 1 (.int .i64 (m.b1 + n2)))
          have HD := Lib.hid (hD.set2 (b := bN) (by omega) hb1 (.int .i64 (max 0 (m.b0 + n1))) (.int .i64 (m.b1 + n2)))
          go_simp
          refine hK.out _ _ ?_ ?_
          · with_reducible exact ⟨HD.out, hXX.other2 (by omega) _ _, hCC.other2 (by omega) _ _, hII.other2 (by omega) _ _, Eight.of HS.out⟩
          (try clear hHeld); (try clear hd)
          intro hHeld
          clear hK K
          (try simp only [Act.put, List.setIfInBounds_toArray, List.set_cons_zero, List.set_cons_succ])
          refine wpAnyH_done (by kernel_rfl) ?_ _
          (try dsimp only [Act.put])
          (try simp only [Act.put, List.setIfInBounds_toArray, List.set_cons_zero, List.set_cons_succ])
          clear kN k0 k1 fr0 fr1 zR hD hXX hCC hII e1 e2
          go_wp2_with fail
          go_meet
          exact ⟨⟨(max 0 (m.b0 + n1)), (m.b1 + n2), m.w0, m.w1, m.q0, m.q1, m.s0, m.s1⟩, rfl, HS.out, hHeld.2.1, hHeld.2.2.1, hHeld.2.2.2.1, hHeld.1⟩
        refine AllReadyH.cons (o := { dst := some 35, op := _, type := _, pos := _, after := _, guard := _ }) rfl (fun K hK => ?_) ?_
        · go_simp
          (refine (from_in 0 3 bs _ hHeld.1.seed (by decide) (by decide) (by decide) (by decide)).mono ?_; rintro e w' ⟨n2, rfl, n2a, n2b, hd⟩; replace n2b : n2 ≤ 3 := (by omega); have e2 : IntKind.i64.wrap (m.b1 + n2) = m.b1 + n2 := IntWalk.i64_in _ (by omega); replace kN := hd.blk kN (by omega))
          refine hK.out _ _ ?_ ?_
          · (exact ⟨hHeld.1.trans hd, hd.blk hHeld.2.1 (by omega), hd.blk hHeld.2.2.1 (by omega), hd.blk hHeld.2.2.2.1 (by omega), hHeld.2.2.2.2.drawn hd (by omega)⟩)
          (try clear hHeld); (try clear hd)
          intro hHeld
          clear hK K
          (try simp only [Act.put, List.setIfInBounds_toArray, List.set_cons_zero, List.set_cons_succ])
          refine wpAnyH_ready (rs := [9]) (by kernel_rfl) (by simp) ?_
          refine AllReadyH.cons (o := { dst := some 33, op := _, type := _, pos := _, after := _, guard := _ }) rfl (fun K hK => ?_) AllReadyH.nil
          have k0 := kN.c8.2.1
          go_simp
          refine hK.out _ _ ?_ ?_
          · exact hHeld
          (try clear hHeld); (try clear hd)
          intro hHeld
          clear k0
          clear hK K
          (try simp only [Act.put, List.setIfInBounds_toArray, List.set_cons_zero, List.set_cons_succ])
          refine wpAnyH_take (i := 12) (oi := { dst := some 36, op := _, type := _, pos := _, after := _, guard := _ }) (v := ?_) rfl (by kernel_rfl) (by kernel_rfl) (by kernel_rfl) (fun _ _ _ h => h) (Or.inl ⟨by rfl, ?_⟩) (by assumption) ?_
          rotate_left
          · intro w hSw; (try dsimp only at hSw); go_simp; (try with_reducible rfl)
          (try simp only [Act.put, List.setIfInBounds_toArray, List.set_cons_zero, List.set_cons_succ])
          refine wpAnyH_take (i := 13) (oi := { dst := some 37, op := _, type := _, pos := _, after := _, guard := _ }) (v := ?_) rfl (by kernel_rfl) (by kernel_rfl) (by kernel_rfl) (fun _ _ _ h => h) (Or.inl ⟨by rfl, ?_⟩) (by assumption) ?_
          rotate_left
          · intro w hSw; (try dsimp only at hSw); go_simp; (try with_reducible rfl)
          (try simp only [Act.put, List.setIfInBounds_toArray, List.set_cons_zero, List.set_cons_succ])
          refine wpAnyH_take (i := 14) (oi := { dst := some 38, op := _, type := _, pos := _, after := _, guard := _ }) (v := ?_) rfl (by kernel_rfl) (by kernel_rfl) (by kernel_rfl) (fun _ _ _ h => h) (Or.inl ⟨by rfl, ?_⟩) (by assumption) ?_
          rotate_left
          · intro w hSw; (try dsimp only at hSw); go_simp; (try with_reducible rfl)
          (try simp only [Act.put, List.setIfInBounds_toArray, List.set_cons_zero, List.set_cons_succ])
          refine wpAnyH_ready (rs := [15]) (by kernel_rfl) (by simp) ?_
          refine AllReadyH.cons (o := { dst := none, op := _, type := _, pos := _, after := _, guard := _ }) rfl (fun K hK => ?_) AllReadyH.nil
          obtain ⟨hD, hXX, hCC, hII, _⟩ := hHeld
          have k0 := kN.c8.1
          have k1 := kN.c8.2.1
          have fr0 := kN.free 0
          have fr1 := kN.free 1
          have zR := kN.lt
          have HS := Lib.hid (show Blk _ _ #[.int .i64 (max 0 (m.b0 + n1)), .int .i64 (m.b1 + n2), .int .i64 m.w0, .int .i64 m.w1, .int .i64 m.q0, .int .i64 m.q1, .int .i64 m.s0, .int .i64 m.s1] _ from (kN.set 0 (.int .i64 (max 0 (m.b0 + n1)))).set 1 (.int .i64 (m.b1 + n2)))
          have HD := Lib.hid (hD.set2 (b := bN) (by omega) hb1 (.int .i64 (max 0 (m.b0 + n1))) (.int .i64 (m.b1 + n2)))
          go_simp
          refine hK.out _ _ ?_ ?_
          · with_reducible exact ⟨HD.out, hXX.other2 (by omega) _ _, hCC.other2 (by omega) _ _, hII.other2 (by omega) _ _, Eight.of HS.out⟩
          (try clear hHeld); (try clear hd)
          intro hHeld
          clear hK K
          (try simp only [Act.put, List.setIfInBounds_toArray, List.set_cons_zero, List.set_cons_succ])
          refine wpAnyH_done (by kernel_rfl) ?_ _
          (try dsimp only [Act.put])
          (try simp only [Act.put, List.setIfInBounds_toArray, List.set_cons_zero, List.set_cons_succ])
          clear kN k0 k1 fr0 fr1 zR hD hXX hCC hII e1 e2
          go_wp2_with fail
          go_meet
          exact ⟨⟨(max 0 (m.b0 + n1)), (m.b1 + n2), m.w0, m.w1, m.q0, m.q1, m.s0, m.s1⟩, rfl, HS.out, hHeld.2.1, hHeld.2.2.1, hHeld.2.2.2.1, hHeld.1⟩
        exact AllReadyH.nil
      refine AllReadyH.cons (o := { dst := some 33, op := _, type := _, pos := _, after := _, guard := _ }) rfl (fun K hK => ?_) ?_
      · have k0 := kN.c8.2.1
        go_simp
        refine hK.out _ _ ?_ ?_
        · exact hHeld
        (try clear hHeld); (try clear hd)
        intro hHeld
        clear k0
        clear hK K
        (try simp only [Act.put, List.setIfInBounds_toArray, List.set_cons_zero, List.set_cons_succ])
        refine wpAnyH_ready (rs := [4]) (by kernel_rfl) (by simp) ?_
        refine AllReadyH.cons (o := { dst := some 28, op := _, type := _, pos := _, after := _, guard := _ }) rfl (fun K hK => ?_) AllReadyH.nil
        go_simp
        (refine (from_in (-2) 2 bs _ hHeld.1.seed (by decide) (by decide) (by decide) (by decide)).mono ?_; rintro e w' ⟨n1, rfl, n1a, n1b, hd⟩; replace n1b : n1 ≤ 2 := (by omega); have e1 : IntKind.i64.wrap (m.b0 + n1) = m.b0 + n1 := IntWalk.i64_in _ (by omega); replace kN := hd.blk kN (by omega))
        refine hK.out _ _ ?_ ?_
        · (exact ⟨hHeld.1.trans hd, hd.blk hHeld.2.1 (by omega), hd.blk hHeld.2.2.1 (by omega), hd.blk hHeld.2.2.2.1 (by omega), hHeld.2.2.2.2.drawn hd (by omega)⟩)
        (try clear hHeld); (try clear hd)
        intro hHeld
        clear hK K
        (try simp only [Act.put, List.setIfInBounds_toArray, List.set_cons_zero, List.set_cons_succ])
        refine wpAnyH_take (i := 5) (oi := { dst := some 29, op := _, type := _, pos := _, after := _, guard := _ }) (v := ?_) rfl (by kernel_rfl) (by kernel_rfl) (by kernel_rfl) (fun _ _ _ h => h) (Or.inl ⟨by rfl, ?_⟩) (by assumption) ?_
        rotate_left
        · intro w hSw; (try dsimp only at hSw); go_simp; (try with_reducible rfl)
        (try simp only [Act.put, List.setIfInBounds_toArray, List.set_cons_zero, List.set_cons_succ])
        refine wpAnyH_take (i := 6) (oi := { dst := some 30, op := _, type := _, pos := _, after := _, guard := _ }) (v := ?_) rfl (by kernel_rfl) (by kernel_rfl) (by kernel_rfl) (fun _ _ _ h => h) (Or.inl ⟨by rfl, ?_⟩) (by assumption) ?_
        rotate_left
        · intro w hSw; (try dsimp only at hSw); go_simp; (try with_reducible rfl)
        (try simp only [Act.put, List.setIfInBounds_toArray, List.set_cons_zero, List.set_cons_succ])
        refine wpAnyH_ready (rs := [11]) (by kernel_rfl) (by simp) ?_
        refine AllReadyH.cons (o := { dst := some 35, op := _, type := _, pos := _, after := _, guard := _ }) rfl (fun K hK => ?_) AllReadyH.nil
        go_simp
        (refine (from_in 0 3 bs _ hHeld.1.seed (by decide) (by decide) (by decide) (by decide)).mono ?_; rintro e w' ⟨n2, rfl, n2a, n2b, hd⟩; replace n2b : n2 ≤ 3 := (by omega); have e2 : IntKind.i64.wrap (m.b1 + n2) = m.b1 + n2 := IntWalk.i64_in _ (by omega); replace kN := hd.blk kN (by omega))
        refine hK.out _ _ ?_ ?_
        · (exact ⟨hHeld.1.trans hd, hd.blk hHeld.2.1 (by omega), hd.blk hHeld.2.2.1 (by omega), hd.blk hHeld.2.2.2.1 (by omega), hHeld.2.2.2.2.drawn hd (by omega)⟩)
        (try clear hHeld); (try clear hd)
        intro hHeld
        clear hK K
        (try simp only [Act.put, List.setIfInBounds_toArray, List.set_cons_zero, List.set_cons_succ])
        refine wpAnyH_take (i := 12) (oi := { dst := some 36, op := _, type := _, pos := _, after := _, guard := _ }) (v := ?_) rfl (by kernel_rfl) (by kernel_rfl) (by kernel_rfl) (fun _ _ _ h => h) (Or.inl ⟨by rfl, ?_⟩) (by assumption) ?_
        rotate_left
        · intro w hSw; (try dsimp only at hSw); go_simp; (try with_reducible rfl)
        (try simp only [Act.put, List.setIfInBounds_toArray, List.set_cons_zero, List.set_cons_succ])
        refine wpAnyH_take (i := 13) (oi := { dst := some 37, op := _, type := _, pos := _, after := _, guard := _ }) (v := ?_) rfl (by kernel_rfl) (by kernel_rfl) (by kernel_rfl) (fun _ _ _ h => h) (Or.inl ⟨by rfl, ?_⟩) (by assumption) ?_
        rotate_left
        · intro w hSw; (try dsimp only at hSw); go_simp; (try with_reducible rfl)
        (try simp only [Act.put, List.setIfInBounds_toArray, List.set_cons_zero, List.set_cons_succ])
        refine wpAnyH_take (i := 14) (oi := { dst := some 38, op := _, type := _, pos := _, after := _, guard := _ }) (v := ?_) rfl (by kernel_rfl) (by kernel_rfl) (by kernel_rfl) (fun _ _ _ h => h) (Or.inl ⟨by rfl, ?_⟩) (by assumption) ?_
        rotate_left
        · intro w hSw; (try dsimp only at hSw); go_simp; (try with_reducible rfl)
        (try simp only [Act.put, List.setIfInBounds_toArray, List.set_cons_zero, List.set_cons_succ])
        refine wpAnyH_ready (rs := [15]) (by kernel_rfl) (by simp) ?_
        refine AllReadyH.cons (o := { dst := none, op := _, type := _, pos := _, after := _, guard := _ }) rfl (fun K hK => ?_) AllReadyH.nil
        obtain ⟨hD, hXX, hCC, hII, _⟩ := hHeld
        have k0 := kN.c8.1
        have k1 := kN.c8.2.1
        have fr0 := kN.free 0
        have fr1 := kN.free 1
        have zR := kN.lt
        have HS := Lib.hid (show Blk _ _ #[.int .i64 (max 0 (m.b0 + n1)), .int .i64 (m.b1 + n2), .int .i64 m.w0, .int .i64 m.w1, .int .i64 m.q0, .int .i64 m.q1, .int .i64 m.s0, .int .i64 m.s1] _ from (kN.set 0 (.int .i64 (max 0 (m.b0 + n1)))).set 1 (.int .i64 (m.b1 + n2)))
        have HD := Lib.hid (hD.set2 (b := bN) (by omega) hb1 (.int .i64 (max 0 (m.b0 + n1))) (.int .i64 (m.b1 + n2)))
        go_simp
        refine hK.out _ _ ?_ ?_
        · with_reducible exact ⟨HD.out, hXX.other2 (by omega) _ _, hCC.other2 (by omega) _ _, hII.other2 (by omega) _ _, Eight.of HS.out⟩
        (try clear hHeld); (try clear hd)
        intro hHeld
        clear hK K
        (try simp only [Act.put, List.setIfInBounds_toArray, List.set_cons_zero, List.set_cons_succ])
        refine wpAnyH_done (by kernel_rfl) ?_ _
        (try dsimp only [Act.put])
        (try simp only [Act.put, List.setIfInBounds_toArray, List.set_cons_zero, List.set_cons_succ])
        clear kN k0 k1 fr0 fr1 zR hD hXX hCC hII e1 e2
        go_wp2_with fail
        go_meet
        exact ⟨⟨(max 0 (m.b0 + n1)), (m.b1 + n2), m.w0, m.w1, m.q0, m.q1, m.s0, m.s1⟩, rfl, HS.out, hHeld.2.1, hHeld.2.2.1, hHeld.2.2.2.1, hHeld.1⟩
      exact AllReadyH.nil
    refine AllReadyH.cons (o := { dst := some 28, op := _, type := _, pos := _, after := _, guard := _ }) rfl (fun K hK => ?_) ?_
    · go_simp
      (refine (from_in (-2) 2 bs _ hHeld.1.seed (by decide) (by decide) (by decide) (by decide)).mono ?_; rintro e w' ⟨n1, rfl, n1a, n1b, hd⟩; replace n1b : n1 ≤ 2 := (by omega); have e1 : IntKind.i64.wrap (m.b0 + n1) = m.b0 + n1 := IntWalk.i64_in _ (by omega); replace kN := hd.blk kN (by omega))
      refine hK.out _ _ ?_ ?_
      · (exact ⟨hHeld.1.trans hd, hd.blk hHeld.2.1 (by omega), hd.blk hHeld.2.2.1 (by omega), hd.blk hHeld.2.2.2.1 (by omega), hHeld.2.2.2.2.drawn hd (by omega)⟩)
      (try clear hHeld); (try clear hd)
      intro hHeld
      clear hK K
      (try simp only [Act.put, List.setIfInBounds_toArray, List.set_cons_zero, List.set_cons_succ])
      refine wpAnyH_ready (rs := [2, 9, 11]) (by kernel_rfl) (by simp) ?_
      refine AllReadyH.cons (o := { dst := some 26, op := _, type := _, pos := _, after := _, guard := _ }) rfl (fun K hK => ?_) ?_
      · have k0 := kN.c8.1
        go_simp
        refine hK.out _ _ ?_ ?_
        · exact hHeld
        (try clear hHeld); (try clear hd)
        intro hHeld
        clear k0
        clear hK K
        (try simp only [Act.put, List.setIfInBounds_toArray, List.set_cons_zero, List.set_cons_succ])
        refine wpAnyH_take (i := 5) (oi := { dst := some 29, op := _, type := _, pos := _, after := _, guard := _ }) (v := ?_) rfl (by kernel_rfl) (by kernel_rfl) (by kernel_rfl) (fun _ _ _ h => h) (Or.inl ⟨by rfl, ?_⟩) (by assumption) ?_
        rotate_left
        · intro w hSw; (try dsimp only at hSw); go_simp; (try with_reducible rfl)
        (try simp only [Act.put, List.setIfInBounds_toArray, List.set_cons_zero, List.set_cons_succ])
        refine wpAnyH_take (i := 6) (oi := { dst := some 30, op := _, type := _, pos := _, after := _, guard := _ }) (v := ?_) rfl (by kernel_rfl) (by kernel_rfl) (by kernel_rfl) (fun _ _ _ h => h) (Or.inl ⟨by rfl, ?_⟩) (by assumption) ?_
        rotate_left
        · intro w hSw; (try dsimp only at hSw); go_simp; (try with_reducible rfl)
        (try simp only [Act.put, List.setIfInBounds_toArray, List.set_cons_zero, List.set_cons_succ])
        refine wpAnyH_ready (rs := [9, 11]) (by kernel_rfl) (by simp) ?_
        refine AllReadyH.cons (o := { dst := some 33, op := _, type := _, pos := _, after := _, guard := _ }) rfl (fun K hK => ?_) ?_
        · have k0 := kN.c8.2.1
          go_simp
          refine hK.out _ _ ?_ ?_
          · exact hHeld
          (try clear hHeld); (try clear hd)
          intro hHeld
          clear k0
          clear hK K
          (try simp only [Act.put, List.setIfInBounds_toArray, List.set_cons_zero, List.set_cons_succ])
          refine wpAnyH_ready (rs := [11]) (by kernel_rfl) (by simp) ?_
          refine AllReadyH.cons (o := { dst := some 35, op := _, type := _, pos := _, after := _, guard := _ }) rfl (fun K hK => ?_) AllReadyH.nil
          go_simp
          (refine (from_in 0 3 bs _ hHeld.1.seed (by decide) (by decide) (by decide) (by decide)).mono ?_; rintro e w' ⟨n2, rfl, n2a, n2b, hd⟩; replace n2b : n2 ≤ 3 := (by omega); have e2 : IntKind.i64.wrap (m.b1 + n2) = m.b1 + n2 := IntWalk.i64_in _ (by omega); replace kN := hd.blk kN (by omega))
          refine hK.out _ _ ?_ ?_
          · (exact ⟨hHeld.1.trans hd, hd.blk hHeld.2.1 (by omega), hd.blk hHeld.2.2.1 (by omega), hd.blk hHeld.2.2.2.1 (by omega), hHeld.2.2.2.2.drawn hd (by omega)⟩)
          (try clear hHeld); (try clear hd)
          intro hHeld
          clear hK K
          (try simp only [Act.put, List.setIfInBounds_toArray, List.set_cons_zero, List.set_cons_succ])
          refine wpAnyH_take (i := 12) (oi := { dst := some 36, op := _, type := _, pos := _, after := _, guard := _ }) (v := ?_) rfl (by kernel_rfl) (by kernel_rfl) (by kernel_rfl) (fun _ _ _ h => h) (Or.inl ⟨by rfl, ?_⟩) (by assumption) ?_
          rotate_left
          · intro w hSw; (try dsimp only at hSw); go_simp; (try with_reducible rfl)
          (try simp only [Act.put, List.setIfInBounds_toArray, List.set_cons_zero, List.set_cons_succ])
          refine wpAnyH_take (i := 13) (oi := { dst := some 37, op := _, type := _, pos := _, after := _, guard := _ }) (v := ?_) rfl (by kernel_rfl) (by kernel_rfl) (by kernel_rfl) (fun _ _ _ h => h) (Or.inl ⟨by rfl, ?_⟩) (by assumption) ?_
          rotate_left
          · intro w hSw; (try dsimp only at hSw); go_simp; (try with_reducible rfl)
          (try simp only [Act.put, List.setIfInBounds_toArray, List.set_cons_zero, List.set_cons_succ])
          refine wpAnyH_take (i := 14) (oi := { dst := some 38, op := _, type := _, pos := _, after := _, guard := _ }) (v := ?_) rfl (by kernel_rfl) (by kernel_rfl) (by kernel_rfl) (fun _ _ _ h => h) (Or.inl ⟨by rfl, ?_⟩) (by assumption) ?_
          rotate_left
          · intro w hSw; (try dsimp only at hSw); go_simp; (try with_reducible rfl)
          (try simp only [Act.put, List.setIfInBounds_toArray, List.set_cons_zero, List.set_cons_succ])
          refine wpAnyH_ready (rs := [15]) (by kernel_rfl) (by simp) ?_
          refine AllReadyH.cons (o := { dst := none, op := _, type := _, pos := _, after := _, guard := _ }) rfl (fun K hK => ?_) AllReadyH.nil
          obtain ⟨hD, hXX, hCC, hII, _⟩ := hHeld
          have k0 := kN.c8.1
          have k1 := kN.c8.2.1
          have fr0 := kN.free 0
          have fr1 := kN.free 1
          have zR := kN.lt
          have HS := Lib.hid (show Blk _ _ #[.int .i64 (max 0 (m.b0 + n1)), .int .i64 (m.b1 + n2), .int .i64 m.w0, .int .i64 m.w1, .int .i64 m.q0, .int .i64 m.q1, .int .i64 m.s0, .int .i64 m.s1] _ from (kN.set 0 (.int .i64 (max 0 (m.b0 + n1)))).set 1 (.int .i64 (m.b1 + n2)))
          have HD := Lib.hid (hD.set2 (b := bN) (by omega) hb1 (.int .i64 (max 0 (m.b0 + n1))) (.int .i64 (m.b1 + n2)))
          go_simp
          refine hK.out _ _ ?_ ?_
          · with_reducible exact ⟨HD.out, hXX.other2 (by omega) _ _, hCC.other2 (by omega) _ _, hII.other2 (by omega) _ _, Eight.of HS.out⟩
          (try clear hHeld); (try clear hd)
          intro hHeld
          clear hK K
          (try simp only [Act.put, List.setIfInBounds_toArray, List.set_cons_zero, List.set_cons_succ])
          refine wpAnyH_done (by kernel_rfl) ?_ _
          (try dsimp only [Act.put])
          (try simp only [Act.put, List.setIfInBounds_toArray, List.set_cons_zero, List.set_cons_succ])
          clear kN k0 k1 fr0 fr1 zR hD hXX hCC hII e1 e2
          go_wp2_with fail
          go_meet
          exact ⟨⟨(max 0 (m.b0 + n1)), (m.b1 + n2), m.w0, m.w1, m.q0, m.q1, m.s0, m.s1⟩, rfl, HS.out, hHeld.2.1, hHeld.2.2.1, hHeld.2.2.2.1, hHeld.1⟩
        refine AllReadyH.cons (o := { dst := some 35, op := _, type := _, pos := _, after := _, guard := _ }) rfl (fun K hK => ?_) ?_
        · go_simp
          (refine (from_in 0 3 bs _ hHeld.1.seed (by decide) (by decide) (by decide) (by decide)).mono ?_; rintro e w' ⟨n2, rfl, n2a, n2b, hd⟩; replace n2b : n2 ≤ 3 := (by omega); have e2 : IntKind.i64.wrap (m.b1 + n2) = m.b1 + n2 := IntWalk.i64_in _ (by omega); replace kN := hd.blk kN (by omega))
          refine hK.out _ _ ?_ ?_
          · (exact ⟨hHeld.1.trans hd, hd.blk hHeld.2.1 (by omega), hd.blk hHeld.2.2.1 (by omega), hd.blk hHeld.2.2.2.1 (by omega), hHeld.2.2.2.2.drawn hd (by omega)⟩)
          (try clear hHeld); (try clear hd)
          intro hHeld
          clear hK K
          (try simp only [Act.put, List.setIfInBounds_toArray, List.set_cons_zero, List.set_cons_succ])
          refine wpAnyH_ready (rs := [9]) (by kernel_rfl) (by simp) ?_
          refine AllReadyH.cons (o := { dst := some 33, op := _, type := _, pos := _, after := _, guard := _ }) rfl (fun K hK => ?_) AllReadyH.nil
          have k0 := kN.c8.2.1
          go_simp
          refine hK.out _ _ ?_ ?_
          · exact hHeld
          (try clear hHeld); (try clear hd)
          intro hHeld
          clear k0
          clear hK K
          (try simp only [Act.put, List.setIfInBounds_toArray, List.set_cons_zero, List.set_cons_succ])
          refine wpAnyH_take (i := 12) (oi := { dst := some 36, op := _, type := _, pos := _, after := _, guard := _ }) (v := ?_) rfl (by kernel_rfl) (by kernel_rfl) (by kernel_rfl) (fun _ _ _ h => h) (Or.inl ⟨by rfl, ?_⟩) (by assumption) ?_
          rotate_left
          · intro w hSw; (try dsimp only at hSw); go_simp; (try with_reducible rfl)
          (try simp only [Act.put, List.setIfInBounds_toArray, List.set_cons_zero, List.set_cons_succ])
          refine wpAnyH_take (i := 13) (oi := { dst := some 37, op := _, type := _, pos := _, after := _, guard := _ }) (v := ?_) rfl (by kernel_rfl) (by kernel_rfl) (by kernel_rfl) (fun _ _ _ h => h) (Or.inl ⟨by rfl, ?_⟩) (by assumption) ?_
          rotate_left
          · intro w hSw; (try dsimp only at hSw); go_simp; (try with_reducible rfl)
          (try simp only [Act.put, List.setIfInBounds_toArray, List.set_cons_zero, List.set_cons_succ])
          refine wpAnyH_take (i := 14) (oi := { dst := some 38, op := _, type := _, pos := _, after := _, guard := _ }) (v := ?_) rfl (by kernel_rfl) (by kernel_rfl) (by kernel_rfl) (fun _ _ _ h => h) (Or.inl ⟨by rfl, ?_⟩) (by assumption) ?_
          rotate_left
          · intro w hSw; (try dsimp only at hSw); go_simp; (try with_reducible rfl)
          (try simp only [Act.put, List.setIfInBounds_toArray, List.set_cons_zero, List.set_cons_succ])
          refine wpAnyH_ready (rs := [15]) (by kernel_rfl) (by simp) ?_
          refine AllReadyH.cons (o := { dst := none, op := _, type := _, pos := _, after := _, guard := _ }) rfl (fun K hK => ?_) AllReadyH.nil
          obtain ⟨hD, hXX, hCC, hII, _⟩ := hHeld
          have k0 := kN.c8.1
          have k1 := kN.c8.2.1
          have fr0 := kN.free 0
          have fr1 := kN.free 1
          have zR := kN.lt
          have HS := Lib.hid (show Blk _ _ #[.int .i64 (max 0 (m.b0 + n1)), .int .i64 (m.b1 + n2), .int .i64 m.w0, .int .i64 m.w1, .int .i64 m.q0, .int .i64 m.q1, .int .i64 m.s0, .int .i64 m.s1] _ from (kN.set 0 (.int .i64 (max 0 (m.b0 + n1)))).set 1 (.int .i64 (m.b1 + n2)))
          have HD := Lib.hid (hD.set2 (b := bN) (by omega) hb1 (.int .i64 (max 0 (m.b0 + n1))) (.int .i64 (m.b1 + n2)))
          go_simp
          refine hK.out _ _ ?_ ?_
          · with_reducible exact ⟨HD.out, hXX.other2 (by omega) _ _, hCC.other2 (by omega) _ _, hII.other2 (by omega) _ _, Eight.of HS.out⟩
          (try clear hHeld); (try clear hd)
          intro hHeld
          clear hK K
          (try simp only [Act.put, List.setIfInBounds_toArray, List.set_cons_zero, List.set_cons_succ])
          refine wpAnyH_done (by kernel_rfl) ?_ _
          (try dsimp only [Act.put])
          (try simp only [Act.put, List.setIfInBounds_toArray, List.set_cons_zero, List.set_cons_succ])
          clear kN k0 k1 fr0 fr1 zR hD hXX hCC hII e1 e2
          go_wp2_with fail
          go_meet
          exact ⟨⟨(max 0 (m.b0 + n1)), (m.b1 + n2), m.w0, m.w1, m.q0, m.q1, m.s0, m.s1⟩, rfl, HS.out, hHeld.2.1, hHeld.2.2.1, hHeld.2.2.2.1, hHeld.1⟩
        exact AllReadyH.nil
      refine AllReadyH.cons (o := { dst := some 33, op := _, type := _, pos := _, after := _, guard := _ }) rfl (fun K hK => ?_) ?_
      · have k0 := kN.c8.2.1
        go_simp
        refine hK.out _ _ ?_ ?_
        · exact hHeld
        (try clear hHeld); (try clear hd)
        intro hHeld
        clear k0
        clear hK K
        (try simp only [Act.put, List.setIfInBounds_toArray, List.set_cons_zero, List.set_cons_succ])
        refine wpAnyH_ready (rs := [2, 11]) (by kernel_rfl) (by simp) ?_
        refine AllReadyH.cons (o := { dst := some 26, op := _, type := _, pos := _, after := _, guard := _ }) rfl (fun K hK => ?_) ?_
        · have k0 := kN.c8.1
          go_simp
          refine hK.out _ _ ?_ ?_
          · exact hHeld
          (try clear hHeld); (try clear hd)
          intro hHeld
          clear k0
          clear hK K
          (try simp only [Act.put, List.setIfInBounds_toArray, List.set_cons_zero, List.set_cons_succ])
          refine wpAnyH_take (i := 5) (oi := { dst := some 29, op := _, type := _, pos := _, after := _, guard := _ }) (v := ?_) rfl (by kernel_rfl) (by kernel_rfl) (by kernel_rfl) (fun _ _ _ h => h) (Or.inl ⟨by rfl, ?_⟩) (by assumption) ?_
          rotate_left
          · intro w hSw; (try dsimp only at hSw); go_simp; (try with_reducible rfl)
          (try simp only [Act.put, List.setIfInBounds_toArray, List.set_cons_zero, List.set_cons_succ])
          refine wpAnyH_take (i := 6) (oi := { dst := some 30, op := _, type := _, pos := _, after := _, guard := _ }) (v := ?_) rfl (by kernel_rfl) (by kernel_rfl) (by kernel_rfl) (fun _ _ _ h => h) (Or.inl ⟨by rfl, ?_⟩) (by assumption) ?_
          rotate_left
          · intro w hSw; (try dsimp only at hSw); go_simp; (try with_reducible rfl)
          (try simp only [Act.put, List.setIfInBounds_toArray, List.set_cons_zero, List.set_cons_succ])
          refine wpAnyH_ready (rs := [11]) (by kernel_rfl) (by simp) ?_
          refine AllReadyH.cons (o := { dst := some 35, op := _, type := _, pos := _, after := _, guard := _ }) rfl (fun K hK => ?_) AllReadyH.nil
          go_simp
          (refine (from_in 0 3 bs _ hHeld.1.seed (by decide) (by decide) (by decide) (by decide)).mono ?_; rintro e w' ⟨n2, rfl, n2a, n2b, hd⟩; replace n2b : n2 ≤ 3 := (by omega); have e2 : IntKind.i64.wrap (m.b1 + n2) = m.b1 + n2 := IntWalk.i64_in _ (by omega); replace kN := hd.blk kN (by omega))
          refine hK.out _ _ ?_ ?_
          · (exact ⟨hHeld.1.trans hd, hd.blk hHeld.2.1 (by omega), hd.blk hHeld.2.2.1 (by omega), hd.blk hHeld.2.2.2.1 (by omega), hHeld.2.2.2.2.drawn hd (by omega)⟩)
          (try clear hHeld); (try clear hd)
          intro hHeld
          clear hK K
          (try simp only [Act.put, List.setIfInBounds_toArray, List.set_cons_zero, List.set_cons_succ])
          refine wpAnyH_take (i := 12) (oi := { dst := some 36, op := _, type := _, pos := _, after := _, guard := _ }) (v := ?_) rfl (by kernel_rfl) (by kernel_rfl) (by kernel_rfl) (fun _ _ _ h => h) (Or.inl ⟨by rfl, ?_⟩) (by assumption) ?_
          rotate_left
          · intro w hSw; (try dsimp only at hSw); go_simp; (try with_reducible rfl)
          (try simp only [Act.put, List.setIfInBounds_toArray, List.set_cons_zero, List.set_cons_succ])
          refine wpAnyH_take (i := 13) (oi := { dst := some 37, op := _, type := _, pos := _, after := _, guard := _ }) (v := ?_) rfl (by kernel_rfl) (by kernel_rfl) (by kernel_rfl) (fun _ _ _ h => h) (Or.inl ⟨by rfl, ?_⟩) (by assumption) ?_
          rotate_left
          · intro w hSw; (try dsimp only at hSw); go_simp; (try with_reducible rfl)
          (try simp only [Act.put, List.setIfInBounds_toArray, List.set_cons_zero, List.set_cons_succ])
          refine wpAnyH_take (i := 14) (oi := { dst := some 38, op := _, type := _, pos := _, after := _, guard := _ }) (v := ?_) rfl (by kernel_rfl) (by kernel_rfl) (by kernel_rfl) (fun _ _ _ h => h) (Or.inl ⟨by rfl, ?_⟩) (by assumption) ?_
          rotate_left
          · intro w hSw; (try dsimp only at hSw); go_simp; (try with_reducible rfl)
          (try simp only [Act.put, List.setIfInBounds_toArray, List.set_cons_zero, List.set_cons_succ])
          refine wpAnyH_ready (rs := [15]) (by kernel_rfl) (by simp) ?_
          refine AllReadyH.cons (o := { dst := none, op := _, type := _, pos := _, after := _, guard := _ }) rfl (fun K hK => ?_) AllReadyH.nil
          obtain ⟨hD, hXX, hCC, hII, _⟩ := hHeld
          have k0 := kN.c8.1
          have k1 := kN.c8.2.1
          have fr0 := kN.free 0
          have fr1 := kN.free 1
          have zR := kN.lt
          have HS := Lib.hid (show Blk _ _ #[.int .i64 (max 0 (m.b0 + n1)), .int .i64 (m.b1 + n2), .int .i64 m.w0, .int .i64 m.w1, .int .i64 m.q0, .int .i64 m.q1, .int .i64 m.s0, .int .i64 m.s1] _ from (kN.set 0 (.int .i64 (max 0 (m.b0 + n1)))).set 1 (.int .i64 (m.b1 + n2)))
          have HD := Lib.hid (hD.set2 (b := bN) (by omega) hb1 (.int .i64 (max 0 (m.b0 + n1))) (.int .i64 (m.b1 + n2)))
          go_simp
          refine hK.out _ _ ?_ ?_
          · with_reducible exact ⟨HD.out, hXX.other2 (by omega) _ _, hCC.other2 (by omega) _ _, hII.other2 (by omega) _ _, Eight.of HS.out⟩
          (try clear hHeld); (try clear hd)
          intro hHeld
          clear hK K
          (try simp only [Act.put, List.setIfInBounds_toArray, List.set_cons_zero, List.set_cons_succ])
          refine wpAnyH_done (by kernel_rfl) ?_ _
          (try dsimp only [Act.put])
          (try simp only [Act.put, List.setIfInBounds_toArray, List.set_cons_zero, List.set_cons_succ])
          clear kN k0 k1 fr0 fr1 zR hD hXX hCC hII e1 e2
          go_wp2_with fail
          go_meet
          exact ⟨⟨(max 0 (m.b0 + n1)), (m.b1 + n2), m.w0, m.w1, m.q0, m.q1, m.s0, m.s1⟩, rfl, HS.out, hHeld.2.1, hHeld.2.2.1, hHeld.2.2.2.1, hHeld.1⟩
        refine AllReadyH.cons (o := { dst := some 35, op := _, type := _, pos := _, after := _, guard := _ }) rfl (fun K hK => ?_) ?_
        · go_simp
          (refine (from_in 0 3 bs _ hHeld.1.seed (by decide) (by decide) (by decide) (by decide)).mono ?_; rintro e w' ⟨n2, rfl, n2a, n2b, hd⟩; replace n2b : n2 ≤ 3 := (by omega); have e2 : IntKind.i64.wrap (m.b1 + n2) = m.b1 + n2 := IntWalk.i64_in _ (by omega); replace kN := hd.blk kN (by omega))
          refine hK.out _ _ ?_ ?_
          · (exact ⟨hHeld.1.trans hd, hd.blk hHeld.2.1 (by omega), hd.blk hHeld.2.2.1 (by omega), hd.blk hHeld.2.2.2.1 (by omega), hHeld.2.2.2.2.drawn hd (by omega)⟩)
          (try clear hHeld); (try clear hd)
          intro hHeld
          clear hK K
          (try simp only [Act.put, List.setIfInBounds_toArray, List.set_cons_zero, List.set_cons_succ])
          refine wpAnyH_take (i := 12) (oi := { dst := some 36, op := _, type := _, pos := _, after := _, guard := _ }) (v := ?_) rfl (by kernel_rfl) (by kernel_rfl) (by kernel_rfl) (fun _ _ _ h => h) (Or.inl ⟨by rfl, ?_⟩) (by assumption) ?_
          rotate_left
          · intro w hSw; (try dsimp only at hSw); go_simp; (try with_reducible rfl)
          (try simp only [Act.put, List.setIfInBounds_toArray, List.set_cons_zero, List.set_cons_succ])
          refine wpAnyH_ready (rs := [2]) (by kernel_rfl) (by simp) ?_
          refine AllReadyH.cons (o := { dst := some 26, op := _, type := _, pos := _, after := _, guard := _ }) rfl (fun K hK => ?_) AllReadyH.nil
          have k0 := kN.c8.1
          go_simp
          refine hK.out _ _ ?_ ?_
          · exact hHeld
          (try clear hHeld); (try clear hd)
          intro hHeld
          clear k0
          clear hK K
          (try simp only [Act.put, List.setIfInBounds_toArray, List.set_cons_zero, List.set_cons_succ])
          refine wpAnyH_take (i := 5) (oi := { dst := some 29, op := _, type := _, pos := _, after := _, guard := _ }) (v := ?_) rfl (by kernel_rfl) (by kernel_rfl) (by kernel_rfl) (fun _ _ _ h => h) (Or.inl ⟨by rfl, ?_⟩) (by assumption) ?_
          rotate_left
          · intro w hSw; (try dsimp only at hSw); go_simp; (try with_reducible rfl)
          (try simp only [Act.put, List.setIfInBounds_toArray, List.set_cons_zero, List.set_cons_succ])
          refine wpAnyH_take (i := 6) (oi := { dst := some 30, op := _, type := _, pos := _, after := _, guard := _ }) (v := ?_) rfl (by kernel_rfl) (by kernel_rfl) (by kernel_rfl) (fun _ _ _ h => h) (Or.inl ⟨by rfl, ?_⟩) (by assumption) ?_
          rotate_left
          · intro w hSw; (try dsimp only at hSw); go_simp; (try with_reducible rfl)
          (try simp only [Act.put, List.setIfInBounds_toArray, List.set_cons_zero, List.set_cons_succ])
          refine wpAnyH_take (i := 13) (oi := { dst := some 37, op := _, type := _, pos := _, after := _, guard := _ }) (v := ?_) rfl (by kernel_rfl) (by kernel_rfl) (by kernel_rfl) (fun _ _ _ h => h) (Or.inl ⟨by rfl, ?_⟩) (by assumption) ?_
          rotate_left
          · intro w hSw; (try dsimp only at hSw); go_simp; (try with_reducible rfl)
          (try simp only [Act.put, List.setIfInBounds_toArray, List.set_cons_zero, List.set_cons_succ])
          refine wpAnyH_take (i := 14) (oi := { dst := some 38, op := _, type := _, pos := _, after := _, guard := _ }) (v := ?_) rfl (by kernel_rfl) (by kernel_rfl) (by kernel_rfl) (fun _ _ _ h => h) (Or.inl ⟨by rfl, ?_⟩) (by assumption) ?_
          rotate_left
          · intro w hSw; (try dsimp only at hSw); go_simp; (try with_reducible rfl)
          (try simp only [Act.put, List.setIfInBounds_toArray, List.set_cons_zero, List.set_cons_succ])
          refine wpAnyH_ready (rs := [15]) (by kernel_rfl) (by simp) ?_
          refine AllReadyH.cons (o := { dst := none, op := _, type := _, pos := _, after := _, guard := _ }) rfl (fun K hK => ?_) AllReadyH.nil
          obtain ⟨hD, hXX, hCC, hII, _⟩ := hHeld
          have k0 := kN.c8.1
          have k1 := kN.c8.2.1
          have fr0 := kN.free 0
          have fr1 := kN.free 1
          have zR := kN.lt
          have HS := Lib.hid (show Blk _ _ #[.int .i64 (max 0 (m.b0 + n1)), .int .i64 (m.b1 + n2), .int .i64 m.w0, .int .i64 m.w1, .int .i64 m.q0, .int .i64 m.q1, .int .i64 m.s0, .int .i64 m.s1] _ from (kN.set 0 (.int .i64 (max 0 (m.b0 + n1)))).set 1 (.int .i64 (m.b1 + n2)))
          have HD := Lib.hid (hD.set2 (b := bN) (by omega) hb1 (.int .i64 (max 0 (m.b0 + n1))) (.int .i64 (m.b1 + n2)))
          go_simp
          refine hK.out _ _ ?_ ?_
          · with_reducible exact ⟨HD.out, hXX.other2 (by omega) _ _, hCC.other2 (by omega) _ _, hII.other2 (by omega) _ _, Eight.of HS.out⟩
          (try clear hHeld); (try clear hd)
          intro hHeld
          clear hK K
          (try simp only [Act.put, List.setIfInBounds_toArray, List.set_cons_zero, List.set_cons_succ])
          refine wpAnyH_done (by kernel_rfl) ?_ _
          (try dsimp only [Act.put])
          (try simp only [Act.put, List.setIfInBounds_toArray, List.set_cons_zero, List.set_cons_succ])
          clear kN k0 k1 fr0 fr1 zR hD hXX hCC hII e1 e2
          go_wp2_with fail
          go_meet
          exact ⟨⟨(max 0 (m.b0 + n1)), (m.b1 + n2), m.w0, m.w1, m.q0, m.q1, m.s0, m.s1⟩, rfl, HS.out, hHeld.2.1, hHeld.2.2.1, hHeld.2.2.2.1, hHeld.1⟩
        exact AllReadyH.nil
      refine AllReadyH.cons (o := { dst := some 35, op := _, type := _, pos := _, after := _, guard := _ }) rfl (fun K hK => ?_) ?_
      · go_simp
        (refine (from_in 0 3 bs _ hHeld.1.seed (by decide) (by decide) (by decide) (by decide)).mono ?_; rintro e w' ⟨n2, rfl, n2a, n2b, hd⟩; replace n2b : n2 ≤ 3 := (by omega); have e2 : IntKind.i64.wrap (m.b1 + n2) = m.b1 + n2 := IntWalk.i64_in _ (by omega); replace kN := hd.blk kN (by omega))
        refine hK.out _ _ ?_ ?_
        · (exact ⟨hHeld.1.trans hd, hd.blk hHeld.2.1 (by omega), hd.blk hHeld.2.2.1 (by omega), hd.blk hHeld.2.2.2.1 (by omega), hHeld.2.2.2.2.drawn hd (by omega)⟩)
        (try clear hHeld); (try clear hd)
        intro hHeld
        clear hK K
        (try simp only [Act.put, List.setIfInBounds_toArray, List.set_cons_zero, List.set_cons_succ])
        refine wpAnyH_ready (rs := [2, 9]) (by kernel_rfl) (by simp) ?_
        refine AllReadyH.cons (o := { dst := some 26, op := _, type := _, pos := _, after := _, guard := _ }) rfl (fun K hK => ?_) ?_
        · have k0 := kN.c8.1
          go_simp
          refine hK.out _ _ ?_ ?_
          · exact hHeld
          (try clear hHeld); (try clear hd)
          intro hHeld
          clear k0
          clear hK K
          (try simp only [Act.put, List.setIfInBounds_toArray, List.set_cons_zero, List.set_cons_succ])
          refine wpAnyH_take (i := 5) (oi := { dst := some 29, op := _, type := _, pos := _, after := _, guard := _ }) (v := ?_) rfl (by kernel_rfl) (by kernel_rfl) (by kernel_rfl) (fun _ _ _ h => h) (Or.inl ⟨by rfl, ?_⟩) (by assumption) ?_
          rotate_left
          · intro w hSw; (try dsimp only at hSw); go_simp; (try with_reducible rfl)
          (try simp only [Act.put, List.setIfInBounds_toArray, List.set_cons_zero, List.set_cons_succ])
          refine wpAnyH_take (i := 6) (oi := { dst := some 30, op := _, type := _, pos := _, after := _, guard := _ }) (v := ?_) rfl (by kernel_rfl) (by kernel_rfl) (by kernel_rfl) (fun _ _ _ h => h) (Or.inl ⟨by rfl, ?_⟩) (by assumption) ?_
          rotate_left
          · intro w hSw; (try dsimp only at hSw); go_simp; (try with_reducible rfl)
          (try simp only [Act.put, List.setIfInBounds_toArray, List.set_cons_zero, List.set_cons_succ])
          refine wpAnyH_ready (rs := [9]) (by kernel_rfl) (by simp) ?_
          refine AllReadyH.cons (o := { dst := some 33, op := _, type := _, pos := _, after := _, guard := _ }) rfl (fun K hK => ?_) AllReadyH.nil
          have k0 := kN.c8.2.1
          go_simp
          refine hK.out _ _ ?_ ?_
          · exact hHeld
          (try clear hHeld); (try clear hd)
          intro hHeld
          clear k0
          clear hK K
          (try simp only [Act.put, List.setIfInBounds_toArray, List.set_cons_zero, List.set_cons_succ])
          refine wpAnyH_take (i := 12) (oi := { dst := some 36, op := _, type := _, pos := _, after := _, guard := _ }) (v := ?_) rfl (by kernel_rfl) (by kernel_rfl) (by kernel_rfl) (fun _ _ _ h => h) (Or.inl ⟨by rfl, ?_⟩) (by assumption) ?_
          rotate_left
          · intro w hSw; (try dsimp only at hSw); go_simp; (try with_reducible rfl)
          (try simp only [Act.put, List.setIfInBounds_toArray, List.set_cons_zero, List.set_cons_succ])
          refine wpAnyH_take (i := 13) (oi := { dst := some 37, op := _, type := _, pos := _, after := _, guard := _ }) (v := ?_) rfl (by kernel_rfl) (by kernel_rfl) (by kernel_rfl) (fun _ _ _ h => h) (Or.inl ⟨by rfl, ?_⟩) (by assumption) ?_
          rotate_left
          · intro w hSw; (try dsimp only at hSw); go_simp; (try with_reducible rfl)
          (try simp only [Act.put, List.setIfInBounds_toArray, List.set_cons_zero, List.set_cons_succ])
          refine wpAnyH_take (i := 14) (oi := { dst := some 38, op := _, type := _, pos := _, after := _, guard := _ }) (v := ?_) rfl (by kernel_rfl) (by kernel_rfl) (by kernel_rfl) (fun _ _ _ h => h) (Or.inl ⟨by rfl, ?_⟩) (by assumption) ?_
          rotate_left
          · intro w hSw; (try dsimp only at hSw); go_simp; (try with_reducible rfl)
          (try simp only [Act.put, List.setIfInBounds_toArray, List.set_cons_zero, List.set_cons_succ])
          refine wpAnyH_ready (rs := [15]) (by kernel_rfl) (by simp) ?_
          refine AllReadyH.cons (o := { dst := none, op := _, type := _, pos := _, after := _, guard := _ }) rfl (fun K hK => ?_) AllReadyH.nil
          obtain ⟨hD, hXX, hCC, hII, _⟩ := hHeld
          have k0 := kN.c8.1
          have k1 := kN.c8.2.1
          have fr0 := kN.free 0
          have fr1 := kN.free 1
          have zR := kN.lt
          have HS := Lib.hid (show Blk _ _ #[.int .i64 (max 0 (m.b0 + n1)), .int .i64 (m.b1 + n2), .int .i64 m.w0, .int .i64 m.w1, .int .i64 m.q0, .int .i64 m.q1, .int .i64 m.s0, .int .i64 m.s1] _ from (kN.set 0 (.int .i64 (max 0 (m.b0 + n1)))).set 1 (.int .i64 (m.b1 + n2)))
          have HD := Lib.hid (hD.set2 (b := bN) (by omega) hb1 (.int .i64 (max 0 (m.b0 + n1))) (.int .i64 (m.b1 + n2)))
          go_simp
          refine hK.out _ _ ?_ ?_
          · with_reducible exact ⟨HD.out, hXX.other2 (by omega) _ _, hCC.other2 (by omega) _ _, hII.other2 (by omega) _ _, Eight.of HS.out⟩
          (try clear hHeld); (try clear hd)
          intro hHeld
          clear hK K
          (try simp only [Act.put, List.setIfInBounds_toArray, List.set_cons_zero, List.set_cons_succ])
          refine wpAnyH_done (by kernel_rfl) ?_ _
          (try dsimp only [Act.put])
          (try simp only [Act.put, List.setIfInBounds_toArray, List.set_cons_zero, List.set_cons_succ])
          clear kN k0 k1 fr0 fr1 zR hD hXX hCC hII e1 e2
          go_wp2_with fail
          go_meet
          exact ⟨⟨(max 0 (m.b0 + n1)), (m.b1 + n2), m.w0, m.w1, m.q0, m.q1, m.s0, m.s1⟩, rfl, HS.out, hHeld.2.1, hHeld.2.2.1, hHeld.2.2.2.1, hHeld.1⟩
        refine AllReadyH.cons (o := { dst := some 33, op := _, type := _, pos := _, after := _, guard := _ }) rfl (fun K hK => ?_) ?_
        · have k0 := kN.c8.2.1
          go_simp
          refine hK.out _ _ ?_ ?_
          · exact hHeld
          (try clear hHeld); (try clear hd)
          intro hHeld
          clear k0
          clear hK K
          (try simp only [Act.put, List.setIfInBounds_toArray, List.set_cons_zero, List.set_cons_succ])
          refine wpAnyH_take (i := 12) (oi := { dst := some 36, op := _, type := _, pos := _, after := _, guard := _ }) (v := ?_) rfl (by kernel_rfl) (by kernel_rfl) (by kernel_rfl) (fun _ _ _ h => h) (Or.inl ⟨by rfl, ?_⟩) (by assumption) ?_
          rotate_left
          · intro w hSw; (try dsimp only at hSw); go_simp; (try with_reducible rfl)
          (try simp only [Act.put, List.setIfInBounds_toArray, List.set_cons_zero, List.set_cons_succ])
          refine wpAnyH_ready (rs := [2]) (by kernel_rfl) (by simp) ?_
          refine AllReadyH.cons (o := { dst := some 26, op := _, type := _, pos := _, after := _, guard := _ }) rfl (fun K hK => ?_) AllReadyH.nil
          have k0 := kN.c8.1
          go_simp
          refine hK.out _ _ ?_ ?_
          · exact hHeld
          (try clear hHeld); (try clear hd)
          intro hHeld
          clear k0
          clear hK K
          (try simp only [Act.put, List.setIfInBounds_toArray, List.set_cons_zero, List.set_cons_succ])
          refine wpAnyH_take (i := 5) (oi := { dst := some 29, op := _, type := _, pos := _, after := _, guard := _ }) (v := ?_) rfl (by kernel_rfl) (by kernel_rfl) (by kernel_rfl) (fun _ _ _ h => h) (Or.inl ⟨by rfl, ?_⟩) (by assumption) ?_
          rotate_left
          · intro w hSw; (try dsimp only at hSw); go_simp; (try with_reducible rfl)
          (try simp only [Act.put, List.setIfInBounds_toArray, List.set_cons_zero, List.set_cons_succ])
          refine wpAnyH_take (i := 6) (oi := { dst := some 30, op := _, type := _, pos := _, after := _, guard := _ }) (v := ?_) rfl (by kernel_rfl) (by kernel_rfl) (by kernel_rfl) (fun _ _ _ h => h) (Or.inl ⟨by rfl, ?_⟩) (by assumption) ?_
          rotate_left
          · intro w hSw; (try dsimp only at hSw); go_simp; (try with_reducible rfl)
          (try simp only [Act.put, List.setIfInBounds_toArray, List.set_cons_zero, List.set_cons_succ])
          refine wpAnyH_take (i := 13) (oi := { dst := some 37, op := _, type := _, pos := _, after := _, guard := _ }) (v := ?_) rfl (by kernel_rfl) (by kernel_rfl) (by kernel_rfl) (fun _ _ _ h => h) (Or.inl ⟨by rfl, ?_⟩) (by assumption) ?_
          rotate_left
          · intro w hSw; (try dsimp only at hSw); go_simp; (try with_reducible rfl)
          (try simp only [Act.put, List.setIfInBounds_toArray, List.set_cons_zero, List.set_cons_succ])
          refine wpAnyH_take (i := 14) (oi := { dst := some 38, op := _, type := _, pos := _, after := _, guard := _ }) (v := ?_) rfl (by kernel_rfl) (by kernel_rfl) (by kernel_rfl) (fun _ _ _ h => h) (Or.inl ⟨by rfl, ?_⟩) (by assumption) ?_
          rotate_left
          · intro w hSw; (try dsimp only at hSw); go_simp; (try with_reducible rfl)
          (try simp only [Act.put, List.setIfInBounds_toArray, List.set_cons_zero, List.set_cons_succ])
          refine wpAnyH_ready (rs := [15]) (by kernel_rfl) (by simp) ?_
          refine AllReadyH.cons (o := { dst := none, op := _, type := _, pos := _, after := _, guard := _ }) rfl (fun K hK => ?_) AllReadyH.nil
          obtain ⟨hD, hXX, hCC, hII, _⟩ := hHeld
          have k0 := kN.c8.1
          have k1 := kN.c8.2.1
          have fr0 := kN.free 0
          have fr1 := kN.free 1
          have zR := kN.lt
          have HS := Lib.hid (show Blk _ _ #[.int .i64 (max 0 (m.b0 + n1)), .int .i64 (m.b1 + n2), .int .i64 m.w0, .int .i64 m.w1, .int .i64 m.q0, .int .i64 m.q1, .int .i64 m.s0, .int .i64 m.s1] _ from (kN.set 0 (.int .i64 (max 0 (m.b0 + n1)))).set 1 (.int .i64 (m.b1 + n2)))
          have HD := Lib.hid (hD.set2 (b := bN) (by omega) hb1 (.int .i64 (max 0 (m.b0 + n1))) (.int .i64 (m.b1 + n2)))
          go_simp
          refine hK.out _ _ ?_ ?_
          · with_reducible exact ⟨HD.out, hXX.other2 (by omega) _ _, hCC.other2 (by omega) _ _, hII.other2 (by omega) _ _, Eight.of HS.out⟩
          (try clear hHeld); (try clear hd)
          intro hHeld
          clear hK K
          (try simp only [Act.put, List.setIfInBounds_toArray, List.set_cons_zero, List.set_cons_succ])
          refine wpAnyH_done (by kernel_rfl) ?_ _
          (try dsimp only [Act.put])
          (try simp only [Act.put, List.setIfInBounds_toArray, List.set_cons_zero, List.set_cons_succ])
          clear kN k0 k1 fr0 fr1 zR hD hXX hCC hII e1 e2
          go_wp2_with fail
          go_meet
          exact ⟨⟨(max 0 (m.b0 + n1)), (m.b1 + n2), m.w0, m.w1, m.q0, m.q1, m.s0, m.s1⟩, rfl, HS.out, hHeld.2.1, hHeld.2.2.1, hHeld.2.2.2.1, hHeld.1⟩
        exact AllReadyH.nil
      exact AllReadyH.nil
    refine AllReadyH.cons (o := { dst := some 33, op := _, type := _, pos := _, after := _, guard := _ }) rfl (fun K hK => ?_) ?_
    · have k0 := kN.c8.2.1
      go_simp
      refine hK.out _ _ ?_ ?_
      · exact hHeld
      (try clear hHeld); (try clear hd)
      intro hHeld
      clear k0
      clear hK K
      (try simp only [Act.put, List.setIfInBounds_toArray, List.set_cons_zero, List.set_cons_succ])
      refine wpAnyH_ready (rs := [2, 4]) (by kernel_rfl) (by simp) ?_
      refine AllReadyH.cons (o := { dst := some 26, op := _, type := _, pos := _, after := _, guard := _ }) rfl (fun K hK => ?_) ?_
      · have k0 := kN.c8.1
        go_simp
        refine hK.out _ _ ?_ ?_
        · exact hHeld
        (try clear hHeld); (try clear hd)
        intro hHeld
        clear k0
        clear hK K
        (try simp only [Act.put, List.setIfInBounds_toArray, List.set_cons_zero, List.set_cons_succ])
        refine wpAnyH_ready (rs := [4]) (by kernel_rfl) (by simp) ?_
        refine AllReadyH.cons (o := { dst := some 28, op := _, type := _, pos := _, after := _, guard := _ }) rfl (fun K hK => ?_) AllReadyH.nil
        go_simp
        (refine (from_in (-2) 2 bs _ hHeld.1.seed (by decide) (by decide) (by decide) (by decide)).mono ?_; rintro e w' ⟨n1, rfl, n1a, n1b, hd⟩; replace n1b : n1 ≤ 2 := (by omega); have e1 : IntKind.i64.wrap (m.b0 + n1) = m.b0 + n1 := IntWalk.i64_in _ (by omega); replace kN := hd.blk kN (by omega))
        refine hK.out _ _ ?_ ?_
        · (exact ⟨hHeld.1.trans hd, hd.blk hHeld.2.1 (by omega), hd.blk hHeld.2.2.1 (by omega), hd.blk hHeld.2.2.2.1 (by omega), hHeld.2.2.2.2.drawn hd (by omega)⟩)
        (try clear hHeld); (try clear hd)
        intro hHeld
        clear hK K
        (try simp only [Act.put, List.setIfInBounds_toArray, List.set_cons_zero, List.set_cons_succ])
        refine wpAnyH_take (i := 5) (oi := { dst := some 29, op := _, type := _, pos := _, after := _, guard := _ }) (v := ?_) rfl (by kernel_rfl) (by kernel_rfl) (by kernel_rfl) (fun _ _ _ h => h) (Or.inl ⟨by rfl, ?_⟩) (by assumption) ?_
        rotate_left
        · intro w hSw; (try dsimp only at hSw); go_simp; (try with_reducible rfl)
        (try simp only [Act.put, List.setIfInBounds_toArray, List.set_cons_zero, List.set_cons_succ])
        refine wpAnyH_take (i := 6) (oi := { dst := some 30, op := _, type := _, pos := _, after := _, guard := _ }) (v := ?_) rfl (by kernel_rfl) (by kernel_rfl) (by kernel_rfl) (fun _ _ _ h => h) (Or.inl ⟨by rfl, ?_⟩) (by assumption) ?_
        rotate_left
        · intro w hSw; (try dsimp only at hSw); go_simp; (try with_reducible rfl)
        (try simp only [Act.put, List.setIfInBounds_toArray, List.set_cons_zero, List.set_cons_succ])
        refine wpAnyH_ready (rs := [11]) (by kernel_rfl) (by simp) ?_
        refine AllReadyH.cons (o := { dst := some 35, op := _, type := _, pos := _, after := _, guard := _ }) rfl (fun K hK => ?_) AllReadyH.nil
        go_simp
        (refine (from_in 0 3 bs _ hHeld.1.seed (by decide) (by decide) (by decide) (by decide)).mono ?_; rintro e w' ⟨n2, rfl, n2a, n2b, hd⟩; replace n2b : n2 ≤ 3 := (by omega); have e2 : IntKind.i64.wrap (m.b1 + n2) = m.b1 + n2 := IntWalk.i64_in _ (by omega); replace kN := hd.blk kN (by omega))
        refine hK.out _ _ ?_ ?_
        · (exact ⟨hHeld.1.trans hd, hd.blk hHeld.2.1 (by omega), hd.blk hHeld.2.2.1 (by omega), hd.blk hHeld.2.2.2.1 (by omega), hHeld.2.2.2.2.drawn hd (by omega)⟩)
        (try clear hHeld); (try clear hd)
        intro hHeld
        clear hK K
        (try simp only [Act.put, List.setIfInBounds_toArray, List.set_cons_zero, List.set_cons_succ])
        refine wpAnyH_take (i := 12) (oi := { dst := some 36, op := _, type := _, pos := _, after := _, guard := _ }) (v := ?_) rfl (by kernel_rfl) (by kernel_rfl) (by kernel_rfl) (fun _ _ _ h => h) (Or.inl ⟨by rfl, ?_⟩) (by assumption) ?_
        rotate_left
        · intro w hSw; (try dsimp only at hSw); go_simp; (try with_reducible rfl)
        (try simp only [Act.put, List.setIfInBounds_toArray, List.set_cons_zero, List.set_cons_succ])
        refine wpAnyH_take (i := 13) (oi := { dst := some 37, op := _, type := _, pos := _, after := _, guard := _ }) (v := ?_) rfl (by kernel_rfl) (by kernel_rfl) (by kernel_rfl) (fun _ _ _ h => h) (Or.inl ⟨by rfl, ?_⟩) (by assumption) ?_
        rotate_left
        · intro w hSw; (try dsimp only at hSw); go_simp; (try with_reducible rfl)
        (try simp only [Act.put, List.setIfInBounds_toArray, List.set_cons_zero, List.set_cons_succ])
        refine wpAnyH_take (i := 14) (oi := { dst := some 38, op := _, type := _, pos := _, after := _, guard := _ }) (v := ?_) rfl (by kernel_rfl) (by kernel_rfl) (by kernel_rfl) (fun _ _ _ h => h) (Or.inl ⟨by rfl, ?_⟩) (by assumption) ?_
        rotate_left
        · intro w hSw; (try dsimp only at hSw); go_simp; (try with_reducible rfl)
        (try simp only [Act.put, List.setIfInBounds_toArray, List.set_cons_zero, List.set_cons_succ])
        refine wpAnyH_ready (rs := [15]) (by kernel_rfl) (by simp) ?_
        refine AllReadyH.cons (o := { dst := none, op := _, type := _, pos := _, after := _, guard := _ }) rfl (fun K hK => ?_) AllReadyH.nil
        obtain ⟨hD, hXX, hCC, hII, _⟩ := hHeld
        have k0 := kN.c8.1
        have k1 := kN.c8.2.1
        have fr0 := kN.free 0
        have fr1 := kN.free 1
        have zR := kN.lt
        have HS := Lib.hid (show Blk _ _ #[.int .i64 (max 0 (m.b0 + n1)), .int .i64 (m.b1 + n2), .int .i64 m.w0, .int .i64 m.w1, .int .i64 m.q0, .int .i64 m.q1, .int .i64 m.s0, .int .i64 m.s1] _ from (kN.set 0 (.int .i64 (max 0 (m.b0 + n1)))).set 1 (.int .i64 (m.b1 + n2)))
        have HD := Lib.hid (hD.set2 (b := bN) (by omega) hb1 (.int .i64 (max 0 (m.b0 + n1))) (.int .i64 (m.b1 + n2)))
        go_simp
        refine hK.out _ _ ?_ ?_
        · with_reducible exact ⟨HD.out, hXX.other2 (by omega) _ _, hCC.other2 (by omega) _ _, hII.other2 (by omega) _ _, Eight.of HS.out⟩
        (try clear hHeld); (try clear hd)
        intro hHeld
        clear hK K
        (try simp only [Act.put, List.setIfInBounds_toArray, List.set_cons_zero, List.set_cons_succ])
        refine wpAnyH_done (by kernel_rfl) ?_ _
        (try dsimp only [Act.put])
        (try simp only [Act.put, List.setIfInBounds_toArray, List.set_cons_zero, List.set_cons_succ])
        clear kN k0 k1 fr0 fr1 zR hD hXX hCC hII e1 e2
        go_wp2_with fail
        go_meet
        exact ⟨⟨(max 0 (m.b0 + n1)), (m.b1 + n2), m.w0, m.w1, m.q0, m.q1, m.s0, m.s1⟩, rfl, HS.out, hHeld.2.1, hHeld.2.2.1, hHeld.2.2.2.1, hHeld.1⟩
      refine AllReadyH.cons (o := { dst := some 28, op := _, type := _, pos := _, after := _, guard := _ }) rfl (fun K hK => ?_) ?_
      · go_simp
        (refine (from_in (-2) 2 bs _ hHeld.1.seed (by decide) (by decide) (by decide) (by decide)).mono ?_; rintro e w' ⟨n1, rfl, n1a, n1b, hd⟩; replace n1b : n1 ≤ 2 := (by omega); have e1 : IntKind.i64.wrap (m.b0 + n1) = m.b0 + n1 := IntWalk.i64_in _ (by omega); replace kN := hd.blk kN (by omega))
        refine hK.out _ _ ?_ ?_
        · (exact ⟨hHeld.1.trans hd, hd.blk hHeld.2.1 (by omega), hd.blk hHeld.2.2.1 (by omega), hd.blk hHeld.2.2.2.1 (by omega), hHeld.2.2.2.2.drawn hd (by omega)⟩)
        (try clear hHeld); (try clear hd)
        intro hHeld
        clear hK K
        (try simp only [Act.put, List.setIfInBounds_toArray, List.set_cons_zero, List.set_cons_succ])
        refine wpAnyH_ready (rs := [2, 11]) (by kernel_rfl) (by simp) ?_
        refine AllReadyH.cons (o := { dst := some 26, op := _, type := _, pos := _, after := _, guard := _ }) rfl (fun K hK => ?_) ?_
        · have k0 := kN.c8.1
          go_simp
          refine hK.out _ _ ?_ ?_
          · exact hHeld
          (try clear hHeld); (try clear hd)
          intro hHeld
          clear k0
          clear hK K
          (try simp only [Act.put, List.setIfInBounds_toArray, List.set_cons_zero, List.set_cons_succ])
          refine wpAnyH_take (i := 5) (oi := { dst := some 29, op := _, type := _, pos := _, after := _, guard := _ }) (v := ?_) rfl (by kernel_rfl) (by kernel_rfl) (by kernel_rfl) (fun _ _ _ h => h) (Or.inl ⟨by rfl, ?_⟩) (by assumption) ?_
          rotate_left
          · intro w hSw; (try dsimp only at hSw); go_simp; (try with_reducible rfl)
          (try simp only [Act.put, List.setIfInBounds_toArray, List.set_cons_zero, List.set_cons_succ])
          refine wpAnyH_take (i := 6) (oi := { dst := some 30, op := _, type := _, pos := _, after := _, guard := _ }) (v := ?_) rfl (by kernel_rfl) (by kernel_rfl) (by kernel_rfl) (fun _ _ _ h => h) (Or.inl ⟨by rfl, ?_⟩) (by assumption) ?_
          rotate_left
          · intro w hSw; (try dsimp only at hSw); go_simp; (try with_reducible rfl)
          (try simp only [Act.put, List.setIfInBounds_toArray, List.set_cons_zero, List.set_cons_succ])
          refine wpAnyH_ready (rs := [11]) (by kernel_rfl) (by simp) ?_
          refine AllReadyH.cons (o := { dst := some 35, op := _, type := _, pos := _, after := _, guard := _ }) rfl (fun K hK => ?_) AllReadyH.nil
          go_simp
          (refine (from_in 0 3 bs _ hHeld.1.seed (by decide) (by decide) (by decide) (by decide)).mono ?_; rintro e w' ⟨n2, rfl, n2a, n2b, hd⟩; replace n2b : n2 ≤ 3 := (by omega); have e2 : IntKind.i64.wrap (m.b1 + n2) = m.b1 + n2 := IntWalk.i64_in _ (by omega); replace kN := hd.blk kN (by omega))
          refine hK.out _ _ ?_ ?_
          · (exact ⟨hHeld.1.trans hd, hd.blk hHeld.2.1 (by omega), hd.blk hHeld.2.2.1 (by omega), hd.blk hHeld.2.2.2.1 (by omega), hHeld.2.2.2.2.drawn hd (by omega)⟩)
          (try clear hHeld); (try clear hd)
          intro hHeld
          clear hK K
          (try simp only [Act.put, List.setIfInBounds_toArray, List.set_cons_zero, List.set_cons_succ])
          refine wpAnyH_take (i := 12) (oi := { dst := some 36, op := _, type := _, pos := _, after := _, guard := _ }) (v := ?_) rfl (by kernel_rfl) (by kernel_rfl) (by kernel_rfl) (fun _ _ _ h => h) (Or.inl ⟨by rfl, ?_⟩) (by assumption) ?_
          rotate_left
          · intro w hSw; (try dsimp only at hSw); go_simp; (try with_reducible rfl)
          (try simp only [Act.put, List.setIfInBounds_toArray, List.set_cons_zero, List.set_cons_succ])
          refine wpAnyH_take (i := 13) (oi := { dst := some 37, op := _, type := _, pos := _, after := _, guard := _ }) (v := ?_) rfl (by kernel_rfl) (by kernel_rfl) (by kernel_rfl) (fun _ _ _ h => h) (Or.inl ⟨by rfl, ?_⟩) (by assumption) ?_
          rotate_left
          · intro w hSw; (try dsimp only at hSw); go_simp; (try with_reducible rfl)
          (try simp only [Act.put, List.setIfInBounds_toArray, List.set_cons_zero, List.set_cons_succ])
          refine wpAnyH_take (i := 14) (oi := { dst := some 38, op := _, type := _, pos := _, after := _, guard := _ }) (v := ?_) rfl (by kernel_rfl) (by kernel_rfl) (by kernel_rfl) (fun _ _ _ h => h) (Or.inl ⟨by rfl, ?_⟩) (by assumption) ?_
          rotate_left
          · intro w hSw; (try dsimp only at hSw); go_simp; (try with_reducible rfl)
          (try simp only [Act.put, List.setIfInBounds_toArray, List.set_cons_zero, List.set_cons_succ])
          refine wpAnyH_ready (rs := [15]) (by kernel_rfl) (by simp) ?_
          refine AllReadyH.cons (o := { dst := none, op := _, type := _, pos := _, after := _, guard := _ }) rfl (fun K hK => ?_) AllReadyH.nil
          obtain ⟨hD, hXX, hCC, hII, _⟩ := hHeld
          have k0 := kN.c8.1
          have k1 := kN.c8.2.1
          have fr0 := kN.free 0
          have fr1 := kN.free 1
          have zR := kN.lt
          have HS := Lib.hid (show Blk _ _ #[.int .i64 (max 0 (m.b0 + n1)), .int .i64 (m.b1 + n2), .int .i64 m.w0, .int .i64 m.w1, .int .i64 m.q0, .int .i64 m.q1, .int .i64 m.s0, .int .i64 m.s1] _ from (kN.set 0 (.int .i64 (max 0 (m.b0 + n1)))).set 1 (.int .i64 (m.b1 + n2)))
          have HD := Lib.hid (hD.set2 (b := bN) (by omega) hb1 (.int .i64 (max 0 (m.b0 + n1))) (.int .i64 (m.b1 + n2)))
          go_simp
          refine hK.out _ _ ?_ ?_
          · with_reducible exact ⟨HD.out, hXX.other2 (by omega) _ _, hCC.other2 (by omega) _ _, hII.other2 (by omega) _ _, Eight.of HS.out⟩
          (try clear hHeld); (try clear hd)
          intro hHeld
          clear hK K
          (try simp only [Act.put, List.setIfInBounds_toArray, List.set_cons_zero, List.set_cons_succ])
          refine wpAnyH_done (by kernel_rfl) ?_ _
          (try dsimp only [Act.put])
          (try simp only [Act.put, List.setIfInBounds_toArray, List.set_cons_zero, List.set_cons_succ])
          clear kN k0 k1 fr0 fr1 zR hD hXX hCC hII e1 e2
          go_wp2_with fail
          go_meet
          exact ⟨⟨(max 0 (m.b0 + n1)), (m.b1 + n2), m.w0, m.w1, m.q0, m.q1, m.s0, m.s1⟩, rfl, HS.out, hHeld.2.1, hHeld.2.2.1, hHeld.2.2.2.1, hHeld.1⟩
        refine AllReadyH.cons (o := { dst := some 35, op := _, type := _, pos := _, after := _, guard := _ }) rfl (fun K hK => ?_) ?_
        · go_simp
          (refine (from_in 0 3 bs _ hHeld.1.seed (by decide) (by decide) (by decide) (by decide)).mono ?_; rintro e w' ⟨n2, rfl, n2a, n2b, hd⟩; replace n2b : n2 ≤ 3 := (by omega); have e2 : IntKind.i64.wrap (m.b1 + n2) = m.b1 + n2 := IntWalk.i64_in _ (by omega); replace kN := hd.blk kN (by omega))
          refine hK.out _ _ ?_ ?_
          · (exact ⟨hHeld.1.trans hd, hd.blk hHeld.2.1 (by omega), hd.blk hHeld.2.2.1 (by omega), hd.blk hHeld.2.2.2.1 (by omega), hHeld.2.2.2.2.drawn hd (by omega)⟩)
          (try clear hHeld); (try clear hd)
          intro hHeld
          clear hK K
          (try simp only [Act.put, List.setIfInBounds_toArray, List.set_cons_zero, List.set_cons_succ])
          refine wpAnyH_take (i := 12) (oi := { dst := some 36, op := _, type := _, pos := _, after := _, guard := _ }) (v := ?_) rfl (by kernel_rfl) (by kernel_rfl) (by kernel_rfl) (fun _ _ _ h => h) (Or.inl ⟨by rfl, ?_⟩) (by assumption) ?_
          rotate_left
          · intro w hSw; (try dsimp only at hSw); go_simp; (try with_reducible rfl)
          (try simp only [Act.put, List.setIfInBounds_toArray, List.set_cons_zero, List.set_cons_succ])
          refine wpAnyH_ready (rs := [2]) (by kernel_rfl) (by simp) ?_
          refine AllReadyH.cons (o := { dst := some 26, op := _, type := _, pos := _, after := _, guard := _ }) rfl (fun K hK => ?_) AllReadyH.nil
          have k0 := kN.c8.1
          go_simp
          refine hK.out _ _ ?_ ?_
          · exact hHeld
          (try clear hHeld); (try clear hd)
          intro hHeld
          clear k0
          clear hK K
          (try simp only [Act.put, List.setIfInBounds_toArray, List.set_cons_zero, List.set_cons_succ])
          refine wpAnyH_take (i := 5) (oi := { dst := some 29, op := _, type := _, pos := _, after := _, guard := _ }) (v := ?_) rfl (by kernel_rfl) (by kernel_rfl) (by kernel_rfl) (fun _ _ _ h => h) (Or.inl ⟨by rfl, ?_⟩) (by assumption) ?_
          rotate_left
          · intro w hSw; (try dsimp only at hSw); go_simp; (try with_reducible rfl)
          (try simp only [Act.put, List.setIfInBounds_toArray, List.set_cons_zero, List.set_cons_succ])
          refine wpAnyH_take (i := 6) (oi := { dst := some 30, op := _, type := _, pos := _, after := _, guard := _ }) (v := ?_) rfl (by kernel_rfl) (by kernel_rfl) (by kernel_rfl) (fun _ _ _ h => h) (Or.inl ⟨by rfl, ?_⟩) (by assumption) ?_
          rotate_left
          · intro w hSw; (try dsimp only at hSw); go_simp; (try with_reducible rfl)
          (try simp only [Act.put, List.setIfInBounds_toArray, List.set_cons_zero, List.set_cons_succ])
          refine wpAnyH_take (i := 13) (oi := { dst := some 37, op := _, type := _, pos := _, after := _, guard := _ }) (v := ?_) rfl (by kernel_rfl) (by kernel_rfl) (by kernel_rfl) (fun _ _ _ h => h) (Or.inl ⟨by rfl, ?_⟩) (by assumption) ?_
          rotate_left
          · intro w hSw; (try dsimp only at hSw); go_simp; (try with_reducible rfl)
          (try simp only [Act.put, List.setIfInBounds_toArray, List.set_cons_zero, List.set_cons_succ])
          refine wpAnyH_take (i := 14) (oi := { dst := some 38, op := _, type := _, pos := _, after := _, guard := _ }) (v := ?_) rfl (by kernel_rfl) (by kernel_rfl) (by kernel_rfl) (fun _ _ _ h => h) (Or.inl ⟨by rfl, ?_⟩) (by assumption) ?_
          rotate_left
          · intro w hSw; (try dsimp only at hSw); go_simp; (try with_reducible rfl)
          (try simp only [Act.put, List.setIfInBounds_toArray, List.set_cons_zero, List.set_cons_succ])
          refine wpAnyH_ready (rs := [15]) (by kernel_rfl) (by simp) ?_
          refine AllReadyH.cons (o := { dst := none, op := _, type := _, pos := _, after := _, guard := _ }) rfl (fun K hK => ?_) AllReadyH.nil
          obtain ⟨hD, hXX, hCC, hII, _⟩ := hHeld
          have k0 := kN.c8.1
          have k1 := kN.c8.2.1
          have fr0 := kN.free 0
          have fr1 := kN.free 1
          have zR := kN.lt
          have HS := Lib.hid (show Blk _ _ #[.int .i64 (max 0 (m.b0 + n1)), .int .i64 (m.b1 + n2), .int .i64 m.w0, .int .i64 m.w1, .int .i64 m.q0, .int .i64 m.q1, .int .i64 m.s0, .int .i64 m.s1] _ from (kN.set 0 (.int .i64 (max 0 (m.b0 + n1)))).set 1 (.int .i64 (m.b1 + n2)))
          have HD := Lib.hid (hD.set2 (b := bN) (by omega) hb1 (.int .i64 (max 0 (m.b0 + n1))) (.int .i64 (m.b1 + n2)))
          go_simp
          refine hK.out _ _ ?_ ?_
          · with_reducible exact ⟨HD.out, hXX.other2 (by omega) _ _, hCC.other2 (by omega) _ _, hII.other2 (by omega) _ _, Eight.of HS.out⟩
          (try clear hHeld); (try clear hd)
          intro hHeld
          clear hK K
          (try simp only [Act.put, List.setIfInBounds_toArray, List.set_cons_zero, List.set_cons_succ])
          refine wpAnyH_done (by kernel_rfl) ?_ _
          (try dsimp only [Act.put])
          (try simp only [Act.put, List.setIfInBounds_toArray, List.set_cons_zero, List.set_cons_succ])
          clear kN k0 k1 fr0 fr1 zR hD hXX hCC hII e1 e2
          go_wp2_with fail
          go_meet
          exact ⟨⟨(max 0 (m.b0 + n1)), (m.b1 + n2), m.w0, m.w1, m.q0, m.q1, m.s0, m.s1⟩, rfl, HS.out, hHeld.2.1, hHeld.2.2.1, hHeld.2.2.2.1, hHeld.1⟩
        exact AllReadyH.nil
      exact AllReadyH.nil
    exact AllReadyH.nil
  case rest =>
    obtain ⟨y, rfl, jN, jX, jC, jI, hA⟩ := hcut
    clear hm
    go_upto_region 5 with fail
    go_cut [10, 11] (fun s10 s11 wx => ∃ (m b1 o1 b2 o2 : Nat) (C1 C2 : Array Value) (xs cs : Nat → Ic), m ≤ 1000000 ∧ s10 = .slice (some ⟨b1, o1, none⟩) m m ∧ s11 = .slice (some ⟨b2, o2, none⟩) m m ∧ IcArr C1 o1 m xs ∧ IcArr C2 o2 m cs ∧ Blk wx b1 C1 28 ∧ Blk wx b2 C2 28 ∧ Drawn bs w1 wx)
    case first =>
      refine wp_region_held_drew (S := (fun w' => Blk w' bX #[.int .i64 x.b0, .int .i64 x.b1, .int .i64 x.w0, .int .i64 x.w1, .int .i64 x.q0, .int .i64 x.q1, .int .i64 x.s0, .int .i64 x.s1] 28 ∧ Blk w' (bX + 1) #[.int .i64 c.b0, .int .i64 c.b1, .int .i64 c.w0, .int .i64 c.w1, .int .i64 c.q0, .int .i64 c.q1, .int .i64 c.s0, .int .i64 c.s1] 28 ∧ Blk w' bI #[.int .i64 i.b0, .int .i64 i.b1, .int .i64 i.w0, .int .i64 i.w1, .int .i64 i.q0, .int .i64 i.q1, .int .i64 i.s0, .int .i64 i.s1] 28 ∧ Blk w' bN #[.int .i64 y.b0, .int .i64 y.b1, .int .i64 y.w0, .int .i64 y.w1, .int .i64 y.q0, .int .i64 y.q1, .int .i64 y.s0, .int .i64 y.s1] 28 ∧ Drawn bs w1 w')) (by kernel_rfl) ?_ (fun hHeld => ?_)
      · (try dsimp only); (exact ⟨jX.drew, jC.drew, jI.drew, jN.drew, hA.trans (Drawn.drew hA.seed)⟩)
      refine wpAnyH_take (i := 0) (oi := { dst := some 39, op := _, type := _, pos := _, after := _, guard := _ }) (v := ?_) rfl (by kernel_rfl) (by kernel_rfl) (by kernel_rfl) (fun _ _ _ h => h) (Or.inl ⟨by rfl, ?_⟩) (by assumption) ?_
      rotate_left
      · intro w hSw; (try dsimp only at hSw); obtain ⟨kX, kC, kI, kN, _⟩ := hSw; obtain ⟨a0, a1, a2, a3, a4, a5, a6, a7⟩ := kX.c8; obtain ⟨c0, c1, c2, c3, c4, c5, c6, c7⟩ := kC.c8; obtain ⟨d0, d1, d2, d3, d4, d5, d6, d7⟩ := kI.c8; obtain ⟨f0, f1, f2, f3, f4, f5, f6, f7⟩ := kN.c8;go_simp; (try with_reducible rfl)
      (try simp only [Act.put, List.setIfInBounds_toArray, List.set_cons_zero, List.set_cons_succ])
      refine wpAnyH_take (i := 1) (oi := { dst := some 40, op := _, type := _, pos := _, after := _, guard := _ }) (v := ?_) rfl (by kernel_rfl) (by kernel_rfl) (by kernel_rfl) (fun _ _ _ h => h) (Or.inl ⟨by rfl, ?_⟩) (by assumption) ?_
      rotate_left
      · intro w hSw; (try dsimp only at hSw); obtain ⟨kX, kC, kI, kN, _⟩ := hSw; obtain ⟨a0, a1, a2, a3, a4, a5, a6, a7⟩ := kX.c8; obtain ⟨c0, c1, c2, c3, c4, c5, c6, c7⟩ := kC.c8; obtain ⟨d0, d1, d2, d3, d4, d5, d6, d7⟩ := kI.c8; obtain ⟨f0, f1, f2, f3, f4, f5, f6, f7⟩ := kN.c8;go_simp; (try with_reducible rfl)
      (try simp only [Act.put, List.setIfInBounds_toArray, List.set_cons_zero, List.set_cons_succ])
      refine wpAnyH_take (i := 2) (oi := { dst := some 41, op := _, type := _, pos := _, after := _, guard := _ }) (v := ?_) rfl (by kernel_rfl) (by kernel_rfl) (by kernel_rfl) (fun _ _ _ h => h) (Or.inl ⟨by rfl, ?_⟩) (by assumption) ?_
      rotate_left
      · intro w hSw; (try dsimp only at hSw); obtain ⟨kX, kC, kI, kN, _⟩ := hSw; obtain ⟨a0, a1, a2, a3, a4, a5, a6, a7⟩ := kX.c8; obtain ⟨c0, c1, c2, c3, c4, c5, c6, c7⟩ := kC.c8; obtain ⟨d0, d1, d2, d3, d4, d5, d6, d7⟩ := kI.c8; obtain ⟨f0, f1, f2, f3, f4, f5, f6, f7⟩ := kN.c8;go_simp; (try with_reducible rfl)
      (try simp only [Act.put, List.setIfInBounds_toArray, List.set_cons_zero, List.set_cons_succ])
      refine wpAnyH_take (i := 3) (oi := { dst := some 42, op := _, type := _, pos := _, after := _, guard := _ }) (v := ?_) rfl (by kernel_rfl) (by kernel_rfl) (by kernel_rfl) (fun _ _ _ h => h) (Or.inl ⟨by rfl, ?_⟩) (by assumption) ?_
      rotate_left
      · intro w hSw; (try dsimp only at hSw); obtain ⟨kX, kC, kI, kN, _⟩ := hSw; obtain ⟨a0, a1, a2, a3, a4, a5, a6, a7⟩ := kX.c8; obtain ⟨c0, c1, c2, c3, c4, c5, c6, c7⟩ := kC.c8; obtain ⟨d0, d1, d2, d3, d4, d5, d6, d7⟩ := kI.c8; obtain ⟨f0, f1, f2, f3, f4, f5, f6, f7⟩ := kN.c8;go_simp; (try with_reducible rfl)
      (try simp only [Act.put, List.setIfInBounds_toArray, List.set_cons_zero, List.set_cons_succ])
      refine wpAnyH_take (i := 5) (oi := { dst := some 44, op := _, type := _, pos := _, after := _, guard := _ }) (v := ?_) rfl (by kernel_rfl) (by kernel_rfl) (by kernel_rfl) (fun _ _ _ h => h) (Or.inl ⟨by rfl, ?_⟩) (by assumption) ?_
      rotate_left
      · intro w hSw; (try dsimp only at hSw); obtain ⟨kX, kC, kI, kN, _⟩ := hSw; obtain ⟨a0, a1, a2, a3, a4, a5, a6, a7⟩ := kX.c8; obtain ⟨c0, c1, c2, c3, c4, c5, c6, c7⟩ := kC.c8; obtain ⟨d0, d1, d2, d3, d4, d5, d6, d7⟩ := kI.c8; obtain ⟨f0, f1, f2, f3, f4, f5, f6, f7⟩ := kN.c8;go_simp; (try with_reducible rfl)
      (try simp only [Act.put, List.setIfInBounds_toArray, List.set_cons_zero, List.set_cons_succ])
      refine wpAnyH_take (i := 6) (oi := { dst := some 45, op := _, type := _, pos := _, after := _, guard := _ }) (v := ?_) rfl (by kernel_rfl) (by kernel_rfl) (by kernel_rfl) (fun _ _ _ h => h) (Or.inl ⟨by rfl, ?_⟩) (by assumption) ?_
      rotate_left
      · intro w hSw; (try dsimp only at hSw); obtain ⟨kX, kC, kI, kN, _⟩ := hSw; obtain ⟨a0, a1, a2, a3, a4, a5, a6, a7⟩ := kX.c8; obtain ⟨c0, c1, c2, c3, c4, c5, c6, c7⟩ := kC.c8; obtain ⟨d0, d1, d2, d3, d4, d5, d6, d7⟩ := kI.c8; obtain ⟨f0, f1, f2, f3, f4, f5, f6, f7⟩ := kN.c8;go_simp; (try with_reducible rfl)
      (try simp only [Act.put, List.setIfInBounds_toArray, List.set_cons_zero, List.set_cons_succ])
      refine wpAnyH_take (i := 7) (oi := { dst := some 46, op := _, type := _, pos := _, after := _, guard := _ }) (v := ?_) rfl (by kernel_rfl) (by kernel_rfl) (by kernel_rfl) (fun _ _ _ h => h) (Or.inl ⟨by rfl, ?_⟩) (by assumption) ?_
      rotate_left
      · intro w hSw; (try dsimp only at hSw); obtain ⟨kX, kC, kI, kN, _⟩ := hSw; obtain ⟨a0, a1, a2, a3, a4, a5, a6, a7⟩ := kX.c8; obtain ⟨c0, c1, c2, c3, c4, c5, c6, c7⟩ := kC.c8; obtain ⟨d0, d1, d2, d3, d4, d5, d6, d7⟩ := kI.c8; obtain ⟨f0, f1, f2, f3, f4, f5, f6, f7⟩ := kN.c8;go_simp; (try with_reducible rfl)
      (try simp only [Act.put, List.setIfInBounds_toArray, List.set_cons_zero, List.set_cons_succ])
      refine wpAnyH_take (i := 8) (oi := { dst := some 47, op := _, type := _, pos := _, after := _, guard := _ }) (v := ?_) rfl (by kernel_rfl) (by kernel_rfl) (by kernel_rfl) (fun _ _ _ h => h) (Or.inl ⟨by rfl, ?_⟩) (by assumption) ?_
      rotate_left
      · intro w hSw; (try dsimp only at hSw); obtain ⟨kX, kC, kI, kN, _⟩ := hSw; obtain ⟨a0, a1, a2, a3, a4, a5, a6, a7⟩ := kX.c8; obtain ⟨c0, c1, c2, c3, c4, c5, c6, c7⟩ := kC.c8; obtain ⟨d0, d1, d2, d3, d4, d5, d6, d7⟩ := kI.c8; obtain ⟨f0, f1, f2, f3, f4, f5, f6, f7⟩ := kN.c8;go_simp; (try with_reducible rfl)
      (try simp only [Act.put, List.setIfInBounds_toArray, List.set_cons_zero, List.set_cons_succ])
      refine wpAnyH_ready (rs := [4, 9]) (by kernel_rfl) (by simp) ?_
      refine AllReadyH.cons (o := { dst := some 43, op := _, type := _, pos := _, after := _, guard := _ }) rfl (fun K hK => ?_) ?_
      · go_simp
        first | refine out_alloc hK _ _ _ _ ?_ (fun hHeld hA => ?_) | refine out_alloc_drew hK _ _ _ _ ?_ (fun hHeld hA => ?_)
        · (exact ⟨hHeld.1.alloc _, hHeld.2.1.alloc _, hHeld.2.2.1.alloc _, hHeld.2.2.2.1.alloc _, hHeld.2.2.2.2.new _⟩)
        ((try simp only [World.size_alloc] at hA); have hP := hA; clear hA; (try replace hQ := hQ.alloc (.cells #[.int .i64 x.b0, .int .i64 x.b1, .int .i64 x.w0, .int .i64 x.w1, .int .i64 x.q0, .int .i64 x.q1, .int .i64 x.s0, .int .i64 x.s1, .int .i64 i.b0, .int .i64 i.b1, .int .i64 i.w0, .int .i64 i.w1, .int .i64 i.q0, .int .i64 i.q1, .int .i64 i.s0, .int .i64 i.s1, .int .i64 i.b0, .int .i64 i.b1, .int .i64 i.w0, .int .i64 i.w1, .int .i64 i.q0, .int .i64 i.q1, .int .i64 i.s0, .int .i64 i.s1, .int .i64 x.b0, .int .i64 x.b1, .int .i64 x.w0, .int .i64 x.w1, .int .i64 x.q0, .int .i64 x.q1, .int .i64 x.s0, .int .i64 x.s1] 28)))
        clear hK K
        (try simp only [Act.put, List.setIfInBounds_toArray, List.set_cons_zero, List.set_cons_succ])
        refine wpAnyH_take (i := 10) (oi := { dst := some 10, op := _, type := _, pos := _, after := _, guard := _ }) (v := ?_) rfl (by kernel_rfl) (by kernel_rfl) (by kernel_rfl) (fun _ _ _ h => h) (Or.inl ⟨by rfl, ?_⟩) (by assumption) ?_
        rotate_left
        · intro w hSw; (try dsimp only at hSw); obtain ⟨kX, kC, kI, kN, _⟩ := hSw; obtain ⟨a0, a1, a2, a3, a4, a5, a6, a7⟩ := kX.c8; obtain ⟨c0, c1, c2, c3, c4, c5, c6, c7⟩ := kC.c8; obtain ⟨d0, d1, d2, d3, d4, d5, d6, d7⟩ := kI.c8; obtain ⟨f0, f1, f2, f3, f4, f5, f6, f7⟩ := kN.c8;go_simp; (try with_reducible rfl)
        (try simp only [Act.put, List.setIfInBounds_toArray, List.set_cons_zero, List.set_cons_succ])
        refine wpAnyH_ready (rs := [9]) (by kernel_rfl) (by simp) ?_
        refine AllReadyH.cons (o := { dst := some 48, op := _, type := _, pos := _, after := _, guard := _ }) rfl (fun K hK => ?_) AllReadyH.nil
        go_simp
        first | refine out_alloc hK _ _ _ _ ?_ (fun hHeld hA => ?_) | refine out_alloc_drew hK _ _ _ _ ?_ (fun hHeld hA => ?_)
        · (exact ⟨hHeld.1.alloc _, hHeld.2.1.alloc _, hHeld.2.2.1.alloc _, hHeld.2.2.2.1.alloc _, hHeld.2.2.2.2.new _⟩)
        ((try simp only [World.size_alloc] at hA); have hQ := hA; clear hA; (try replace hP := hP.alloc (.cells #[.int .i64 c.b0, .int .i64 c.b1, .int .i64 c.w0, .int .i64 c.w1, .int .i64 c.q0, .int .i64 c.q1, .int .i64 c.s0, .int .i64 c.s1, .int .i64 y.b0, .int .i64 y.b1, .int .i64 y.w0, .int .i64 y.w1, .int .i64 y.q0, .int .i64 y.q1, .int .i64 y.s0, .int .i64 y.s1, .int .i64 c.b0, .int .i64 c.b1, .int .i64 c.w0, .int .i64 c.w1, .int .i64 c.q0, .int .i64 c.q1, .int .i64 c.s0, .int .i64 c.s1, .int .i64 y.b0, .int .i64 y.b1, .int .i64 y.w0, .int .i64 y.w1, .int .i64 y.q0, .int .i64 y.q1, .int .i64 y.s0, .int .i64 y.s1] 28)))
        clear hK K
        (try simp only [Act.put, List.setIfInBounds_toArray, List.set_cons_zero, List.set_cons_succ])
        refine wpAnyH_take (i := 11) (oi := { dst := some 11, op := _, type := _, pos := _, after := _, guard := _ }) (v := ?_) rfl (by kernel_rfl) (by kernel_rfl) (by kernel_rfl) (fun _ _ _ h => h) (Or.inl ⟨by rfl, ?_⟩) (by assumption) ?_
        rotate_left
        · intro w hSw; (try dsimp only at hSw); obtain ⟨kX, kC, kI, kN, _⟩ := hSw; obtain ⟨a0, a1, a2, a3, a4, a5, a6, a7⟩ := kX.c8; obtain ⟨c0, c1, c2, c3, c4, c5, c6, c7⟩ := kC.c8; obtain ⟨d0, d1, d2, d3, d4, d5, d6, d7⟩ := kI.c8; obtain ⟨f0, f1, f2, f3, f4, f5, f6, f7⟩ := kN.c8;go_simp; (try with_reducible rfl)
        (try simp only [Act.put, List.setIfInBounds_toArray, List.set_cons_zero, List.set_cons_succ])
        refine wpAnyH_done (by kernel_rfl) ?_ _
        (try dsimp only [Act.put])
        (try simp only [Act.put, List.setIfInBounds_toArray, List.set_cons_zero, List.set_cons_succ])
        go_wp2_with fail
        go_meet
        exact ⟨4, _, _, _, _, _, _, _, _, by decide, rfl, rfl, icArr4 x i i x, icArr4 c y c y, hP, hQ, hHeld.2.2.2.2⟩
      refine AllReadyH.cons (o := { dst := some 48, op := _, type := _, pos := _, after := _, guard := _ }) rfl (fun K hK => ?_) ?_
      · go_simp
        first | refine out_alloc hK _ _ _ _ ?_ (fun hHeld hA => ?_) | refine out_alloc_drew hK _ _ _ _ ?_ (fun hHeld hA => ?_)
        · (exact ⟨hHeld.1.alloc _, hHeld.2.1.alloc _, hHeld.2.2.1.alloc _, hHeld.2.2.2.1.alloc _, hHeld.2.2.2.2.new _⟩)
        ((try simp only [World.size_alloc] at hA); have hQ := hA; clear hA; (try replace hP := hP.alloc (.cells #[.int .i64 c.b0, .int .i64 c.b1, .int .i64 c.w0, .int .i64 c.w1, .int .i64 c.q0, .int .i64 c.q1, .int .i64 c.s0, .int .i64 c.s1, .int .i64 y.b0, .int .i64 y.b1, .int .i64 y.w0, .int .i64 y.w1, .int .i64 y.q0, .int .i64 y.q1, .int .i64 y.s0, .int .i64 y.s1, .int .i64 c.b0, .int .i64 c.b1, .int .i64 c.w0, .int .i64 c.w1, .int .i64 c.q0, .int .i64 c.q1, .int .i64 c.s0, .int .i64 c.s1, .int .i64 y.b0, .int .i64 y.b1, .int .i64 y.w0, .int .i64 y.w1, .int .i64 y.q0, .int .i64 y.q1, .int .i64 y.s0, .int .i64 y.s1] 28)))
        clear hK K
        (try simp only [Act.put, List.setIfInBounds_toArray, List.set_cons_zero, List.set_cons_succ])
        refine wpAnyH_ready (rs := [4]) (by kernel_rfl) (by simp) ?_
        refine AllReadyH.cons (o := { dst := some 43, op := _, type := _, pos := _, after := _, guard := _ }) rfl (fun K hK => ?_) AllReadyH.nil
        go_simp
        first | refine out_alloc hK _ _ _ _ ?_ (fun hHeld hA => ?_) | refine out_alloc_drew hK _ _ _ _ ?_ (fun hHeld hA => ?_)
        · (exact ⟨hHeld.1.alloc _, hHeld.2.1.alloc _, hHeld.2.2.1.alloc _, hHeld.2.2.2.1.alloc _, hHeld.2.2.2.2.new _⟩)
        ((try simp only [World.size_alloc] at hA); have hP := hA; clear hA; (try replace hQ := hQ.alloc (.cells #[.int .i64 x.b0, .int .i64 x.b1, .int .i64 x.w0, .int .i64 x.w1, .int .i64 x.q0, .int .i64 x.q1, .int .i64 x.s0, .int .i64 x.s1, .int .i64 i.b0, .int .i64 i.b1, .int .i64 i.w0, .int .i64 i.w1, .int .i64 i.q0, .int .i64 i.q1, .int .i64 i.s0, .int .i64 i.s1, .int .i64 i.b0, .int .i64 i.b1, .int .i64 i.w0, .int .i64 i.w1, .int .i64 i.q0, .int .i64 i.q1, .int .i64 i.s0, .int .i64 i.s1, .int .i64 x.b0, .int .i64 x.b1, .int .i64 x.w0, .int .i64 x.w1, .int .i64 x.q0, .int .i64 x.q1, .int .i64 x.s0, .int .i64 x.s1] 28)))
        clear hK K
        (try simp only [Act.put, List.setIfInBounds_toArray, List.set_cons_zero, List.set_cons_succ])
        refine wpAnyH_take (i := 10) (oi := { dst := some 10, op := _, type := _, pos := _, after := _, guard := _ }) (v := ?_) rfl (by kernel_rfl) (by kernel_rfl) (by kernel_rfl) (fun _ _ _ h => h) (Or.inl ⟨by rfl, ?_⟩) (by assumption) ?_
        rotate_left
        · intro w hSw; (try dsimp only at hSw); obtain ⟨kX, kC, kI, kN, _⟩ := hSw; obtain ⟨a0, a1, a2, a3, a4, a5, a6, a7⟩ := kX.c8; obtain ⟨c0, c1, c2, c3, c4, c5, c6, c7⟩ := kC.c8; obtain ⟨d0, d1, d2, d3, d4, d5, d6, d7⟩ := kI.c8; obtain ⟨f0, f1, f2, f3, f4, f5, f6, f7⟩ := kN.c8;go_simp; (try with_reducible rfl)
        (try simp only [Act.put, List.setIfInBounds_toArray, List.set_cons_zero, List.set_cons_succ])
        refine wpAnyH_take (i := 11) (oi := { dst := some 11, op := _, type := _, pos := _, after := _, guard := _ }) (v := ?_) rfl (by kernel_rfl) (by kernel_rfl) (by kernel_rfl) (fun _ _ _ h => h) (Or.inl ⟨by rfl, ?_⟩) (by assumption) ?_
        rotate_left
        · intro w hSw; (try dsimp only at hSw); obtain ⟨kX, kC, kI, kN, _⟩ := hSw; obtain ⟨a0, a1, a2, a3, a4, a5, a6, a7⟩ := kX.c8; obtain ⟨c0, c1, c2, c3, c4, c5, c6, c7⟩ := kC.c8; obtain ⟨d0, d1, d2, d3, d4, d5, d6, d7⟩ := kI.c8; obtain ⟨f0, f1, f2, f3, f4, f5, f6, f7⟩ := kN.c8;go_simp; (try with_reducible rfl)
        (try simp only [Act.put, List.setIfInBounds_toArray, List.set_cons_zero, List.set_cons_succ])
        refine wpAnyH_done (by kernel_rfl) ?_ _
        (try dsimp only [Act.put])
        (try simp only [Act.put, List.setIfInBounds_toArray, List.set_cons_zero, List.set_cons_succ])
        go_wp2_with fail
        go_meet
        exact ⟨4, _, _, _, _, _, _, _, _, by decide, rfl, rfl, icArr4 x i i x, icArr4 c y c y, hP, hQ, hHeld.2.2.2.2⟩
      exact AllReadyH.nil
    case rest =>
      obtain ⟨m, b1, o1, b2, o2, C1, C2, xs, cs, hm4, rfl, rfl, h1, h2, j1, j2, hA⟩ := hcut
      clear jN jX jC jI
      have H1 := Lib.hid h1
      have H2 := Lib.hid h2
      clear h1 h2
      go_wp2_with fail
      go_loopw [12] (fun i wr => ∃ k : Nat, k ≤ m ∧ i = .int .i64 k ∧ Blk wr b1 C1 28 ∧ Blk wr b2 C2 28 ∧ Drawn bs w1 wr) (fun i _ => m - (intOf i).toNat)
      case atStart => exact ⟨0, Nat.zero_le _, rfl, j1, j2, hA⟩
      case round =>
        obtain ⟨k, hk, rfl, j1, j2, hA⟩ := hrel
        by_cases hlt : k < m
        · obtain ⟨v, hv⟩ := coV_ic (xs k) (cs k)
          obtain ⟨E, hE⟩ : ∃ E, coE (xs k) (cs k) = E := ⟨_, rfl⟩
          have K1 : Hid (∀ W, Calls Try.prog 41 #[.agg #[.int .i64 (xs k).b0, .int .i64 (xs k).b1, .int .i64 (xs k).w0, .int .i64 (xs k).w1, .int .i64 (xs k).q0, .int .i64 (xs k).q1, .int .i64 (xs k).s0, .int .i64 (xs k).s1], .agg #[.int .i64 (cs k).b0, .int .i64 (cs k).b1, .int .i64 (cs k).w0, .int .i64 (cs k).w1, .int .i64 (cs k).q0, .int .i64 (cs k).q1, .int .i64 (cs k).s0, .int .i64 (cs k).s1]] W fun e w' => e = .returned (.tuple #[.agg #[.int .i64 v.b0, .int .i64 v.b1, .int .i64 v.w0, .int .i64 v.w1, .int .i64 v.q0, .int .i64 v.q1, .int .i64 v.s0, .int .i64 v.s1], .int .i64 E]) ∧ Below W.heap.size W w') := fun W => by
            have h := core_any (xs k) (cs k) W
            rw [hv, hE] at h
            exact h
          have K2 : Hid (∀ W, Calls Try.prog 42 #[.agg #[.int .i64 (xs k).b0, .int .i64 (xs k).b1, .int .i64 (xs k).w0, .int .i64 (xs k).w1, .int .i64 (xs k).q0, .int .i64 (xs k).q1, .int .i64 (xs k).s0, .int .i64 (xs k).s1], .agg #[.int .i64 (cs k).b0, .int .i64 (cs k).b1, .int .i64 (cs k).w0, .int .i64 (cs k).w1, .int .i64 (cs k).q0, .int .i64 (cs k).q1, .int .i64 (cs k).s0, .int .i64 (cs k).s1]] W fun e w' => e = .returned (.tuple #[.agg #[.int .i64 v.b0, .int .i64 v.b1, .int .i64 v.w0, .int .i64 v.w1, .int .i64 v.q0, .int .i64 v.q1, .int .i64 v.s0, .int .i64 v.s1], .int .i64 E]) ∧ Below W.heap.size W w') := fun W => by
            have h := rcore_any (xs k) (cs k) W
            rw [hv, hE] at h
            exact h
          clear hv hE
          go_upto_region 9 with fail
          go_cut [13, 14] (fun s13 s14 wx => ∃ bA : Nat, s13 = .pointer (some ⟨bA, 0, none⟩) ∧ s14 = .int .i64 E ∧ Blk wx bA #[.int .i64 v.b0, .int .i64 v.b1, .int .i64 v.w0, .int .i64 v.w1, .int .i64 v.q0, .int .i64 v.q1, .int .i64 v.s0, .int .i64 v.s1] 28 ∧ Blk wx b1 C1 28 ∧ Blk wx b2 C2 28 ∧ Drawn bs w1 wx)
          case first =>
            refine wp_region_held_drew (S := (fun w' => Blk w' b1 C1 28 ∧ Blk w' b2 C2 28 ∧ Drawn bs w1 w')) (by kernel_rfl) ?_ (fun hHeld => ?_)
            · (try dsimp only); (exact ⟨j1.drew, j2.drew, hA.trans (Drawn.drew hA.seed)⟩)
            apply share0 (fun (bA : Nat) (W : World) => (fun w' => Blk w' b1 C1 28 ∧ Blk w' b2 C2 28 ∧ Drawn bs w1 w') W ∧ Blk W bA #[.int .i64 0, .int .i64 0, .int .i64 0, .int .i64 0, .int .i64 0, .int .i64 0, .int .i64 0, .int .i64 0] 28 ∧ (w1.heap.size ≤ bA) ∧ (b1 < bA) ∧ (b2 < bA))
            · intro X1
              apply share0 (fun (bA : Nat) (W : World) => (fun w' => Blk w' b1 C1 28 ∧ Blk w' b2 C2 28 ∧ Drawn bs w1 w') W ∧ Blk W bA #[.int .i64 0, .int .i64 0, .int .i64 0, .int .i64 0, .int .i64 0, .int .i64 0, .int .i64 0, .int .i64 0] 28 ∧ (w1.heap.size ≤ bA) ∧ (b1 < bA) ∧ (b2 < bA))
              · intro X0
                refine wpAnyH_take (i := 0) (oi := { dst := some 56, op := _, type := _, pos := _, after := _, guard := _ }) (v := ?_) rfl (by kernel_rfl) (by kernel_rfl) (by kernel_rfl) (fun _ _ _ h => h) (Or.inl ⟨by rfl, ?_⟩) (by assumption) ?_
                rotate_left
                · intro w hSw; (try dsimp only at hSw); obtain ⟨k1, k2, _⟩ := hSw; obtain ⟨a0, a1, a2, a3, a4, a5, a6, a7⟩ := H1.out.cells k1 hlt; obtain ⟨c0, c1, c2, c3, c4, c5, c6, c7⟩ := H2.out.cells k2 hlt; have z1 := k1.lt; have z2 := k2.lt;go_simp; (try with_reducible rfl)
                (try simp only [Act.put, List.setIfInBounds_toArray, List.set_cons_zero, List.set_cons_succ])
                refine wpAnyH_take (i := 1) (oi := { dst := some 57, op := _, type := _, pos := _, after := _, guard := _ }) (v := ?_) rfl (by kernel_rfl) (by kernel_rfl) (by kernel_rfl) (fun _ _ _ h => h) (Or.inl ⟨by rfl, ?_⟩) (by assumption) ?_
                rotate_left
                · intro w hSw; (try dsimp only at hSw); obtain ⟨k1, k2, _⟩ := hSw; obtain ⟨a0, a1, a2, a3, a4, a5, a6, a7⟩ := H1.out.cells k1 hlt; obtain ⟨c0, c1, c2, c3, c4, c5, c6, c7⟩ := H2.out.cells k2 hlt; have z1 := k1.lt; have z2 := k2.lt;go_simp; (try with_reducible rfl)
                (try simp only [Act.put, List.setIfInBounds_toArray, List.set_cons_zero, List.set_cons_succ])
                refine wpAnyH_take (i := 2) (oi := { dst := some 58, op := _, type := _, pos := _, after := _, guard := _ }) (v := ?_) rfl (by kernel_rfl) (by kernel_rfl) (by kernel_rfl) (fun _ _ _ h => h) (Or.inl ⟨by rfl, ?_⟩) (by assumption) ?_
                rotate_left
                · intro w hSw; (try dsimp only at hSw); obtain ⟨k1, k2, _⟩ := hSw; obtain ⟨a0, a1, a2, a3, a4, a5, a6, a7⟩ := H1.out.cells k1 hlt; obtain ⟨c0, c1, c2, c3, c4, c5, c6, c7⟩ := H2.out.cells k2 hlt; have z1 := k1.lt; have z2 := k2.lt;go_simp; (try with_reducible rfl)
                (try simp only [Act.put, List.setIfInBounds_toArray, List.set_cons_zero, List.set_cons_succ])
                refine wpAnyH_take (i := 3) (oi := { dst := some 59, op := _, type := _, pos := _, after := _, guard := _ }) (v := ?_) rfl (by kernel_rfl) (by kernel_rfl) (by kernel_rfl) (fun _ _ _ h => h) (Or.inl ⟨by rfl, ?_⟩) (by assumption) ?_
                rotate_left
                · intro w hSw; (try dsimp only at hSw); obtain ⟨k1, k2, _⟩ := hSw; obtain ⟨a0, a1, a2, a3, a4, a5, a6, a7⟩ := H1.out.cells k1 hlt; obtain ⟨c0, c1, c2, c3, c4, c5, c6, c7⟩ := H2.out.cells k2 hlt; have z1 := k1.lt; have z2 := k2.lt;go_simp; (try with_reducible rfl)
                (try simp only [Act.put, List.setIfInBounds_toArray, List.set_cons_zero, List.set_cons_succ])
                refine wpAnyH_take (i := 4) (oi := { dst := some 60, op := _, type := _, pos := _, after := _, guard := _ }) (v := ?_) rfl (by kernel_rfl) (by kernel_rfl) (by kernel_rfl) (fun _ _ _ h => h) (Or.inl ⟨by rfl, ?_⟩) (by assumption) ?_
                rotate_left
                · intro w hSw; (try dsimp only at hSw); obtain ⟨k1, k2, _⟩ := hSw; obtain ⟨a0, a1, a2, a3, a4, a5, a6, a7⟩ := H1.out.cells k1 hlt; obtain ⟨c0, c1, c2, c3, c4, c5, c6, c7⟩ := H2.out.cells k2 hlt; have z1 := k1.lt; have z2 := k2.lt;go_simp; (try with_reducible rfl)
                (try simp only [Act.put, List.setIfInBounds_toArray, List.set_cons_zero, List.set_cons_succ])
                refine wpAnyH_take (i := 5) (oi := { dst := some 61, op := _, type := _, pos := _, after := _, guard := _ }) (v := ?_) rfl (by kernel_rfl) (by kernel_rfl) (by kernel_rfl) (fun _ _ _ h => h) (Or.inl ⟨by rfl, ?_⟩) (by assumption) ?_
                rotate_left
                · intro w hSw; (try dsimp only at hSw); obtain ⟨k1, k2, _⟩ := hSw; obtain ⟨a0, a1, a2, a3, a4, a5, a6, a7⟩ := H1.out.cells k1 hlt; obtain ⟨c0, c1, c2, c3, c4, c5, c6, c7⟩ := H2.out.cells k2 hlt; have z1 := k1.lt; have z2 := k2.lt;go_simp; (try with_reducible rfl)
                (try simp only [Act.put, List.setIfInBounds_toArray, List.set_cons_zero, List.set_cons_succ])
                refine wpAnyH_take (i := 6) (oi := { dst := some 62, op := _, type := _, pos := _, after := _, guard := _ }) (v := ?_) rfl (by kernel_rfl) (by kernel_rfl) (by kernel_rfl) (fun _ _ _ h => h) (Or.inl ⟨by rfl, ?_⟩) (by assumption) ?_
                rotate_left
                · intro w hSw; (try dsimp only at hSw); obtain ⟨k1, k2, _⟩ := hSw; obtain ⟨a0, a1, a2, a3, a4, a5, a6, a7⟩ := H1.out.cells k1 hlt; obtain ⟨c0, c1, c2, c3, c4, c5, c6, c7⟩ := H2.out.cells k2 hlt; have z1 := k1.lt; have z2 := k2.lt;go_simp; (try with_reducible rfl)
                (try simp only [Act.put, List.setIfInBounds_toArray, List.set_cons_zero, List.set_cons_succ])
                refine wpAnyH_take (i := 7) (oi := { dst := some 63, op := _, type := _, pos := _, after := _, guard := _ }) (v := ?_) rfl (by kernel_rfl) (by kernel_rfl) (by kernel_rfl) (fun _ _ _ h => h) (Or.inl ⟨by rfl, ?_⟩) (by assumption) ?_
                rotate_left
                · intro w hSw; (try dsimp only at hSw); obtain ⟨k1, k2, _⟩ := hSw; obtain ⟨a0, a1, a2, a3, a4, a5, a6, a7⟩ := H1.out.cells k1 hlt; obtain ⟨c0, c1, c2, c3, c4, c5, c6, c7⟩ := H2.out.cells k2 hlt; have z1 := k1.lt; have z2 := k2.lt;go_simp; (try with_reducible rfl)
                (try simp only [Act.put, List.setIfInBounds_toArray, List.set_cons_zero, List.set_cons_succ])
                refine wpAnyH_ready (rs := [8, 12]) (by kernel_rfl) (by simp) ?_
                refine AllReadyH.cons (o := { dst := some 64, op := _, type := _, pos := _, after := _, guard := _ }) rfl (fun K hK => ?_) ?_
                · go_simp
                  (refine (K1.out _).mono ?_; rintro e w' ⟨rfl, hb⟩; (try replace hA := hA.call hb))
                  refine hK.out _ _ ?_ ?_
                  · (exact ⟨hHeld.1.call hb, hHeld.2.1.call hb, hHeld.2.2.after hb⟩)
                  (try clear hHeld); (try clear hb)
                  intro hHeld
                  clear hK K
                  (try simp only [Act.put, List.setIfInBounds_toArray, List.set_cons_zero, List.set_cons_succ])
                  refine wpAnyH_take (i := 9) (oi := { dst := some 55, op := _, type := _, pos := _, after := _, guard := _ }) (v := ?_) rfl (by kernel_rfl) (by kernel_rfl) (by kernel_rfl) (fun _ _ _ h => h) (Or.inl ⟨by rfl, ?_⟩) (by assumption) ?_
                  rotate_left
                  · intro w hSw; (try dsimp only at hSw); obtain ⟨k1, k2, _⟩ := hSw; obtain ⟨a0, a1, a2, a3, a4, a5, a6, a7⟩ := H1.out.cells k1 hlt; obtain ⟨c0, c1, c2, c3, c4, c5, c6, c7⟩ := H2.out.cells k2 hlt; have z1 := k1.lt; have z2 := k2.lt;go_simp; (try with_reducible rfl)
                  (try simp only [Act.put, List.setIfInBounds_toArray, List.set_cons_zero, List.set_cons_succ])
                  refine wpAnyH_take (i := 10) (oi := { dst := some 65, op := _, type := _, pos := _, after := _, guard := _ }) (v := ?_) rfl (by kernel_rfl) (by kernel_rfl) (by kernel_rfl) (fun _ _ _ h => h) (Or.inl ⟨by rfl, ?_⟩) (by assumption) ?_
                  rotate_left
                  · intro w hSw; (try dsimp only at hSw); obtain ⟨k1, k2, _⟩ := hSw; obtain ⟨a0, a1, a2, a3, a4, a5, a6, a7⟩ := H1.out.cells k1 hlt; obtain ⟨c0, c1, c2, c3, c4, c5, c6, c7⟩ := H2.out.cells k2 hlt; have z1 := k1.lt; have z2 := k2.lt;go_simp; (try with_reducible rfl)
                  (try simp only [Act.put, List.setIfInBounds_toArray, List.set_cons_zero, List.set_cons_succ])
                  refine wpAnyH_take (i := 11) (oi := { dst := some 66, op := _, type := _, pos := _, after := _, guard := _ }) (v := ?_) rfl (by kernel_rfl) (by kernel_rfl) (by kernel_rfl) (fun _ _ _ h => h) (Or.inl ⟨by rfl, ?_⟩) (by assumption) ?_
                  rotate_left
                  · intro w hSw; (try dsimp only at hSw); obtain ⟨k1, k2, _⟩ := hSw; obtain ⟨a0, a1, a2, a3, a4, a5, a6, a7⟩ := H1.out.cells k1 hlt; obtain ⟨c0, c1, c2, c3, c4, c5, c6, c7⟩ := H2.out.cells k2 hlt; have z1 := k1.lt; have z2 := k2.lt;go_simp; (try with_reducible rfl)
                  (try simp only [Act.put, List.setIfInBounds_toArray, List.set_cons_zero, List.set_cons_succ])
                  refine wpAnyH_ready (rs := [12]) (by kernel_rfl) (by simp) ?_
                  refine AllReadyH.cons (o := { dst := some 13, op := _, type := _, pos := _, after := _, guard := _ }) rfl (fun K hK => ?_) AllReadyH.nil
                  (have hN1 := hHeld.2.2.2.size; have hN2 := hHeld.1.lt; have hN3 := hHeld.2.1.lt; (try simp only [World.drew] at hN1 hN2 hN3))
                  go_simp
                  first | refine out_alloc hK _ _ _ _ ?_ (fun hHeld hA => ?_) | refine out_alloc_drew hK _ _ _ _ ?_ (fun hHeld hA => ?_)
                  · exact ⟨hHeld.1.alloc _, hHeld.2.1.alloc _, hHeld.2.2.new _⟩
                  clear hK K
                  (try simp only [Act.put, List.setIfInBounds_toArray, List.set_cons_zero, List.set_cons_succ])
                  obtain ⟨bA, hbA⟩ : ∃ b, Blk.num hA = b := ⟨_, rfl⟩
                  obtain ⟨W, hW⟩ : ∃ V, Blk.wld hA = V := ⟨_, rfl⟩
                  simp only [Blk.num] at hbA
                  simp only [Blk.wld] at hW
                  rw [hW] at hHeld hA ⊢
                  rw [hbA] at hA ⊢
                  replace hN1 : w1.heap.size ≤ bA := (by rw [← hbA]; exact hN1)
                  replace hN2 : b1 < bA := (by rw [← hbA]; exact hN2)
                  replace hN3 : b2 < bA := (by rw [← hbA]; exact hN3)
                  clear hW hbA
                  exact X1  bA W ⟨hHeld, hA, hN1, hN2, hN3⟩
                refine AllReadyH.cons (o := { dst := some 13, op := _, type := _, pos := _, after := _, guard := _ }) rfl (fun K hK => ?_) ?_
                · (have hN1 := hHeld.2.2.2.size; have hN2 := hHeld.1.lt; have hN3 := hHeld.2.1.lt; (try simp only [World.drew] at hN1 hN2 hN3))
                  go_simp
                  first | refine out_alloc hK _ _ _ _ ?_ (fun hHeld hA => ?_) | refine out_alloc_drew hK _ _ _ _ ?_ (fun hHeld hA => ?_)
                  · exact ⟨hHeld.1.alloc _, hHeld.2.1.alloc _, hHeld.2.2.new _⟩
                  clear hK K
                  (try simp only [Act.put, List.setIfInBounds_toArray, List.set_cons_zero, List.set_cons_succ])
                  obtain ⟨bA, hbA⟩ : ∃ b, Blk.num hA = b := ⟨_, rfl⟩
                  obtain ⟨W, hW⟩ : ∃ V, Blk.wld hA = V := ⟨_, rfl⟩
                  simp only [Blk.num] at hbA
                  simp only [Blk.wld] at hW
                  rw [hW] at hHeld hA ⊢
                  rw [hbA] at hA ⊢
                  replace hN1 : w1.heap.size ≤ bA := (by rw [← hbA]; exact hN1)
                  replace hN2 : b1 < bA := (by rw [← hbA]; exact hN2)
                  replace hN3 : b2 < bA := (by rw [← hbA]; exact hN3)
                  clear hW hbA
                  exact X0  bA W ⟨hHeld, hA, hN1, hN2, hN3⟩
                exact AllReadyH.nil
              · intro bA W hall
                obtain ⟨hHeld, hA, hN1, hN2, hN3⟩ := hall
                (try dsimp only at hHeld)
                refine wpAnyH_ready (rs := [8]) (by kernel_rfl) (by simp) ?_
                refine AllReadyH.cons (o := { dst := some 64, op := _, type := _, pos := _, after := _, guard := _ }) rfl (fun K hK => ?_) AllReadyH.nil
                go_simp
                (refine (K1.out _).mono ?_; rintro e w' ⟨rfl, hb⟩; (try replace hA := hA.call hb))
                refine hK.out _ _ ?_ ?_
                · (exact ⟨hHeld.1.call hb, hHeld.2.1.call hb, hHeld.2.2.after hb⟩)
                (try clear hHeld); (try clear hb)
                intro hHeld
                clear hK K
                (try simp only [Act.put, List.setIfInBounds_toArray, List.set_cons_zero, List.set_cons_succ])
                refine wpAnyH_take (i := 9) (oi := { dst := some 55, op := _, type := _, pos := _, after := _, guard := _ }) (v := ?_) rfl (by kernel_rfl) (by kernel_rfl) (by kernel_rfl) (fun _ _ _ h => h) (Or.inl ⟨by rfl, ?_⟩) (by assumption) ?_
                rotate_left
                · intro w hSw; (try dsimp only at hSw); obtain ⟨k1, k2, _⟩ := hSw; obtain ⟨a0, a1, a2, a3, a4, a5, a6, a7⟩ := H1.out.cells k1 hlt; obtain ⟨c0, c1, c2, c3, c4, c5, c6, c7⟩ := H2.out.cells k2 hlt; have z1 := k1.lt; have z2 := k2.lt;go_simp; (try with_reducible rfl)
                (try simp only [Act.put, List.setIfInBounds_toArray, List.set_cons_zero, List.set_cons_succ])
                refine wpAnyH_take (i := 10) (oi := { dst := some 65, op := _, type := _, pos := _, after := _, guard := _ }) (v := ?_) rfl (by kernel_rfl) (by kernel_rfl) (by kernel_rfl) (fun _ _ _ h => h) (Or.inl ⟨by rfl, ?_⟩) (by assumption) ?_
                rotate_left
                · intro w hSw; (try dsimp only at hSw); obtain ⟨k1, k2, _⟩ := hSw; obtain ⟨a0, a1, a2, a3, a4, a5, a6, a7⟩ := H1.out.cells k1 hlt; obtain ⟨c0, c1, c2, c3, c4, c5, c6, c7⟩ := H2.out.cells k2 hlt; have z1 := k1.lt; have z2 := k2.lt;go_simp; (try with_reducible rfl)
                (try simp only [Act.put, List.setIfInBounds_toArray, List.set_cons_zero, List.set_cons_succ])
                refine wpAnyH_take (i := 11) (oi := { dst := some 66, op := _, type := _, pos := _, after := _, guard := _ }) (v := ?_) rfl (by kernel_rfl) (by kernel_rfl) (by kernel_rfl) (fun _ _ _ h => h) (Or.inl ⟨by rfl, ?_⟩) (by assumption) ?_
                rotate_left
                · intro w hSw; (try dsimp only at hSw); obtain ⟨k1, k2, _⟩ := hSw; obtain ⟨a0, a1, a2, a3, a4, a5, a6, a7⟩ := H1.out.cells k1 hlt; obtain ⟨c0, c1, c2, c3, c4, c5, c6, c7⟩ := H2.out.cells k2 hlt; have z1 := k1.lt; have z2 := k2.lt;go_simp; (try with_reducible rfl)
                (try simp only [Act.put, List.setIfInBounds_toArray, List.set_cons_zero, List.set_cons_succ])
                exact X1  bA w' ⟨hHeld, hA, hN1, hN2, hN3⟩
            · intro bA W hall
              obtain ⟨hHeld, hA, hN1, hN2, hN3⟩ := hall
              (try dsimp only at hHeld)
              refine wpAnyH_ready (rs := [13]) (by kernel_rfl) (by simp) ?_
              refine AllReadyH.cons (o := { dst := none, op := _, type := _, pos := _, after := _, guard := _ }) rfl (fun K hK => ?_) AllReadyH.nil
              obtain ⟨h1, h2, hD⟩ := hHeld
              obtain ⟨r0, r1, r2, r3, r4, r5, r6, r7⟩ := hA.c8
              have fr0 := hA.free 0
              have fr1 := hA.free 1
              have fr2 := hA.free 2
              have fr3 := hA.free 3
              have fr4 := hA.free 4
              have fr5 := hA.free 5
              have fr6 := hA.free 6
              have fr7 := hA.free 7
              have zR := hA.lt
              have HS := Lib.hid (hA.set8 (.int .i64 v.b0) (.int .i64 v.b1) (.int .i64 v.w0) (.int .i64 v.w1) (.int .i64 v.q0) (.int .i64 v.q1) (.int .i64 v.s0) (.int .i64 v.s1))
              have HD := Lib.hid (hD.set8 hN1 hb1 (.int .i64 v.b0) (.int .i64 v.b1) (.int .i64 v.w0) (.int .i64 v.w1) (.int .i64 v.q0) (.int .i64 v.q1) (.int .i64 v.s0) (.int .i64 v.s1))
              go_simp
              refine hK.out _ _ ?_ ?_
              · with_reducible exact ⟨h1.other8 (by omega) _ _ _ _ _ _ _ _, h2.other8 (by omega) _ _ _ _ _ _ _ _, HD.out⟩
              (try clear hHeld); (try clear hb)
              intro hHeld
              clear hK K
              (try simp only [Act.put, List.setIfInBounds_toArray, List.set_cons_zero, List.set_cons_succ])
              refine wpAnyH_take (i := 14) (oi := { dst := some 14, op := _, type := _, pos := _, after := _, guard := _ }) (v := ?_) rfl (by kernel_rfl) (by kernel_rfl) (by kernel_rfl) (fun _ _ _ h => h) (Or.inl ⟨by rfl, ?_⟩) (by assumption) ?_
              rotate_left
              · intro w hSw; (try dsimp only at hSw); obtain ⟨k1, k2, _⟩ := hSw; obtain ⟨a0, a1, a2, a3, a4, a5, a6, a7⟩ := H1.out.cells k1 hlt; obtain ⟨c0, c1, c2, c3, c4, c5, c6, c7⟩ := H2.out.cells k2 hlt; have z1 := k1.lt; have z2 := k2.lt;go_simp; (try with_reducible rfl)
              (try simp only [Act.put, List.setIfInBounds_toArray, List.set_cons_zero, List.set_cons_succ])
              refine wpAnyH_done (by kernel_rfl) ?_ _
              (try dsimp only [Act.put])
              (try simp only [Act.put, List.setIfInBounds_toArray, List.set_cons_zero, List.set_cons_succ])
              clear hA r0 r1 r2 r3 r4 r5 r6 r7 fr0 fr1 fr2 fr3 fr4 fr5 fr6 fr7 zR hD h1 h2
              go_wp2_with fail
              go_meet
              exact ⟨_, rfl, rfl, HS.out, hHeld.1, hHeld.2.1, hHeld.2.2⟩
          case rest =>
            obtain ⟨bE, rfl, rfl, jE, j1, j2, hA⟩ := hcut
            clear K1
            go_upto_region 10 with fail
            go_cut [15, 16] (fun s15 s16 wx => ∃ bA : Nat, s15 = .pointer (some ⟨bA, 0, none⟩) ∧ s16 = .int .i64 E ∧ Blk wx bA #[.int .i64 v.b0, .int .i64 v.b1, .int .i64 v.w0, .int .i64 v.w1, .int .i64 v.q0, .int .i64 v.q1, .int .i64 v.s0, .int .i64 v.s1] 28 ∧ Blk wx b1 C1 28 ∧ Blk wx b2 C2 28 ∧ Blk wx bE #[.int .i64 v.b0, .int .i64 v.b1, .int .i64 v.w0, .int .i64 v.w1, .int .i64 v.q0, .int .i64 v.q1, .int .i64 v.s0, .int .i64 v.s1] 28 ∧ Drawn bs w1 wx)
            case first =>
              refine wp_region_held_drew (S := (fun w' => Blk w' b1 C1 28 ∧ Blk w' b2 C2 28 ∧ Blk w' bE #[.int .i64 v.b0, .int .i64 v.b1, .int .i64 v.w0, .int .i64 v.w1, .int .i64 v.q0, .int .i64 v.q1, .int .i64 v.s0, .int .i64 v.s1] 28 ∧ Drawn bs w1 w')) (by kernel_rfl) ?_ (fun hHeld => ?_)
              · (try dsimp only); (exact ⟨j1.drew, j2.drew, jE.drew, hA.trans (Drawn.drew hA.seed)⟩)
              apply share0 (fun (bA : Nat) (W : World) => (fun w' => Blk w' b1 C1 28 ∧ Blk w' b2 C2 28 ∧ Blk w' bE #[.int .i64 v.b0, .int .i64 v.b1, .int .i64 v.w0, .int .i64 v.w1, .int .i64 v.q0, .int .i64 v.q1, .int .i64 v.s0, .int .i64 v.s1] 28 ∧ Drawn bs w1 w') W ∧ Blk W bA #[.int .i64 0, .int .i64 0, .int .i64 0, .int .i64 0, .int .i64 0, .int .i64 0, .int .i64 0, .int .i64 0] 28 ∧ (w1.heap.size ≤ bA) ∧ (b1 < bA) ∧ (b2 < bA) ∧ (bE < bA))
              · intro X1
                apply share0 (fun (bA : Nat) (W : World) => (fun w' => Blk w' b1 C1 28 ∧ Blk w' b2 C2 28 ∧ Blk w' bE #[.int .i64 v.b0, .int .i64 v.b1, .int .i64 v.w0, .int .i64 v.w1, .int .i64 v.q0, .int .i64 v.q1, .int .i64 v.s0, .int .i64 v.s1] 28 ∧ Drawn bs w1 w') W ∧ Blk W bA #[.int .i64 0, .int .i64 0, .int .i64 0, .int .i64 0, .int .i64 0, .int .i64 0, .int .i64 0, .int .i64 0] 28 ∧ (w1.heap.size ≤ bA) ∧ (b1 < bA) ∧ (b2 < bA) ∧ (bE < bA))
                · intro X0
                  refine wpAnyH_take (i := 0) (oi := { dst := some 68, op := _, type := _, pos := _, after := _, guard := _ }) (v := ?_) rfl (by kernel_rfl) (by kernel_rfl) (by kernel_rfl) (fun _ _ _ h => h) (Or.inl ⟨by rfl, ?_⟩) (by assumption) ?_
                  rotate_left
                  · intro w hSw; (try dsimp only at hSw); obtain ⟨k1, k2, _, _⟩ := hSw; obtain ⟨a0, a1, a2, a3, a4, a5, a6, a7⟩ := H1.out.cells k1 hlt; obtain ⟨c0, c1, c2, c3, c4, c5, c6, c7⟩ := H2.out.cells k2 hlt; have z1 := k1.lt; have z2 := k2.lt;go_simp; (try with_reducible rfl)
                  (try simp only [Act.put, List.setIfInBounds_toArray, List.set_cons_zero, List.set_cons_succ])
                  refine wpAnyH_take (i := 1) (oi := { dst := some 69, op := _, type := _, pos := _, after := _, guard := _ }) (v := ?_) rfl (by kernel_rfl) (by kernel_rfl) (by kernel_rfl) (fun _ _ _ h => h) (Or.inl ⟨by rfl, ?_⟩) (by assumption) ?_
                  rotate_left
                  · intro w hSw; (try dsimp only at hSw); obtain ⟨k1, k2, _, _⟩ := hSw; obtain ⟨a0, a1, a2, a3, a4, a5, a6, a7⟩ := H1.out.cells k1 hlt; obtain ⟨c0, c1, c2, c3, c4, c5, c6, c7⟩ := H2.out.cells k2 hlt; have z1 := k1.lt; have z2 := k2.lt;go_simp; (try with_reducible rfl)
                  (try simp only [Act.put, List.setIfInBounds_toArray, List.set_cons_zero, List.set_cons_succ])
                  refine wpAnyH_take (i := 2) (oi := { dst := some 70, op := _, type := _, pos := _, after := _, guard := _ }) (v := ?_) rfl (by kernel_rfl) (by kernel_rfl) (by kernel_rfl) (fun _ _ _ h => h) (Or.inl ⟨by rfl, ?_⟩) (by assumption) ?_
                  rotate_left
                  · intro w hSw; (try dsimp only at hSw); obtain ⟨k1, k2, _, _⟩ := hSw; obtain ⟨a0, a1, a2, a3, a4, a5, a6, a7⟩ := H1.out.cells k1 hlt; obtain ⟨c0, c1, c2, c3, c4, c5, c6, c7⟩ := H2.out.cells k2 hlt; have z1 := k1.lt; have z2 := k2.lt;go_simp; (try with_reducible rfl)
                  (try simp only [Act.put, List.setIfInBounds_toArray, List.set_cons_zero, List.set_cons_succ])
                  refine wpAnyH_take (i := 3) (oi := { dst := some 71, op := _, type := _, pos := _, after := _, guard := _ }) (v := ?_) rfl (by kernel_rfl) (by kernel_rfl) (by kernel_rfl) (fun _ _ _ h => h) (Or.inl ⟨by rfl, ?_⟩) (by assumption) ?_
                  rotate_left
                  · intro w hSw; (try dsimp only at hSw); obtain ⟨k1, k2, _, _⟩ := hSw; obtain ⟨a0, a1, a2, a3, a4, a5, a6, a7⟩ := H1.out.cells k1 hlt; obtain ⟨c0, c1, c2, c3, c4, c5, c6, c7⟩ := H2.out.cells k2 hlt; have z1 := k1.lt; have z2 := k2.lt;go_simp; (try with_reducible rfl)
                  (try simp only [Act.put, List.setIfInBounds_toArray, List.set_cons_zero, List.set_cons_succ])
                  refine wpAnyH_take (i := 4) (oi := { dst := some 72, op := _, type := _, pos := _, after := _, guard := _ }) (v := ?_) rfl (by kernel_rfl) (by kernel_rfl) (by kernel_rfl) (fun _ _ _ h => h) (Or.inl ⟨by rfl, ?_⟩) (by assumption) ?_
                  rotate_left
                  · intro w hSw; (try dsimp only at hSw); obtain ⟨k1, k2, _, _⟩ := hSw; obtain ⟨a0, a1, a2, a3, a4, a5, a6, a7⟩ := H1.out.cells k1 hlt; obtain ⟨c0, c1, c2, c3, c4, c5, c6, c7⟩ := H2.out.cells k2 hlt; have z1 := k1.lt; have z2 := k2.lt;go_simp; (try with_reducible rfl)
                  (try simp only [Act.put, List.setIfInBounds_toArray, List.set_cons_zero, List.set_cons_succ])
                  refine wpAnyH_take (i := 5) (oi := { dst := some 73, op := _, type := _, pos := _, after := _, guard := _ }) (v := ?_) rfl (by kernel_rfl) (by kernel_rfl) (by kernel_rfl) (fun _ _ _ h => h) (Or.inl ⟨by rfl, ?_⟩) (by assumption) ?_
                  rotate_left
                  · intro w hSw; (try dsimp only at hSw); obtain ⟨k1, k2, _, _⟩ := hSw; obtain ⟨a0, a1, a2, a3, a4, a5, a6, a7⟩ := H1.out.cells k1 hlt; obtain ⟨c0, c1, c2, c3, c4, c5, c6, c7⟩ := H2.out.cells k2 hlt; have z1 := k1.lt; have z2 := k2.lt;go_simp; (try with_reducible rfl)
                  (try simp only [Act.put, List.setIfInBounds_toArray, List.set_cons_zero, List.set_cons_succ])
                  refine wpAnyH_take (i := 6) (oi := { dst := some 74, op := _, type := _, pos := _, after := _, guard := _ }) (v := ?_) rfl (by kernel_rfl) (by kernel_rfl) (by kernel_rfl) (fun _ _ _ h => h) (Or.inl ⟨by rfl, ?_⟩) (by assumption) ?_
                  rotate_left
                  · intro w hSw; (try dsimp only at hSw); obtain ⟨k1, k2, _, _⟩ := hSw; obtain ⟨a0, a1, a2, a3, a4, a5, a6, a7⟩ := H1.out.cells k1 hlt; obtain ⟨c0, c1, c2, c3, c4, c5, c6, c7⟩ := H2.out.cells k2 hlt; have z1 := k1.lt; have z2 := k2.lt;go_simp; (try with_reducible rfl)
                  (try simp only [Act.put, List.setIfInBounds_toArray, List.set_cons_zero, List.set_cons_succ])
                  refine wpAnyH_take (i := 7) (oi := { dst := some 75, op := _, type := _, pos := _, after := _, guard := _ }) (v := ?_) rfl (by kernel_rfl) (by kernel_rfl) (by kernel_rfl) (fun _ _ _ h => h) (Or.inl ⟨by rfl, ?_⟩) (by assumption) ?_
                  rotate_left
                  · intro w hSw; (try dsimp only at hSw); obtain ⟨k1, k2, _, _⟩ := hSw; obtain ⟨a0, a1, a2, a3, a4, a5, a6, a7⟩ := H1.out.cells k1 hlt; obtain ⟨c0, c1, c2, c3, c4, c5, c6, c7⟩ := H2.out.cells k2 hlt; have z1 := k1.lt; have z2 := k2.lt;go_simp; (try with_reducible rfl)
                  (try simp only [Act.put, List.setIfInBounds_toArray, List.set_cons_zero, List.set_cons_succ])
                  refine wpAnyH_ready (rs := [8, 12]) (by kernel_rfl) (by simp) ?_
                  refine AllReadyH.cons (o := { dst := some 76, op := _, type := _, pos := _, after := _, guard := _ }) rfl (fun K hK => ?_) ?_
                  · go_simp
                    (refine (K2.out _).mono ?_; rintro e w' ⟨rfl, hb⟩; (try replace hA := hA.call hb))
                    refine hK.out _ _ ?_ ?_
                    · (exact ⟨hHeld.1.call hb, hHeld.2.1.call hb, hHeld.2.2.1.call hb, hHeld.2.2.2.after hb⟩)
                    (try clear hHeld); (try clear hb)
                    intro hHeld
                    clear hK K
                    (try simp only [Act.put, List.setIfInBounds_toArray, List.set_cons_zero, List.set_cons_succ])
                    refine wpAnyH_take (i := 9) (oi := { dst := some 67, op := _, type := _, pos := _, after := _, guard := _ }) (v := ?_) rfl (by kernel_rfl) (by kernel_rfl) (by kernel_rfl) (fun _ _ _ h => h) (Or.inl ⟨by rfl, ?_⟩) (by assumption) ?_
                    rotate_left
                    · intro w hSw; (try dsimp only at hSw); obtain ⟨k1, k2, _, _⟩ := hSw; obtain ⟨a0, a1, a2, a3, a4, a5, a6, a7⟩ := H1.out.cells k1 hlt; obtain ⟨c0, c1, c2, c3, c4, c5, c6, c7⟩ := H2.out.cells k2 hlt; have z1 := k1.lt; have z2 := k2.lt;go_simp; (try with_reducible rfl)
                    (try simp only [Act.put, List.setIfInBounds_toArray, List.set_cons_zero, List.set_cons_succ])
                    refine wpAnyH_take (i := 10) (oi := { dst := some 77, op := _, type := _, pos := _, after := _, guard := _ }) (v := ?_) rfl (by kernel_rfl) (by kernel_rfl) (by kernel_rfl) (fun _ _ _ h => h) (Or.inl ⟨by rfl, ?_⟩) (by assumption) ?_
                    rotate_left
                    · intro w hSw; (try dsimp only at hSw); obtain ⟨k1, k2, _, _⟩ := hSw; obtain ⟨a0, a1, a2, a3, a4, a5, a6, a7⟩ := H1.out.cells k1 hlt; obtain ⟨c0, c1, c2, c3, c4, c5, c6, c7⟩ := H2.out.cells k2 hlt; have z1 := k1.lt; have z2 := k2.lt;go_simp; (try with_reducible rfl)
                    (try simp only [Act.put, List.setIfInBounds_toArray, List.set_cons_zero, List.set_cons_succ])
                    refine wpAnyH_take (i := 11) (oi := { dst := some 78, op := _, type := _, pos := _, after := _, guard := _ }) (v := ?_) rfl (by kernel_rfl) (by kernel_rfl) (by kernel_rfl) (fun _ _ _ h => h) (Or.inl ⟨by rfl, ?_⟩) (by assumption) ?_
                    rotate_left
                    · intro w hSw; (try dsimp only at hSw); obtain ⟨k1, k2, _, _⟩ := hSw; obtain ⟨a0, a1, a2, a3, a4, a5, a6, a7⟩ := H1.out.cells k1 hlt; obtain ⟨c0, c1, c2, c3, c4, c5, c6, c7⟩ := H2.out.cells k2 hlt; have z1 := k1.lt; have z2 := k2.lt;go_simp; (try with_reducible rfl)
                    (try simp only [Act.put, List.setIfInBounds_toArray, List.set_cons_zero, List.set_cons_succ])
                    refine wpAnyH_ready (rs := [12]) (by kernel_rfl) (by simp) ?_
                    refine AllReadyH.cons (o := { dst := some 15, op := _, type := _, pos := _, after := _, guard := _ }) rfl (fun K hK => ?_) AllReadyH.nil
                    (have hN1 := hHeld.2.2.2.2.size; have hN2 := hHeld.1.lt; have hN3 := hHeld.2.1.lt; have hN4 := hHeld.2.2.1.lt; (try simp only [World.drew] at hN1 hN2 hN3 hN4))
                    go_simp
                    first | refine out_alloc hK _ _ _ _ ?_ (fun hHeld hA => ?_) | refine out_alloc_drew hK _ _ _ _ ?_ (fun hHeld hA => ?_)
                    · exact ⟨hHeld.1.alloc _, hHeld.2.1.alloc _, hHeld.2.2.1.alloc _, hHeld.2.2.2.new _⟩
                    clear hK K
                    (try simp only [Act.put, List.setIfInBounds_toArray, List.set_cons_zero, List.set_cons_succ])
                    obtain ⟨bA, hbA⟩ : ∃ b, Blk.num hA = b := ⟨_, rfl⟩
                    obtain ⟨W, hW⟩ : ∃ V, Blk.wld hA = V := ⟨_, rfl⟩
                    simp only [Blk.num] at hbA
                    simp only [Blk.wld] at hW
                    rw [hW] at hHeld hA ⊢
                    rw [hbA] at hA ⊢
                    replace hN1 : w1.heap.size ≤ bA := (by rw [← hbA]; exact hN1)
                    replace hN2 : b1 < bA := (by rw [← hbA]; exact hN2)
                    replace hN3 : b2 < bA := (by rw [← hbA]; exact hN3)
                    replace hN4 : bE < bA := (by rw [← hbA]; exact hN4)
                    clear hW hbA
                    exact X1  bA W ⟨hHeld, hA, hN1, hN2, hN3, hN4⟩
                  refine AllReadyH.cons (o := { dst := some 15, op := _, type := _, pos := _, after := _, guard := _ }) rfl (fun K hK => ?_) ?_
                  · (have hN1 := hHeld.2.2.2.2.size; have hN2 := hHeld.1.lt; have hN3 := hHeld.2.1.lt; have hN4 := hHeld.2.2.1.lt; (try simp only [World.drew] at hN1 hN2 hN3 hN4))
                    go_simp
                    first | refine out_alloc hK _ _ _ _ ?_ (fun hHeld hA => ?_) | refine out_alloc_drew hK _ _ _ _ ?_ (fun hHeld hA => ?_)
                    · exact ⟨hHeld.1.alloc _, hHeld.2.1.alloc _, hHeld.2.2.1.alloc _, hHeld.2.2.2.new _⟩
                    clear hK K
                    (try simp only [Act.put, List.setIfInBounds_toArray, List.set_cons_zero, List.set_cons_succ])
                    obtain ⟨bA, hbA⟩ : ∃ b, Blk.num hA = b := ⟨_, rfl⟩
                    obtain ⟨W, hW⟩ : ∃ V, Blk.wld hA = V := ⟨_, rfl⟩
                    simp only [Blk.num] at hbA
                    simp only [Blk.wld] at hW
                    rw [hW] at hHeld hA ⊢
                    rw [hbA] at hA ⊢
                    replace hN1 : w1.heap.size ≤ bA := (by rw [← hbA]; exact hN1)
                    replace hN2 : b1 < bA := (by rw [← hbA]; exact hN2)
                    replace hN3 : b2 < bA := (by rw [← hbA]; exact hN3)
                    replace hN4 : bE < bA := (by rw [← hbA]; exact hN4)
                    clear hW hbA
                    exact X0  bA W ⟨hHeld, hA, hN1, hN2, hN3, hN4⟩
                  exact AllReadyH.nil
                · intro bA W hall
                  obtain ⟨hHeld, hA, hN1, hN2, hN3, hN4⟩ := hall
                  (try dsimp only at hHeld)
                  refine wpAnyH_ready (rs := [8]) (by kernel_rfl) (by simp) ?_
                  refine AllReadyH.cons (o := { dst := some 76, op := _, type := _, pos := _, after := _, guard := _ }) rfl (fun K hK => ?_) AllReadyH.nil
                  go_simp
                  (refine (K2.out _).mono ?_; rintro e w' ⟨rfl, hb⟩; (try replace hA := hA.call hb))
                  refine hK.out _ _ ?_ ?_
                  · (exact ⟨hHeld.1.call hb, hHeld.2.1.call hb, hHeld.2.2.1.call hb, hHeld.2.2.2.after hb⟩)
                  (try clear hHeld); (try clear hb)
                  intro hHeld
                  clear hK K
                  (try simp only [Act.put, List.setIfInBounds_toArray, List.set_cons_zero, List.set_cons_succ])
                  refine wpAnyH_take (i := 9) (oi := { dst := some 67, op := _, type := _, pos := _, after := _, guard := _ }) (v := ?_) rfl (by kernel_rfl) (by kernel_rfl) (by kernel_rfl) (fun _ _ _ h => h) (Or.inl ⟨by rfl, ?_⟩) (by assumption) ?_
                  rotate_left
                  · intro w hSw; (try dsimp only at hSw); obtain ⟨k1, k2, _, _⟩ := hSw; obtain ⟨a0, a1, a2, a3, a4, a5, a6, a7⟩ := H1.out.cells k1 hlt; obtain ⟨c0, c1, c2, c3, c4, c5, c6, c7⟩ := H2.out.cells k2 hlt; have z1 := k1.lt; have z2 := k2.lt;go_simp; (try with_reducible rfl)
                  (try simp only [Act.put, List.setIfInBounds_toArray, List.set_cons_zero, List.set_cons_succ])
                  refine wpAnyH_take (i := 10) (oi := { dst := some 77, op := _, type := _, pos := _, after := _, guard := _ }) (v := ?_) rfl (by kernel_rfl) (by kernel_rfl) (by kernel_rfl) (fun _ _ _ h => h) (Or.inl ⟨by rfl, ?_⟩) (by assumption) ?_
                  rotate_left
                  · intro w hSw; (try dsimp only at hSw); obtain ⟨k1, k2, _, _⟩ := hSw; obtain ⟨a0, a1, a2, a3, a4, a5, a6, a7⟩ := H1.out.cells k1 hlt; obtain ⟨c0, c1, c2, c3, c4, c5, c6, c7⟩ := H2.out.cells k2 hlt; have z1 := k1.lt; have z2 := k2.lt;go_simp; (try with_reducible rfl)
                  (try simp only [Act.put, List.setIfInBounds_toArray, List.set_cons_zero, List.set_cons_succ])
                  refine wpAnyH_take (i := 11) (oi := { dst := some 78, op := _, type := _, pos := _, after := _, guard := _ }) (v := ?_) rfl (by kernel_rfl) (by kernel_rfl) (by kernel_rfl) (fun _ _ _ h => h) (Or.inl ⟨by rfl, ?_⟩) (by assumption) ?_
                  rotate_left
                  · intro w hSw; (try dsimp only at hSw); obtain ⟨k1, k2, _, _⟩ := hSw; obtain ⟨a0, a1, a2, a3, a4, a5, a6, a7⟩ := H1.out.cells k1 hlt; obtain ⟨c0, c1, c2, c3, c4, c5, c6, c7⟩ := H2.out.cells k2 hlt; have z1 := k1.lt; have z2 := k2.lt;go_simp; (try with_reducible rfl)
                  (try simp only [Act.put, List.setIfInBounds_toArray, List.set_cons_zero, List.set_cons_succ])
                  exact X1  bA w' ⟨hHeld, hA, hN1, hN2, hN3, hN4⟩
              · intro bA W hall
                obtain ⟨hHeld, hA, hN1, hN2, hN3, hN4⟩ := hall
                (try dsimp only at hHeld)
                refine wpAnyH_ready (rs := [13]) (by kernel_rfl) (by simp) ?_
                refine AllReadyH.cons (o := { dst := none, op := _, type := _, pos := _, after := _, guard := _ }) rfl (fun K hK => ?_) AllReadyH.nil
                obtain ⟨h1, h2, h3, hD⟩ := hHeld
                obtain ⟨r0, r1, r2, r3, r4, r5, r6, r7⟩ := hA.c8
                have fr0 := hA.free 0
                have fr1 := hA.free 1
                have fr2 := hA.free 2
                have fr3 := hA.free 3
                have fr4 := hA.free 4
                have fr5 := hA.free 5
                have fr6 := hA.free 6
                have fr7 := hA.free 7
                have zR := hA.lt
                have HS := Lib.hid (hA.set8 (.int .i64 v.b0) (.int .i64 v.b1) (.int .i64 v.w0) (.int .i64 v.w1) (.int .i64 v.q0) (.int .i64 v.q1) (.int .i64 v.s0) (.int .i64 v.s1))
                have HD := Lib.hid (hD.set8 hN1 hb1 (.int .i64 v.b0) (.int .i64 v.b1) (.int .i64 v.w0) (.int .i64 v.w1) (.int .i64 v.q0) (.int .i64 v.q1) (.int .i64 v.s0) (.int .i64 v.s1))
                go_simp
                refine hK.out _ _ ?_ ?_
                · with_reducible exact ⟨h1.other8 (by omega) _ _ _ _ _ _ _ _, h2.other8 (by omega) _ _ _ _ _ _ _ _, h3.other8 (by omega) _ _ _ _ _ _ _ _, HD.out⟩
                (try clear hHeld); (try clear hb)
                intro hHeld
                clear hK K
                (try simp only [Act.put, List.setIfInBounds_toArray, List.set_cons_zero, List.set_cons_succ])
                refine wpAnyH_take (i := 14) (oi := { dst := some 16, op := _, type := _, pos := _, after := _, guard := _ }) (v := ?_) rfl (by kernel_rfl) (by kernel_rfl) (by kernel_rfl) (fun _ _ _ h => h) (Or.inl ⟨by rfl, ?_⟩) (by assumption) ?_
                rotate_left
                · intro w hSw; (try dsimp only at hSw); obtain ⟨k1, k2, _, _⟩ := hSw; obtain ⟨a0, a1, a2, a3, a4, a5, a6, a7⟩ := H1.out.cells k1 hlt; obtain ⟨c0, c1, c2, c3, c4, c5, c6, c7⟩ := H2.out.cells k2 hlt; have z1 := k1.lt; have z2 := k2.lt;go_simp; (try with_reducible rfl)
                (try simp only [Act.put, List.setIfInBounds_toArray, List.set_cons_zero, List.set_cons_succ])
                refine wpAnyH_done (by kernel_rfl) ?_ _
                (try dsimp only [Act.put])
                (try simp only [Act.put, List.setIfInBounds_toArray, List.set_cons_zero, List.set_cons_succ])
                clear hA r0 r1 r2 r3 r4 r5 r6 r7 fr0 fr1 fr2 fr3 fr4 fr5 fr6 fr7 zR hD h1 h2 h3
                go_wp2_with fail
                go_meet
                exact ⟨_, rfl, rfl, HS.out, hHeld.1, hHeld.2.1, hHeld.2.2.1, hHeld.2.2.2⟩
    
            case rest =>
              obtain ⟨bF, rfl, rfl, jF, j1, j2, jE, hA⟩ := hcut
              clear K2
              obtain ⟨p0, p1, p2, p3, p4, p5, p6, p7⟩ := jE.c8
              obtain ⟨q0, q1, q2, q3, q4, q5, q6, q7⟩ := jF.c8
              have zE := jE.lt
              have zF := jF.lt
              go_wp2
              go_roundw
              case rel => exact ⟨k + 1, by omega, by go_num, j1, j2, hA⟩
              case measure => simp [intOf]; omega
        · go_wp2_with fail
          refine (awake_any _).mono ?_
          rintro e w9 ⟨rfl, hb⟩
          replace hA := hA.after hb
          go_wp2
          go_ret
          exact ⟨rfl, Drawn.below HB.out.2 hA HB.out.1⟩
end Go.Proofs.Ytoobgjigfmnnaaa
