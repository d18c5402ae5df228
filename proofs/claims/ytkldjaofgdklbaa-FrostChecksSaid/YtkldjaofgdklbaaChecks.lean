/-
  FrostChecks says yes: which laws and which ice are valid, roots, and a day.
-/
import Derived.Test.YtkldjaofgdklbaaTail
import Derived.Test.YtkldjaofgdklbaaMono
import Derived.Test.YtkldjaofgdklbaaBig
import Derived.Test.YtkldjaofgdklbaaAwake
import Derived.Test.YtkldjaofgdklbaaNew
set_option linter.unusedVariables false
set_option linter.unusedSimpArgs false
namespace Go.Proofs.Ytkldjaofgdklbaa
open Go.RowKit

def DyArr (C : Array Value) (m : Nat) (x : Nat → Dy) : Prop :=
  ∀ i, i < m → C[i * 6]? = some (.int .i64 (x i).c0) ∧ C[i * 6 + 1]? = some (.int .i64 (x i).c1) ∧ C[i * 6 + 2]? = some (.int .i64 (x i).f0) ∧ C[i * 6 + 3]? = some (.int .i64 (x i).f1) ∧ C[i * 6 + 4]? = some (.int .i64 (x i).wa) ∧ C[i * 6 + 5]? = some (.bool (x i).cl)
theorem big_any (gr la : Int) (va : Option Addr) (n vcap : Nat) (m0 m1 so h0 h1 : Int) (w : World) :
    Calls Try.prog 11 #[.agg #[.int .i64 gr, .int .i64 la, (.slice va n vcap), .int .i64 m0, .int .i64 m1, .int .i64 so, .int .i64 h0, .int .i64 h1], .slice none 0 0] w fun e w' => ∃ b, e = .returned (.bool b) ∧ Below w.heap.size w w' := by
  have jB : Below w.heap.size w (w.alloc (.cells #[.int .i64 gr, .int .i64 la, .slice va n vcap, .int .i64 m0, .int .i64 m1, .int .i64 so, .int .i64 h0, .int .i64 h1] 26)) := by (repeat (first | exact Below.refl _ _ | assumption | refine Below.drew ?_ | refine Below.drewN ?_ _ | refine blT ?_ | refine blU ?_))
  cases h : decide ((30 : Int) < (n : Int)) with
  | true =>
    go_enter Try.func11, Try.ntmps11
    go_wp2
    go_ret
    exact ⟨_, rfl, jB⟩
  | false =>
    go_enter Try.func11, Try.ntmps11
    go_wp2
    go_ret
    exact ⟨_, rfl, jB⟩

theorem rtI_sq_self (m : Int) (h : 0 ≤ m) : rtI (m * m) = m := by
  have a := rtI_ge h (Int.le_refl (m * m))
  have b := rtI_le h (Int.le_refl (m * m))
  omega
theorem rtI_sq_pred (m : Int) (h : 0 ≤ m) : rtI (m * m - 1) = max 0 (m - 1) := by
  by_cases h0 : m = 0
  · subst h0
    simp [rtI, rt] <;> omega
  · have e : (m - 1 + 1) * (m - 1 + 1) = m * m := by rw [Int.sub_add_cancel]
    have p : 0 < m * m := Int.mul_pos (by omega) (by omega)
    have b := rtI_lt_of (n := m * m - 1) (m := m - 1) (by omega) (by omega) (by omega)
    have q : (m - 1) * (m - 1) ≤ m * m - 1 := by
      have k := sq_add (m - 1) 1
      rw [Int.sub_add_cancel] at k
      omega
    have a := rtI_ge (t := m - 1) (by omega) q
    omega

def pickA {α : Type} (a b c d : α) (k : Nat) : α := match k with | 0 => a | 1 => b | 2 => c | _ => d
theorem lwArr4 (a b c d : Lw × Value) : LwArr #[.int .i64 a.1.gr, .int .i64 a.1.la, a.2, .int .i64 a.1.m0, .int .i64 a.1.m1, .int .i64 a.1.so, .int .i64 a.1.h0, .int .i64 a.1.h1, .int .i64 b.1.gr, .int .i64 b.1.la, b.2, .int .i64 b.1.m0, .int .i64 b.1.m1, .int .i64 b.1.so, .int .i64 b.1.h0, .int .i64 b.1.h1, .int .i64 c.1.gr, .int .i64 c.1.la, c.2, .int .i64 c.1.m0, .int .i64 c.1.m1, .int .i64 c.1.so, .int .i64 c.1.h0, .int .i64 c.1.h1, .int .i64 d.1.gr, .int .i64 d.1.la, d.2, .int .i64 d.1.m0, .int .i64 d.1.m1, .int .i64 d.1.so, .int .i64 d.1.h0, .int .i64 d.1.h1] 4 (pickA a b c d) := by
  intro k hk
  match k, hk with
  | 0, _ => exact ⟨rfl, rfl, rfl, rfl, rfl, rfl, rfl, rfl⟩
  | 1, _ => exact ⟨rfl, rfl, rfl, rfl, rfl, rfl, rfl, rfl⟩
  | 2, _ => exact ⟨rfl, rfl, rfl, rfl, rfl, rfl, rfl, rfl⟩
  | 3, _ => exact ⟨rfl, rfl, rfl, rfl, rfl, rfl, rfl, rfl⟩
theorem dyArr4 (a b c d : Dy) : DyArr #[.int .i64 a.c0, .int .i64 a.c1, .int .i64 a.f0, .int .i64 a.f1, .int .i64 a.wa, .bool a.cl, .int .i64 b.c0, .int .i64 b.c1, .int .i64 b.f0, .int .i64 b.f1, .int .i64 b.wa, .bool b.cl, .int .i64 c.c0, .int .i64 c.c1, .int .i64 c.f0, .int .i64 c.f1, .int .i64 c.wa, .bool c.cl, .int .i64 d.c0, .int .i64 d.c1, .int .i64 d.f0, .int .i64 d.f1, .int .i64 d.wa, .bool d.cl] 4 (pickA a b c d) := by
  intro k hk
  match k, hk with
  | 0, _ => exact ⟨rfl, rfl, rfl, rfl, rfl, rfl⟩
  | 1, _ => exact ⟨rfl, rfl, rfl, rfl, rfl, rfl⟩
  | 2, _ => exact ⟨rfl, rfl, rfl, rfl, rfl, rfl⟩
  | 3, _ => exact ⟨rfl, rfl, rfl, rfl, rfl, rfl⟩
theorem DyArr.cells {C : Array Value} {m : Nat} {x : Nat → Dy} (h : DyArr C m x) {w : World} {b : Nat} {t : TypeId} (hb : Blk w b C t) {k : Nat} (hk : k < m) :
    w.cell? ⟨b, k * 6, none⟩ = some (.int .i64 (x k).c0) ∧ w.cell? ⟨b, k * 6 + 1, none⟩ = some (.int .i64 (x k).c1) ∧ w.cell? ⟨b, k * 6 + 2, none⟩ = some (.int .i64 (x k).f0) ∧ w.cell? ⟨b, k * 6 + 3, none⟩ = some (.int .i64 (x k).f1) ∧ w.cell? ⟨b, k * 6 + 4, none⟩ = some (.int .i64 (x k).wa) ∧ w.cell? ⟨b, k * 6 + 5, none⟩ = some (.bool (x k).cl) := by
  obtain ⟨a0, a1, a2, a3, a4, a5⟩ := h k hk
  exact ⟨hb.cell _ a0, hb.cell _ a1, hb.cell _ a2, hb.cell _ a3, hb.cell _ a4, hb.cell _ a5⟩

theorem news_blk {W : World} {b : Nat} {d : Dy} (h : Blk W b #[.int .i64 d.c0, .int .i64 d.c1, .int .i64 d.f0, .int .i64 d.f1, .int .i64 d.wa, .bool d.cl] 30) : ∀ (j : Nat) (u : Value), (dayC d)[j]? = some u → W.cell? ((⟨b, 0, none⟩ : Addr).add j) = some u := by
  intro j u hj
  rw [addr_add, Nat.zero_add]
  exact h.cell j (by simpa [dayC] using hj)

set_option maxRecDepth 100000 in
set_option maxHeartbeats 16000000 in
theorem checks_any (l : Lw) (cv : Value) (x : Ic) (d : Dy) (n0 : Int) (a : Option Addr) (len cap : Nat) (w : World) (hc : CovAt w cv l.n l.D l.P0 l.P1) (hn0 : n0 ≤ 9223372036854775807) (hn : NumsAt w a len) :
    Calls Try.prog 3 #[.agg #[.int .i64 l.gr, .int .i64 l.la, cv, .int .i64 l.m0, .int .i64 l.m1, .int .i64 l.so, .int .i64 l.h0, .int .i64 l.h1], .agg #[.int .i64 x.b0, .int .i64 x.b1, .int .i64 x.w0, .int .i64 x.w1, .int .i64 x.q0, .int .i64 x.q1, .int .i64 x.s0, .int .i64 x.s1], .agg #[.int .i64 d.c0, .int .i64 d.c1, .int .i64 d.f0, .int .i64 d.f1, .int .i64 d.wa, .bool d.cl], .int .i64 n0, .slice a len cap] w fun e w' => e = .returned (.bool true) ∧ Below w.heap.size w w' := by
  have HC := Lib.hid hc
  obtain ⟨va, vcap, hvv, hz1, hz2, hz3⟩ := hc
  clear hz1 hz2 hz3
  subst hvv
  have jL := ((Blk.new w #[.int .i64 l.gr, .int .i64 l.la, (.slice va l.n vcap), .int .i64 l.m0, .int .i64 l.m1, .int .i64 l.so, .int .i64 l.h0, .int .i64 l.h1] 26).alloc (.cells #[.int .i64 x.b0, .int .i64 x.b1, .int .i64 x.w0, .int .i64 x.w1, .int .i64 x.q0, .int .i64 x.q1, .int .i64 x.s0, .int .i64 x.s1] 28)).alloc (.cells #[.int .i64 d.c0, .int .i64 d.c1, .int .i64 d.f0, .int .i64 d.f1, .int .i64 d.wa, .bool d.cl] 30)
  have jX := (Blk.new1 w (.cells #[.int .i64 l.gr, .int .i64 l.la, (.slice va l.n vcap), .int .i64 l.m0, .int .i64 l.m1, .int .i64 l.so, .int .i64 l.h0, .int .i64 l.h1] 26) #[.int .i64 x.b0, .int .i64 x.b1, .int .i64 x.w0, .int .i64 x.w1, .int .i64 x.q0, .int .i64 x.q1, .int .i64 x.s0, .int .i64 x.s1] 28).alloc (.cells #[.int .i64 d.c0, .int .i64 d.c1, .int .i64 d.f0, .int .i64 d.f1, .int .i64 d.wa, .bool d.cl] 30)
  have jD := Blk.new2 w (.cells #[.int .i64 l.gr, .int .i64 l.la, (.slice va l.n vcap), .int .i64 l.m0, .int .i64 l.m1, .int .i64 l.so, .int .i64 l.h0, .int .i64 l.h1] 26) (.cells #[.int .i64 x.b0, .int .i64 x.b1, .int .i64 x.w0, .int .i64 x.w1, .int .i64 x.q0, .int .i64 x.q1, .int .i64 x.s0, .int .i64 x.s1] 28) #[.int .i64 d.c0, .int .i64 d.c1, .int .i64 d.f0, .int .i64 d.f1, .int .i64 d.wa, .bool d.cl] 30
  have jB : Below w.heap.size w (((w.alloc (.cells #[.int .i64 l.gr, .int .i64 l.la, (.slice va l.n vcap), .int .i64 l.m0, .int .i64 l.m1, .int .i64 l.so, .int .i64 l.h0, .int .i64 l.h1] 26)).alloc (.cells #[.int .i64 x.b0, .int .i64 x.b1, .int .i64 x.w0, .int .i64 x.w1, .int .i64 x.q0, .int .i64 x.q1, .int .i64 x.s0, .int .i64 x.s1] 28)).alloc (.cells #[.int .i64 d.c0, .int .i64 d.c1, .int .i64 d.f0, .int .i64 d.f1, .int .i64 d.wa, .bool d.cl] 30)) := by (repeat (first | exact Below.refl _ _ | assumption | refine Below.drew ?_ | refine Below.drewN ?_ _ | refine blT ?_ | refine blU ?_))
  go_enter Try.func3, Try.ntmps3
  go_wp2_with fail
  refine (big_any _ _ _ _ _ _ _ _ _ _ _).mono ?_
  rintro e w0 ⟨bg, rfl, hb⟩
  replace jL := jL.call hb
  replace jX := jX.call hb
  replace jD := jD.call hb
  replace jB := bwS jB (Nat.le_refl _) hb
  clear hb
  cases bg with
  | true =>
    go_wp2_with fail
    refine (awake_any _).mono ?_
    rintro e w9 ⟨rfl, hb⟩
    replace jB := bwS jB (Nat.le_refl _) hb
    go_wp2
    go_ret
    exact ⟨rfl, jB⟩
  | false =>
  go_wp2_with fail
  refine (newseed_at a len cap _ (hn.later jB)).mono ?_
  rintro e w1 ⟨rfl, hS, hB⟩
  clear hn
  have zD := jD.lt
  obtain ⟨bs, hbs⟩ : ∃ b, w0.heap.size = b := ⟨_, rfl⟩
  replace jL := jL.call hB
  replace jX := jX.call hB
  replace jD := jD.call hB
  replace jB := bwS jB (Nat.le_refl _) hB
  rw [hbs] at hS zD ⊢
  have hle : w.heap.size ≤ bs := by omega
  have HB := Lib.hid (And.intro hle jB)
  clear hbs hB jB hle
  obtain ⟨bL, hbL⟩ : ∃ b, w.heap.size = b := ⟨_, rfl⟩
  have zwL : w.heap.size ≤ bL := by omega
  rw [hbL] at jL jX jD zD ⊢
  have hb1 : bs < w1.heap.size := hS.choose_spec.lt
  go_wp2_with fail
  refine (frostof_in bs w1 hS).mono ?_
  rintro e w2 ⟨m, v2, rfl, hm, hR, hA⟩
  obtain ⟨vb, vbcap, hvv, hz1, hz2, hz3⟩ := covAt_of_row hR
  clear hz1 hz2 hz3
  subst hvv
  go_wp2_with fail
  refine (iceof_in bs w2 hA.seed).mono ?_
  rintro e w3 ⟨y, rfl, hy, hd⟩
  replace hR := hd.row hR (by omega)
  replace hA := hA.trans hd
  clear hd
  have zA := hA.2.size
  replace jL := ((hA.blk jL (by omega)).alloc (.cells #[.int .i64 m.gr, .int .i64 m.la, (.slice vb m.n vbcap), .int .i64 m.m0, .int .i64 m.m1, .int .i64 m.so, .int .i64 m.h0, .int .i64 m.h1] 26)).alloc (.cells #[.int .i64 y.b0, .int .i64 y.b1, .int .i64 y.w0, .int .i64 y.w1, .int .i64 y.q0, .int .i64 y.q1, .int .i64 y.s0, .int .i64 y.s1] 28)
  replace jX := ((hA.blk jX (by omega)).alloc (.cells #[.int .i64 m.gr, .int .i64 m.la, (.slice vb m.n vbcap), .int .i64 m.m0, .int .i64 m.m1, .int .i64 m.so, .int .i64 m.h0, .int .i64 m.h1] 26)).alloc (.cells #[.int .i64 y.b0, .int .i64 y.b1, .int .i64 y.w0, .int .i64 y.w1, .int .i64 y.q0, .int .i64 y.q1, .int .i64 y.s0, .int .i64 y.s1] 28)
  replace jD := ((hA.blk jD (by omega)).alloc (.cells #[.int .i64 m.gr, .int .i64 m.la, (.slice vb m.n vbcap), .int .i64 m.m0, .int .i64 m.m1, .int .i64 m.so, .int .i64 m.h0, .int .i64 m.h1] 26)).alloc (.cells #[.int .i64 y.b0, .int .i64 y.b1, .int .i64 y.w0, .int .i64 y.w1, .int .i64 y.q0, .int .i64 y.q1, .int .i64 y.s0, .int .i64 y.s1] 28)
  have jM := (Blk.new w3 #[.int .i64 m.gr, .int .i64 m.la, (.slice vb m.n vbcap), .int .i64 m.m0, .int .i64 m.m1, .int .i64 m.so, .int .i64 m.h0, .int .i64 m.h1] 26).alloc (.cells #[.int .i64 y.b0, .int .i64 y.b1, .int .i64 y.w0, .int .i64 y.w1, .int .i64 y.q0, .int .i64 y.q1, .int .i64 y.s0, .int .i64 y.s1] 28)
  have jY := Blk.new1 w3 (.cells #[.int .i64 m.gr, .int .i64 m.la, (.slice vb m.n vbcap), .int .i64 m.m0, .int .i64 m.m1, .int .i64 m.so, .int .i64 m.h0, .int .i64 m.h1] 26) #[.int .i64 y.b0, .int .i64 y.b1, .int .i64 y.w0, .int .i64 y.w1, .int .i64 y.q0, .int .i64 y.q1, .int .i64 y.s0, .int .i64 y.s1] 28
  replace hR := (hR.alloc (.cells #[.int .i64 m.gr, .int .i64 m.la, (.slice vb m.n vbcap), .int .i64 m.m0, .int .i64 m.m1, .int .i64 m.so, .int .i64 m.h0, .int .i64 m.h1] 26)).alloc (.cells #[.int .i64 y.b0, .int .i64 y.b1, .int .i64 y.w0, .int .i64 y.w1, .int .i64 y.q0, .int .i64 y.q1, .int .i64 y.s0, .int .i64 y.s1] 28)
  replace hA := (hA.new (.cells #[.int .i64 m.gr, .int .i64 m.la, (.slice vb m.n vbcap), .int .i64 m.m0, .int .i64 m.m1, .int .i64 m.so, .int .i64 m.h0, .int .i64 m.h1] 26)).new (.cells #[.int .i64 y.b0, .int .i64 y.b1, .int .i64 y.w0, .int .i64 y.w1, .int .i64 y.q0, .int .i64 y.q1, .int .i64 y.s0, .int .i64 y.s1] 28)
  go_upto_region 5 with fail
  obtain ⟨bM, hbM⟩ : ∃ b, w3.heap.size = b := ⟨_, rfl⟩
  rw [hbM] at zA jM jY
  (try rw [hbM])
  clear hbM
  generalize (w3.alloc (.cells #[.int .i64 m.gr, .int .i64 m.la, (.slice vb m.n vbcap), .int .i64 m.m0, .int .i64 m.m1, .int .i64 m.so, .int .i64 m.h0, .int .i64 m.h1] 26)).alloc (.cells #[.int .i64 y.b0, .int .i64 y.b1, .int .i64 y.w0, .int .i64 y.w1, .int .i64 y.q0, .int .i64 y.q1, .int .i64 y.s0, .int .i64 y.s1] 28) = V at jL jX jD jM jY hR hA ⊢
  obtain ⟨i0, hi0, hz0, hz1, hz2⟩ := info_parts Try.infoDay
  have zwbs : w.heap.size ≤ bs := HB.out.1
  have jB5 : Below w.heap.size w V := Drawn.below HB.out.2 hA HB.out.1
  go_cut [14] (fun s14 wx => ∃ (v : Value) (q : Nat) (dd : Nat → Dy), s14 = v ∧ 1 ≤ q ∧ DaysAt wx v q dd ∧ Blk wx bL #[.int .i64 l.gr, .int .i64 l.la, (.slice va l.n vcap), .int .i64 l.m0, .int .i64 l.m1, .int .i64 l.so, .int .i64 l.h0, .int .i64 l.h1] 26 ∧ Blk wx (bL + 1) #[.int .i64 x.b0, .int .i64 x.b1, .int .i64 x.w0, .int .i64 x.w1, .int .i64 x.q0, .int .i64 x.q1, .int .i64 x.s0, .int .i64 x.s1] 28 ∧ Blk wx (bL + 1 + 1) #[.int .i64 d.c0, .int .i64 d.c1, .int .i64 d.f0, .int .i64 d.f1, .int .i64 d.wa, .bool d.cl] 30 ∧ Blk wx bM #[.int .i64 m.gr, .int .i64 m.la, (.slice vb m.n vbcap), .int .i64 m.m0, .int .i64 m.m1, .int .i64 m.so, .int .i64 m.h0, .int .i64 m.h1] 26 ∧ Blk wx (bM + 1) #[.int .i64 y.b0, .int .i64 y.b1, .int .i64 y.w0, .int .i64 y.w1, .int .i64 y.q0, .int .i64 y.q1, .int .i64 y.s0, .int .i64 y.s1] 28 ∧ CovAt wx (.slice vb m.n vbcap) m.n m.D m.P0 m.P1 ∧ SeedAt bs wx ∧ Below w.heap.size w wx)
  case first =>
    (
 refine wp_region_held_drew (S := (fun w' => Blk w' bL #[.int .i64 l.gr, .int .i64 l.la, (.slice va l.n vcap), .int .i64 l.m0, .int .i64 l.m1, .int .i64 l.so, .int .i64 l.h0, .int .i64 l.h1] 26 ∧ Blk w' (bL + 1) #[.int .i64 x.b0, .int .i64 x.b1, .int .i64 x.w0, .int .i64 x.w1, .int .i64 x.q0, .int .i64 x.q1, .int .i64 x.s0, .int .i64 x.s1] 28 ∧ Blk w' (bL + 1 + 1) #[.int .i64 d.c0, .int .i64 d.c1, .int .i64 d.f0, .int .i64 d.f1, .int .i64 d.wa, .bool d.cl] 30 ∧ Blk w' bM #[.int .i64 m.gr, .int .i64 m.la, (.slice vb m.n vbcap), .int .i64 m.m0, .int .i64 m.m1, .int .i64 m.so, .int .i64 m.h0, .int .i64 m.h1] 26 ∧ Blk w' (bM + 1) #[.int .i64 y.b0, .int .i64 y.b1, .int .i64 y.w0, .int .i64 y.w1, .int .i64 y.q0, .int .i64 y.q1, .int .i64 y.s0, .int .i64 y.s1] 28 ∧ w'.ownsRow (bs + 1) 90 3 (.slice vb m.n vbcap) m.n (covC m.D m.P0 m.P1 m.n) ∧ SeedAt bs w' ∧ Below w.heap.size w w')) (by kernel_rfl) ?_ (fun hH => ?_)
 · (try dsimp only); (exact ⟨jL.drew, jX.drew, jD.drew, jM.drew, jY.drew, hR, hA.seed, jB5.drew⟩)
 refine tkY 0 (some 33) ?_ ?_ ?_
 rotate_left
 · intro w _; go_simp; (try with_reducible rfl)
 (try simp only [cq])
 refine tkY 2 (some 35) ?_ ?_ ?_
 rotate_left
 · intro w hS0; (try dsimp only at hS0); obtain ⟨_, _, kd, _⟩ := hS0; obtain ⟨q0, q1, q2, q3, q4, q5⟩ := kd.c6; have zd := kd.lt;go_simp; (try with_reducible rfl)
 (try simp only [cq])
 refine wpAnyH_ready (rs := [1, 3]) (by kernel_rfl) (by simp) ?_
 refine arc (some 34) (fun K hK => ?_) ?_
 {
 go_simp
 (refine (daysof_in 1 (by decide) (by decide) false bs _ hH.2.2.2.2.2.2.1).mono ?_; rintro e w' ⟨vd, n, dd, rfl, hn1, hdk, hD, hd⟩; (try (replace kN := hd.blk kN (by omega))))
 refine hK.out _ _ ?_ ?_
 · (exact ⟨hd.blk hH.1 (by omega), hd.blk hH.2.1 (by omega), hd.blk hH.2.2.1 (by omega), hd.blk hH.2.2.2.1 (by omega), hd.blk hH.2.2.2.2.1 (by omega), hd.row hH.2.2.2.2.2.1 (by omega), hd.seed, Drawn.below hH.2.2.2.2.2.2.2 hd zwbs⟩)
 (try clear hH); (try clear hd)
 intro hH
 clear hK K
 (try simp only [cq])
 refine wpAnyH_ready (rs := [3]) (by kernel_rfl) (by simp) ?_
 refine arc1 (some 36) fun K hK => ?_
 have zz := hH.2.2.2.2.2.2.1.choose_spec.lt
 go_simp
 first | refine oA hK ?_ (fun hH hA => ?_) | refine oD hK ?_ (fun hH hA => ?_)
 · exact ⟨hH.1.alloc _, hH.2.1.alloc _, hH.2.2.1.alloc _, hH.2.2.2.1.alloc _, hH.2.2.2.2.1.alloc _, hH.2.2.2.2.2.1.alloc _, hH.2.2.2.2.2.2.1.imp fun _ h => h.alloc _, hH.2.2.2.2.2.2.2.alloc hH.2.2.2.2.2.2.2.size _⟩
 have kN := hA
 clear hA
 obtain ⟨bN, hbN⟩ : ∃ b, Blk.num kN = b := ⟨_, rfl⟩
 simp only [Blk.num] at hbN
 have zN : bs < bN := by rw [← hbN]; exact zz
 rw [hbN] at kN ⊢
 clear hbN zz
 (try (replace hD := hD.alloc (.cells #[.int .i64 d.c0, .int .i64 d.c1, .int .i64 d.f0, .int .i64 d.f1, .int .i64 d.wa, .bool d.cl] 30)))
 clear hK K
 (try simp only [cq])
 refine wpAnyH_ready (rs := [4]) (by kernel_rfl) (by simp) ?_
 refine arc1 (some 37) fun K hK => ?_
 rw [if_pos (by rfl)]
 obtain ⟨v', w8, hr, hown, hgrow, _, _⟩ := run_append_own_at (P := Try.prog) _ (bs + 1) 38 38 30 i0 (.agg #[.int .i64 0, .int .i64 0, .int .i64 0, .int .i64 0, .int .i64 0, .bool false]) 6 48 Try.underlying38 hi0 hz0 hz1 hz2 rfl (by decide) vd n (daysC dd n) hD ⟨bN, 0, none⟩ 1 1 (dayC d) rfl (news_blk kN) (one6 _) (by unfold maxLen; omega) (by omega) (by have := kN.lt; omega)
 simp only [Oper.wp, execOp, resolve, invoke, builtin, Sem.run_bind, Sem.run_pure, Result.andThen_ok, List.map_toArray, List.map_cons, List.map_nil]
 change Oper.upon _ _ _ _ _ ((Sem.run Try.prog (Builtin.append_ #[38, 38] 38 #[vd, .slice (some ⟨bN, 0, none⟩) 1 1]) _).andThen _)
 rw [hr]
 have hq : ∀ k, vd.ownBlock = some k → bs < k := fun k e => by have := (hD.lt k e).1; omega
 have HG := Lib.hid (show Blk w8 bL #[.int .i64 l.gr, .int .i64 l.la, (.slice va l.n vcap), .int .i64 l.m0, .int .i64 l.m1, .int .i64 l.so, .int .i64 l.h0, .int .i64 l.h1] 26 ∧ Blk w8 (bL + 1) #[.int .i64 x.b0, .int .i64 x.b1, .int .i64 x.w0, .int .i64 x.w1, .int .i64 x.q0, .int .i64 x.q1, .int .i64 x.s0, .int .i64 x.s1] 28 ∧ Blk w8 (bL + 1 + 1) #[.int .i64 d.c0, .int .i64 d.c1, .int .i64 d.f0, .int .i64 d.f1, .int .i64 d.wa, .bool d.cl] 30 ∧ Blk w8 bM #[.int .i64 m.gr, .int .i64 m.la, (.slice vb m.n vbcap), .int .i64 m.m0, .int .i64 m.m1, .int .i64 m.so, .int .i64 m.h0, .int .i64 m.h1] 26 ∧ Blk w8 (bM + 1) #[.int .i64 y.b0, .int .i64 y.b1, .int .i64 y.w0, .int .i64 y.w1, .int .i64 y.q0, .int .i64 y.q1, .int .i64 y.s0, .int .i64 y.s1] 28 ∧ w8.ownsRow (bs + 1) 90 3 (.slice vb m.n vbcap) m.n (covC m.D m.P0 m.P1 m.n) ∧ SeedAt bs w8 ∧ Below w.heap.size w w8 from ⟨hH.1.grown3 hgrow (fun k e => by have := hq k e; omega), hH.2.1.grown3 hgrow (fun k e => by have := hq k e; omega), hH.2.2.1.grown3 hgrow (fun k e => by have := hq k e; omega), hH.2.2.2.1.grown3 hgrow (blk_row_ne2 hH.2.2.2.1 hD (by decide)), hH.2.2.2.2.1.grown3 hgrow (blk_row_ne2 hH.2.2.2.2.1 hD (by decide)), row_grown2 hH.2.2.2.2.2.1 hD (by decide) hgrow, hH.2.2.2.2.2.2.1.imp fun _ h => h.grown3 hgrow (blk_row_ne2 h hD (by decide)), hH.2.2.2.2.2.2.2.grown hgrow hH.2.2.2.2.2.2.2.size (fun k e => by have := hq k e; omega)⟩)
 rw [← daysC_upd] at hown
 clear hgrow hr hD kN hq
 simp only [Result.andThen_ok, Oper.upon]
 refine hK.out _ _ ?_ ?_
 · exact HG.out
 (try clear hH); (try clear hd)
 intro hH
 clear hK K
 (try simp only [cq])
 refine tkY 5 (some 14) ?_ ?_ ?_
 rotate_left
 · intro w _; go_simp; (try with_reducible rfl)
 (try simp only [cq])
 refine wpAnyH_done (by kernel_rfl) ?_ _
 (try dsimp only [Act.put])
 (try simp only [cq])
 have kD := daysAt_of_row hown
 obtain ⟨_, _, rfl, _, _, _⟩ := id kD
 go_wp2_with fail
 go_meet
 exact ⟨_, n + 1, _, rfl, by omega, kD, hH.1, hH.2.1, hH.2.2.1, hH.2.2.2.1, hH.2.2.2.2.1, covAt_of_row hH.2.2.2.2.2.1, hH.2.2.2.2.2.2.1, hH.2.2.2.2.2.2.2⟩
 }
 refine arc (some 36) (fun K hK => ?_) ?_
 {
 have zz := hH.2.2.2.2.2.2.1.choose_spec.lt
 go_simp
 first | refine oA hK ?_ (fun hH hA => ?_) | refine oD hK ?_ (fun hH hA => ?_)
 · exact ⟨hH.1.alloc _, hH.2.1.alloc _, hH.2.2.1.alloc _, hH.2.2.2.1.alloc _, hH.2.2.2.2.1.alloc _, hH.2.2.2.2.2.1.alloc _, hH.2.2.2.2.2.2.1.imp fun _ h => h.alloc _, hH.2.2.2.2.2.2.2.alloc hH.2.2.2.2.2.2.2.size _⟩
 have kN := hA
 clear hA
 obtain ⟨bN, hbN⟩ : ∃ b, Blk.num kN = b := ⟨_, rfl⟩
 simp only [Blk.num] at hbN
 have zN : bs < bN := by rw [← hbN]; exact zz
 rw [hbN] at kN ⊢
 clear hbN zz
 (try (replace hD := hD.alloc (.cells #[.int .i64 d.c0, .int .i64 d.c1, .int .i64 d.f0, .int .i64 d.f1, .int .i64 d.wa, .bool d.cl] 30)))
 clear hK K
 (try simp only [cq])
 refine wpAnyH_ready (rs := [1]) (by kernel_rfl) (by simp) ?_
 refine arc1 (some 34) fun K hK => ?_
 go_simp
 (refine (daysof_in 1 (by decide) (by decide) false bs _ hH.2.2.2.2.2.2.1).mono ?_; rintro e w' ⟨vd, n, dd, rfl, hn1, hdk, hD, hd⟩; (try (replace kN := hd.blk kN (by omega))))
 refine hK.out _ _ ?_ ?_
 · (exact ⟨hd.blk hH.1 (by omega), hd.blk hH.2.1 (by omega), hd.blk hH.2.2.1 (by omega), hd.blk hH.2.2.2.1 (by omega), hd.blk hH.2.2.2.2.1 (by omega), hd.row hH.2.2.2.2.2.1 (by omega), hd.seed, Drawn.below hH.2.2.2.2.2.2.2 hd zwbs⟩)
 (try clear hH); (try clear hd)
 intro hH
 clear hK K
 (try simp only [cq])
 refine wpAnyH_ready (rs := [4]) (by kernel_rfl) (by simp) ?_
 refine arc1 (some 37) fun K hK => ?_
 rw [if_pos (by rfl)]
 obtain ⟨v', w8, hr, hown, hgrow, _, _⟩ := run_append_own_at (P := Try.prog) _ (bs + 1) 38 38 30 i0 (.agg #[.int .i64 0, .int .i64 0, .int .i64 0, .int .i64 0, .int .i64 0, .bool false]) 6 48 Try.underlying38 hi0 hz0 hz1 hz2 rfl (by decide) vd n (daysC dd n) hD ⟨bN, 0, none⟩ 1 1 (dayC d) rfl (news_blk kN) (one6 _) (by unfold maxLen; omega) (by omega) (by have := kN.lt; omega)
 simp only [Oper.wp, execOp, resolve, invoke, builtin, Sem.run_bind, Sem.run_pure, Result.andThen_ok, List.map_toArray, List.map_cons, List.map_nil]
 change Oper.upon _ _ _ _ _ ((Sem.run Try.prog (Builtin.append_ #[38, 38] 38 #[vd, .slice (some ⟨bN, 0, none⟩) 1 1]) _).andThen _)
 rw [hr]
 have hq : ∀ k, vd.ownBlock = some k → bs < k := fun k e => by have := (hD.lt k e).1; omega
 have HG := Lib.hid (show Blk w8 bL #[.int .i64 l.gr, .int .i64 l.la, (.slice va l.n vcap), .int .i64 l.m0, .int .i64 l.m1, .int .i64 l.so, .int .i64 l.h0, .int .i64 l.h1] 26 ∧ Blk w8 (bL + 1) #[.int .i64 x.b0, .int .i64 x.b1, .int .i64 x.w0, .int .i64 x.w1, .int .i64 x.q0, .int .i64 x.q1, .int .i64 x.s0, .int .i64 x.s1] 28 ∧ Blk w8 (bL + 1 + 1) #[.int .i64 d.c0, .int .i64 d.c1, .int .i64 d.f0, .int .i64 d.f1, .int .i64 d.wa, .bool d.cl] 30 ∧ Blk w8 bM #[.int .i64 m.gr, .int .i64 m.la, (.slice vb m.n vbcap), .int .i64 m.m0, .int .i64 m.m1, .int .i64 m.so, .int .i64 m.h0, .int .i64 m.h1] 26 ∧ Blk w8 (bM + 1) #[.int .i64 y.b0, .int .i64 y.b1, .int .i64 y.w0, .int .i64 y.w1, .int .i64 y.q0, .int .i64 y.q1, .int .i64 y.s0, .int .i64 y.s1] 28 ∧ w8.ownsRow (bs + 1) 90 3 (.slice vb m.n vbcap) m.n (covC m.D m.P0 m.P1 m.n) ∧ SeedAt bs w8 ∧ Below w.heap.size w w8 from ⟨hH.1.grown3 hgrow (fun k e => by have := hq k e; omega), hH.2.1.grown3 hgrow (fun k e => by have := hq k e; omega), hH.2.2.1.grown3 hgrow (fun k e => by have := hq k e; omega), hH.2.2.2.1.grown3 hgrow (blk_row_ne2 hH.2.2.2.1 hD (by decide)), hH.2.2.2.2.1.grown3 hgrow (blk_row_ne2 hH.2.2.2.2.1 hD (by decide)), row_grown2 hH.2.2.2.2.2.1 hD (by decide) hgrow, hH.2.2.2.2.2.2.1.imp fun _ h => h.grown3 hgrow (blk_row_ne2 h hD (by decide)), hH.2.2.2.2.2.2.2.grown hgrow hH.2.2.2.2.2.2.2.size (fun k e => by have := hq k e; omega)⟩)
 rw [← daysC_upd] at hown
 clear hgrow hr hD kN hq
 simp only [Result.andThen_ok, Oper.upon]
 refine hK.out _ _ ?_ ?_
 · exact HG.out
 (try clear hH); (try clear hd)
 intro hH
 clear hK K
 (try simp only [cq])
 refine tkY 5 (some 14) ?_ ?_ ?_
 rotate_left
 · intro w _; go_simp; (try with_reducible rfl)
 (try simp only [cq])
 refine wpAnyH_done (by kernel_rfl) ?_ _
 (try dsimp only [Act.put])
 (try simp only [cq])
 have kD := daysAt_of_row hown
 obtain ⟨_, _, rfl, _, _, _⟩ := id kD
 go_wp2_with fail
 go_meet
 exact ⟨_, n + 1, _, rfl, by omega, kD, hH.1, hH.2.1, hH.2.2.1, hH.2.2.2.1, hH.2.2.2.2.1, covAt_of_row hH.2.2.2.2.2.1, hH.2.2.2.2.2.2.1, hH.2.2.2.2.2.2.2⟩
 }
 exact AllReadyH.nil )
  case rest =>
    obtain ⟨v, nq, dd, rfl, hq, kD, jL, jX, jD, jM, jY, kC2, kS, kB⟩ := hcut
    obtain ⟨V2, hVV⟩ : ∃ V2, V2 = wc := ⟨_, rfl⟩
    subst hVV
    obtain ⟨da, dcap, hvd, _, _, hz3⟩ := kD
    subst hvd
    obtain ⟨b9, o9, rfl, hz4⟩ := hz3 (by omega)
    obtain ⟨g0, g1, g2, g3, g4, g5⟩ := hz4 0 (by omega)
    simp only [Nat.zero_mul, Nat.add_zero] at g0 g1 g2 g3 g4 g5
    generalize dd 0 = g at g0 g1 g2 g3 g4 g5
    clear hz4 hA hR jB5
    have zg := World.block_lt_of_cell? _ _ g0
    have kC := HC.out.later kB
    go_upto_region 6 with fail
    obtain ⟨B3, hB3⟩ : ∃ z, V2.heap.size = z := ⟨_, rfl⟩
    have HB3 := Lib.hid hB3
    have zwB : w.heap.size ≤ B3 := by have := kB.size; omega
    have zB3 : B3 ≤ V2.heap.size := by omega
    clear hB3
    go_cut [15, 16, 17] (fun s15 s16 s17 wx => ∃ (b1 b2 b3 : Nat) (A1 A2 A3 : Array Value) (ls : Nat → Lw × Value) (xs : Nat → Ic) (ds : Nat → Dy), s15 = .slice (some ⟨b1, 0, none⟩) 4 4 ∧ s16 = .slice (some ⟨b2, 0, none⟩) 4 4 ∧ s17 = .slice (some ⟨b3, 0, none⟩) 4 4 ∧ LwArr A1 4 ls ∧ IcArr A2 0 4 xs ∧ DyArr A3 4 ds ∧ (∀ k, k < 4 → CovAt V2 (ls k).2 (ls k).1.n (ls k).1.D (ls k).1.P0 (ls k).1.P1) ∧ Blk wx b1 A1 26 ∧ Blk wx b2 A2 28 ∧ Blk wx b3 A3 30 ∧ Below B3 V2 wx)
    case first =>
      have hcs : ∀ k, k < 4 → CovAt V2 (pickA (l, (Value.slice va l.n vcap)) (m, (Value.slice vb m.n vbcap)) (m, (Value.slice vb m.n vbcap)) (l, (Value.slice va l.n vcap)) k).2 (pickA (l, (Value.slice va l.n vcap)) (m, (Value.slice vb m.n vbcap)) (m, (Value.slice vb m.n vbcap)) (l, (Value.slice va l.n vcap)) k).1.n (pickA (l, (Value.slice va l.n vcap)) (m, (Value.slice vb m.n vbcap)) (m, (Value.slice vb m.n vbcap)) (l, (Value.slice va l.n vcap)) k).1.D (pickA (l, (Value.slice va l.n vcap)) (m, (Value.slice vb m.n vbcap)) (m, (Value.slice vb m.n vbcap)) (l, (Value.slice va l.n vcap)) k).1.P0 (pickA (l, (Value.slice va l.n vcap)) (m, (Value.slice vb m.n vbcap)) (m, (Value.slice vb m.n vbcap)) (l, (Value.slice va l.n vcap)) k).1.P1 := fun k hk => by
        match k, hk with
        | 0, _ => exact kC
        | 1, _ => exact kC2
        | 2, _ => exact kC2
        | 3, _ => exact kC
      have HCs := Lib.hid hcs
      clear hcs
      (
 refine wp_region_held_drew (S := (fun w' => Below B3 V2 w')) (by kernel_rfl) ?_ (fun hH => ?_)
 · (try dsimp only); (exact (Below.refl _ _).drew)
 refine tkY 0 (some 38) ?_ ?_ ?_
 rotate_left
 · intro w hS0; (try dsimp only at hS0); have hS2 := hS0; rw [← HB3.out] at hS2; have kl := jL.call hS2; have kx := jX.call hS2; have kd := jD.call hS2; have km := jM.call hS2; have ky := jY.call hS2; obtain ⟨l0, l1, l2, l3, l4, l5, l6, l7⟩ := kl.c8; obtain ⟨a0, a1, a2, a3, a4, a5, a6, a7⟩ := kx.c8; obtain ⟨q0, q1, q2, q3, q4, q5⟩ := kd.c6; obtain ⟨m0, m1, m2, m3, m4, m5, m6, m7⟩ := km.c8; obtain ⟨c0, c1, c2, c3, c4, c5, c6, c7⟩ := ky.c8; have p0 := cell_later hS2 g0; have p1 := cell_later hS2 g1; have p2 := cell_later hS2 g2; have p3 := cell_later hS2 g3; have p4 := cell_later hS2 g4; have p5 := cell_later hS2 g5; have y1 := kl.lt; have y2 := kx.lt; have y3 := kd.lt; have y4 := km.lt; have y5 := ky.lt; have y6 : 0 < nq := (by omega);go_simp; (try with_reducible rfl)
 (try simp only [cq])
 refine tkY 1 (some 39) ?_ ?_ ?_
 rotate_left
 · intro w hS0; (try dsimp only at hS0); have hS2 := hS0; rw [← HB3.out] at hS2; have kl := jL.call hS2; have kx := jX.call hS2; have kd := jD.call hS2; have km := jM.call hS2; have ky := jY.call hS2; obtain ⟨l0, l1, l2, l3, l4, l5, l6, l7⟩ := kl.c8; obtain ⟨a0, a1, a2, a3, a4, a5, a6, a7⟩ := kx.c8; obtain ⟨q0, q1, q2, q3, q4, q5⟩ := kd.c6; obtain ⟨m0, m1, m2, m3, m4, m5, m6, m7⟩ := km.c8; obtain ⟨c0, c1, c2, c3, c4, c5, c6, c7⟩ := ky.c8; have p0 := cell_later hS2 g0; have p1 := cell_later hS2 g1; have p2 := cell_later hS2 g2; have p3 := cell_later hS2 g3; have p4 := cell_later hS2 g4; have p5 := cell_later hS2 g5; have y1 := kl.lt; have y2 := kx.lt; have y3 := kd.lt; have y4 := km.lt; have y5 := ky.lt; have y6 : 0 < nq := (by omega);go_simp; (try with_reducible rfl)
 (try simp only [cq])
 refine tkY 2 (some 40) ?_ ?_ ?_
 rotate_left
 · intro w hS0; (try dsimp only at hS0); have hS2 := hS0; rw [← HB3.out] at hS2; have kl := jL.call hS2; have kx := jX.call hS2; have kd := jD.call hS2; have km := jM.call hS2; have ky := jY.call hS2; obtain ⟨l0, l1, l2, l3, l4, l5, l6, l7⟩ := kl.c8; obtain ⟨a0, a1, a2, a3, a4, a5, a6, a7⟩ := kx.c8; obtain ⟨q0, q1, q2, q3, q4, q5⟩ := kd.c6; obtain ⟨m0, m1, m2, m3, m4, m5, m6, m7⟩ := km.c8; obtain ⟨c0, c1, c2, c3, c4, c5, c6, c7⟩ := ky.c8; have p0 := cell_later hS2 g0; have p1 := cell_later hS2 g1; have p2 := cell_later hS2 g2; have p3 := cell_later hS2 g3; have p4 := cell_later hS2 g4; have p5 := cell_later hS2 g5; have y1 := kl.lt; have y2 := kx.lt; have y3 := kd.lt; have y4 := km.lt; have y5 := ky.lt; have y6 : 0 < nq := (by omega);go_simp; (try with_reducible rfl)
 (try simp only [cq])
 refine tkY 3 (some 41) ?_ ?_ ?_
 rotate_left
 · intro w hS0; (try dsimp only at hS0); have hS2 := hS0; rw [← HB3.out] at hS2; have kl := jL.call hS2; have kx := jX.call hS2; have kd := jD.call hS2; have km := jM.call hS2; have ky := jY.call hS2; obtain ⟨l0, l1, l2, l3, l4, l5, l6, l7⟩ := kl.c8; obtain ⟨a0, a1, a2, a3, a4, a5, a6, a7⟩ := kx.c8; obtain ⟨q0, q1, q2, q3, q4, q5⟩ := kd.c6; obtain ⟨m0, m1, m2, m3, m4, m5, m6, m7⟩ := km.c8; obtain ⟨c0, c1, c2, c3, c4, c5, c6, c7⟩ := ky.c8; have p0 := cell_later hS2 g0; have p1 := cell_later hS2 g1; have p2 := cell_later hS2 g2; have p3 := cell_later hS2 g3; have p4 := cell_later hS2 g4; have p5 := cell_later hS2 g5; have y1 := kl.lt; have y2 := kx.lt; have y3 := kd.lt; have y4 := km.lt; have y5 := ky.lt; have y6 : 0 < nq := (by omega);go_simp; (try with_reducible rfl)
 (try simp only [cq])
 refine tkY 5 (some 43) ?_ ?_ ?_
 rotate_left
 · intro w hS0; (try dsimp only at hS0); have hS2 := hS0; rw [← HB3.out] at hS2; have kl := jL.call hS2; have kx := jX.call hS2; have kd := jD.call hS2; have km := jM.call hS2; have ky := jY.call hS2; obtain ⟨l0, l1, l2, l3, l4, l5, l6, l7⟩ := kl.c8; obtain ⟨a0, a1, a2, a3, a4, a5, a6, a7⟩ := kx.c8; obtain ⟨q0, q1, q2, q3, q4, q5⟩ := kd.c6; obtain ⟨m0, m1, m2, m3, m4, m5, m6, m7⟩ := km.c8; obtain ⟨c0, c1, c2, c3, c4, c5, c6, c7⟩ := ky.c8; have p0 := cell_later hS2 g0; have p1 := cell_later hS2 g1; have p2 := cell_later hS2 g2; have p3 := cell_later hS2 g3; have p4 := cell_later hS2 g4; have p5 := cell_later hS2 g5; have y1 := kl.lt; have y2 := kx.lt; have y3 := kd.lt; have y4 := km.lt; have y5 := ky.lt; have y6 : 0 < nq := (by omega);go_simp; (try with_reducible rfl)
 (try simp only [cq])
 refine tkY 6 (some 44) ?_ ?_ ?_
 rotate_left
 · intro w hS0; (try dsimp only at hS0); have hS2 := hS0; rw [← HB3.out] at hS2; have kl := jL.call hS2; have kx := jX.call hS2; have kd := jD.call hS2; have km := jM.call hS2; have ky := jY.call hS2; obtain ⟨l0, l1, l2, l3, l4, l5, l6, l7⟩ := kl.c8; obtain ⟨a0, a1, a2, a3, a4, a5, a6, a7⟩ := kx.c8; obtain ⟨q0, q1, q2, q3, q4, q5⟩ := kd.c6; obtain ⟨m0, m1, m2, m3, m4, m5, m6, m7⟩ := km.c8; obtain ⟨c0, c1, c2, c3, c4, c5, c6, c7⟩ := ky.c8; have p0 := cell_later hS2 g0; have p1 := cell_later hS2 g1; have p2 := cell_later hS2 g2; have p3 := cell_later hS2 g3; have p4 := cell_later hS2 g4; have p5 := cell_later hS2 g5; have y1 := kl.lt; have y2 := kx.lt; have y3 := kd.lt; have y4 := km.lt; have y5 := ky.lt; have y6 : 0 < nq := (by omega);go_simp; (try with_reducible rfl)
 (try simp only [cq])
 refine tkY 7 (some 45) ?_ ?_ ?_
 rotate_left
 · intro w hS0; (try dsimp only at hS0); have hS2 := hS0; rw [← HB3.out] at hS2; have kl := jL.call hS2; have kx := jX.call hS2; have kd := jD.call hS2; have km := jM.call hS2; have ky := jY.call hS2; obtain ⟨l0, l1, l2, l3, l4, l5, l6, l7⟩ := kl.c8; obtain ⟨a0, a1, a2, a3, a4, a5, a6, a7⟩ := kx.c8; obtain ⟨q0, q1, q2, q3, q4, q5⟩ := kd.c6; obtain ⟨m0, m1, m2, m3, m4, m5, m6, m7⟩ := km.c8; obtain ⟨c0, c1, c2, c3, c4, c5, c6, c7⟩ := ky.c8; have p0 := cell_later hS2 g0; have p1 := cell_later hS2 g1; have p2 := cell_later hS2 g2; have p3 := cell_later hS2 g3; have p4 := cell_later hS2 g4; have p5 := cell_later hS2 g5; have y1 := kl.lt; have y2 := kx.lt; have y3 := kd.lt; have y4 := km.lt; have y5 := ky.lt; have y6 : 0 < nq := (by omega);go_simp; (try with_reducible rfl)
 (try simp only [cq])
 refine tkY 8 (some 46) ?_ ?_ ?_
 rotate_left
 · intro w hS0; (try dsimp only at hS0); have hS2 := hS0; rw [← HB3.out] at hS2; have kl := jL.call hS2; have kx := jX.call hS2; have kd := jD.call hS2; have km := jM.call hS2; have ky := jY.call hS2; obtain ⟨l0, l1, l2, l3, l4, l5, l6, l7⟩ := kl.c8; obtain ⟨a0, a1, a2, a3, a4, a5, a6, a7⟩ := kx.c8; obtain ⟨q0, q1, q2, q3, q4, q5⟩ := kd.c6; obtain ⟨m0, m1, m2, m3, m4, m5, m6, m7⟩ := km.c8; obtain ⟨c0, c1, c2, c3, c4, c5, c6, c7⟩ := ky.c8; have p0 := cell_later hS2 g0; have p1 := cell_later hS2 g1; have p2 := cell_later hS2 g2; have p3 := cell_later hS2 g3; have p4 := cell_later hS2 g4; have p5 := cell_later hS2 g5; have y1 := kl.lt; have y2 := kx.lt; have y3 := kd.lt; have y4 := km.lt; have y5 := ky.lt; have y6 : 0 < nq := (by omega);go_simp; (try with_reducible rfl)
 (try simp only [cq])
 refine tkY 10 (some 48) ?_ ?_ ?_
 rotate_left
 · intro w hS0; (try dsimp only at hS0); have hS2 := hS0; rw [← HB3.out] at hS2; have kl := jL.call hS2; have kx := jX.call hS2; have kd := jD.call hS2; have km := jM.call hS2; have ky := jY.call hS2; obtain ⟨l0, l1, l2, l3, l4, l5, l6, l7⟩ := kl.c8; obtain ⟨a0, a1, a2, a3, a4, a5, a6, a7⟩ := kx.c8; obtain ⟨q0, q1, q2, q3, q4, q5⟩ := kd.c6; obtain ⟨m0, m1, m2, m3, m4, m5, m6, m7⟩ := km.c8; obtain ⟨c0, c1, c2, c3, c4, c5, c6, c7⟩ := ky.c8; have p0 := cell_later hS2 g0; have p1 := cell_later hS2 g1; have p2 := cell_later hS2 g2; have p3 := cell_later hS2 g3; have p4 := cell_later hS2 g4; have p5 := cell_later hS2 g5; have y1 := kl.lt; have y2 := kx.lt; have y3 := kd.lt; have y4 := km.lt; have y5 := ky.lt; have y6 : 0 < nq := (by omega);go_simp; (try with_reducible rfl)
 (try simp only [cq])
 refine tkY 11 (some 49) ?_ ?_ ?_
 rotate_left
 · intro w _; go_simp; (try with_reducible rfl)
 (try simp only [cq])
 refine tkY 12 (some 50) ?_ ?_ ?_
 rotate_left
 · intro w hS0; (try dsimp only at hS0); have hS2 := hS0; rw [← HB3.out] at hS2; have kl := jL.call hS2; have kx := jX.call hS2; have kd := jD.call hS2; have km := jM.call hS2; have ky := jY.call hS2; obtain ⟨l0, l1, l2, l3, l4, l5, l6, l7⟩ := kl.c8; obtain ⟨a0, a1, a2, a3, a4, a5, a6, a7⟩ := kx.c8; obtain ⟨q0, q1, q2, q3, q4, q5⟩ := kd.c6; obtain ⟨m0, m1, m2, m3, m4, m5, m6, m7⟩ := km.c8; obtain ⟨c0, c1, c2, c3, c4, c5, c6, c7⟩ := ky.c8; have p0 := cell_later hS2 g0; have p1 := cell_later hS2 g1; have p2 := cell_later hS2 g2; have p3 := cell_later hS2 g3; have p4 := cell_later hS2 g4; have p5 := cell_later hS2 g5; have y1 := kl.lt; have y2 := kx.lt; have y3 := kd.lt; have y4 := km.lt; have y5 := ky.lt; have y6 : 0 < nq := (by omega);go_simp; (try with_reducible rfl)
 (try simp only [cq])
 refine tkY 13 (some 51) ?_ ?_ ?_
 rotate_left
 · intro w hS0; (try dsimp only at hS0); have hS2 := hS0; rw [← HB3.out] at hS2; have kl := jL.call hS2; have kx := jX.call hS2; have kd := jD.call hS2; have km := jM.call hS2; have ky := jY.call hS2; obtain ⟨l0, l1, l2, l3, l4, l5, l6, l7⟩ := kl.c8; obtain ⟨a0, a1, a2, a3, a4, a5, a6, a7⟩ := kx.c8; obtain ⟨q0, q1, q2, q3, q4, q5⟩ := kd.c6; obtain ⟨m0, m1, m2, m3, m4, m5, m6, m7⟩ := km.c8; obtain ⟨c0, c1, c2, c3, c4, c5, c6, c7⟩ := ky.c8; have p0 := cell_later hS2 g0; have p1 := cell_later hS2 g1; have p2 := cell_later hS2 g2; have p3 := cell_later hS2 g3; have p4 := cell_later hS2 g4; have p5 := cell_later hS2 g5; have y1 := kl.lt; have y2 := kx.lt; have y3 := kd.lt; have y4 := km.lt; have y5 := ky.lt; have y6 : 0 < nq := (by omega);go_simp; (try with_reducible rfl)
 (try simp only [cq])
 refine tkY 14 (some 52) ?_ ?_ ?_
 rotate_left
 · intro w _; go_simp; (try with_reducible rfl)
 (try simp only [cq])
 refine tkY 15 (some 53) ?_ ?_ ?_
 rotate_left
 · intro w hS0; (try dsimp only at hS0); have hS2 := hS0; rw [← HB3.out] at hS2; have kl := jL.call hS2; have kx := jX.call hS2; have kd := jD.call hS2; have km := jM.call hS2; have ky := jY.call hS2; obtain ⟨l0, l1, l2, l3, l4, l5, l6, l7⟩ := kl.c8; obtain ⟨a0, a1, a2, a3, a4, a5, a6, a7⟩ := kx.c8; obtain ⟨q0, q1, q2, q3, q4, q5⟩ := kd.c6; obtain ⟨m0, m1, m2, m3, m4, m5, m6, m7⟩ := km.c8; obtain ⟨c0, c1, c2, c3, c4, c5, c6, c7⟩ := ky.c8; have p0 := cell_later hS2 g0; have p1 := cell_later hS2 g1; have p2 := cell_later hS2 g2; have p3 := cell_later hS2 g3; have p4 := cell_later hS2 g4; have p5 := cell_later hS2 g5; have y1 := kl.lt; have y2 := kx.lt; have y3 := kd.lt; have y4 := km.lt; have y5 := ky.lt; have y6 : 0 < nq := (by omega);go_simp; (try with_reducible rfl)
 (try simp only [cq])
 refine tkY 16 (some 54) ?_ ?_ ?_
 rotate_left
 · intro w hS0; (try dsimp only at hS0); have hS2 := hS0; rw [← HB3.out] at hS2; have kl := jL.call hS2; have kx := jX.call hS2; have kd := jD.call hS2; have km := jM.call hS2; have ky := jY.call hS2; obtain ⟨l0, l1, l2, l3, l4, l5, l6, l7⟩ := kl.c8; obtain ⟨a0, a1, a2, a3, a4, a5, a6, a7⟩ := kx.c8; obtain ⟨q0, q1, q2, q3, q4, q5⟩ := kd.c6; obtain ⟨m0, m1, m2, m3, m4, m5, m6, m7⟩ := km.c8; obtain ⟨c0, c1, c2, c3, c4, c5, c6, c7⟩ := ky.c8; have p0 := cell_later hS2 g0; have p1 := cell_later hS2 g1; have p2 := cell_later hS2 g2; have p3 := cell_later hS2 g3; have p4 := cell_later hS2 g4; have p5 := cell_later hS2 g5; have y1 := kl.lt; have y2 := kx.lt; have y3 := kd.lt; have y4 := km.lt; have y5 := ky.lt; have y6 : 0 < nq := (by omega);go_simp; (try with_reducible rfl)
 (try simp only [cq])
 refine tkY 17 (some 55) ?_ ?_ ?_
 rotate_left
 · intro w _; go_simp; (try with_reducible rfl)
 (try simp only [cq])
 refine tkY 18 (some 56) ?_ ?_ ?_
 rotate_left
 · intro w hS0; (try dsimp only at hS0); have hS2 := hS0; rw [← HB3.out] at hS2; have kl := jL.call hS2; have kx := jX.call hS2; have kd := jD.call hS2; have km := jM.call hS2; have ky := jY.call hS2; obtain ⟨l0, l1, l2, l3, l4, l5, l6, l7⟩ := kl.c8; obtain ⟨a0, a1, a2, a3, a4, a5, a6, a7⟩ := kx.c8; obtain ⟨q0, q1, q2, q3, q4, q5⟩ := kd.c6; obtain ⟨m0, m1, m2, m3, m4, m5, m6, m7⟩ := km.c8; obtain ⟨c0, c1, c2, c3, c4, c5, c6, c7⟩ := ky.c8; have p0 := cell_later hS2 g0; have p1 := cell_later hS2 g1; have p2 := cell_later hS2 g2; have p3 := cell_later hS2 g3; have p4 := cell_later hS2 g4; have p5 := cell_later hS2 g5; have y1 := kl.lt; have y2 := kx.lt; have y3 := kd.lt; have y4 := km.lt; have y5 := ky.lt; have y6 : 0 < nq := (by omega);go_simp; (try with_reducible rfl)
 (try simp only [cq])
 refine tkY 19 (some 57) ?_ ?_ ?_
 rotate_left
 · intro w hS0; (try dsimp only at hS0); have hS2 := hS0; rw [← HB3.out] at hS2; have kl := jL.call hS2; have kx := jX.call hS2; have kd := jD.call hS2; have km := jM.call hS2; have ky := jY.call hS2; obtain ⟨l0, l1, l2, l3, l4, l5, l6, l7⟩ := kl.c8; obtain ⟨a0, a1, a2, a3, a4, a5, a6, a7⟩ := kx.c8; obtain ⟨q0, q1, q2, q3, q4, q5⟩ := kd.c6; obtain ⟨m0, m1, m2, m3, m4, m5, m6, m7⟩ := km.c8; obtain ⟨c0, c1, c2, c3, c4, c5, c6, c7⟩ := ky.c8; have p0 := cell_later hS2 g0; have p1 := cell_later hS2 g1; have p2 := cell_later hS2 g2; have p3 := cell_later hS2 g3; have p4 := cell_later hS2 g4; have p5 := cell_later hS2 g5; have y1 := kl.lt; have y2 := kx.lt; have y3 := kd.lt; have y4 := km.lt; have y5 := ky.lt; have y6 : 0 < nq := (by omega);go_simp; (try with_reducible rfl)
 (try simp only [cq])
 refine wpAnyH_ready (rs := [4, 9, 20]) (by kernel_rfl) (by simp) ?_
 refine arc (some 42) (fun K hK => ?_) ?_
 {
 have zz := hH.size
 go_simp
 first | refine oA hK ?_ (fun hH hA => ?_) | refine oD hK ?_ (fun hH hA => ?_)
 · exact hH.alloc (Nat.le_trans zB3 hH.size) _
 have kP := hA
 clear hA zz
 (try (replace kQ := kQ.alloc (.cells #[.int .i64 l.gr, .int .i64 l.la, (.slice va l.n vcap), .int .i64 l.m0, .int .i64 l.m1, .int .i64 l.so, .int .i64 l.h0, .int .i64 l.h1, .int .i64 m.gr, .int .i64 m.la, (.slice vb m.n vbcap), .int .i64 m.m0, .int .i64 m.m1, .int .i64 m.so, .int .i64 m.h0, .int .i64 m.h1, .int .i64 m.gr, .int .i64 m.la, (.slice vb m.n vbcap), .int .i64 m.m0, .int .i64 m.m1, .int .i64 m.so, .int .i64 m.h0, .int .i64 m.h1, .int .i64 l.gr, .int .i64 l.la, (.slice va l.n vcap), .int .i64 l.m0, .int .i64 l.m1, .int .i64 l.so, .int .i64 l.h0, .int .i64 l.h1] 26)))
 (try (replace kR := kR.alloc (.cells #[.int .i64 l.gr, .int .i64 l.la, (.slice va l.n vcap), .int .i64 l.m0, .int .i64 l.m1, .int .i64 l.so, .int .i64 l.h0, .int .i64 l.h1, .int .i64 m.gr, .int .i64 m.la, (.slice vb m.n vbcap), .int .i64 m.m0, .int .i64 m.m1, .int .i64 m.so, .int .i64 m.h0, .int .i64 m.h1, .int .i64 m.gr, .int .i64 m.la, (.slice vb m.n vbcap), .int .i64 m.m0, .int .i64 m.m1, .int .i64 m.so, .int .i64 m.h0, .int .i64 m.h1, .int .i64 l.gr, .int .i64 l.la, (.slice va l.n vcap), .int .i64 l.m0, .int .i64 l.m1, .int .i64 l.so, .int .i64 l.h0, .int .i64 l.h1] 26)))
 obtain ⟨bkP, hbkP⟩ : ∃ b, Blk.num kP = b := ⟨_, rfl⟩
 obtain ⟨Wn, hWn⟩ : ∃ V, Blk.wld kP = V := ⟨_, rfl⟩
 simp only [Blk.num] at hbkP
 simp only [Blk.wld] at hWn
 rw [hWn] at hH kP ⊢
 (try rw [hWn] at kQ)
 (try rw [hWn] at kR)
 rw [hbkP] at kP ⊢
 clear hbkP hWn
 clear hK K
 (try simp only [cq])
 refine tkY 21 (some 15) ?_ ?_ ?_
 rotate_left
 · intro w _; go_simp; (try with_reducible rfl)
 (try simp only [cq])
 refine wpAnyH_ready (rs := [9, 20]) (by kernel_rfl) (by simp) ?_
 refine arc (some 47) (fun K hK => ?_) ?_
 {
 have zz := hH.size
 go_simp
 first | refine oA hK ?_ (fun hH hA => ?_) | refine oD hK ?_ (fun hH hA => ?_)
 · exact hH.alloc (Nat.le_trans zB3 hH.size) _
 have kQ := hA
 clear hA zz
 (try (replace kP := kP.alloc (.cells #[.int .i64 x.b0, .int .i64 x.b1, .int .i64 x.w0, .int .i64 x.w1, .int .i64 x.q0, .int .i64 x.q1, .int .i64 x.s0, .int .i64 x.s1, .int .i64 y.b0, .int .i64 y.b1, .int .i64 y.w0, .int .i64 y.w1, .int .i64 y.q0, .int .i64 y.q1, .int .i64 y.s0, .int .i64 y.s1, .int .i64 x.b0, .int .i64 x.b1, .int .i64 x.w0, .int .i64 x.w1, .int .i64 x.q0, .int .i64 x.q1, .int .i64 x.s0, .int .i64 x.s1, .int .i64 y.b0, .int .i64 y.b1, .int .i64 y.w0, .int .i64 y.w1, .int .i64 y.q0, .int .i64 y.q1, .int .i64 y.s0, .int .i64 y.s1] 28)))
 (try (replace kR := kR.alloc (.cells #[.int .i64 x.b0, .int .i64 x.b1, .int .i64 x.w0, .int .i64 x.w1, .int .i64 x.q0, .int .i64 x.q1, .int .i64 x.s0, .int .i64 x.s1, .int .i64 y.b0, .int .i64 y.b1, .int .i64 y.w0, .int .i64 y.w1, .int .i64 y.q0, .int .i64 y.q1, .int .i64 y.s0, .int .i64 y.s1, .int .i64 x.b0, .int .i64 x.b1, .int .i64 x.w0, .int .i64 x.w1, .int .i64 x.q0, .int .i64 x.q1, .int .i64 x.s0, .int .i64 x.s1, .int .i64 y.b0, .int .i64 y.b1, .int .i64 y.w0, .int .i64 y.w1, .int .i64 y.q0, .int .i64 y.q1, .int .i64 y.s0, .int .i64 y.s1] 28)))
 obtain ⟨bkQ, hbkQ⟩ : ∃ b, Blk.num kQ = b := ⟨_, rfl⟩
 obtain ⟨Wn, hWn⟩ : ∃ V, Blk.wld kQ = V := ⟨_, rfl⟩
 simp only [Blk.num] at hbkQ
 simp only [Blk.wld] at hWn
 rw [hWn] at hH kQ ⊢
 (try rw [hWn] at kP)
 (try rw [hWn] at kR)
 rw [hbkQ] at kQ ⊢
 clear hbkQ hWn
 clear hK K
 (try simp only [cq])
 refine tkY 22 (some 16) ?_ ?_ ?_
 rotate_left
 · intro w _; go_simp; (try with_reducible rfl)
 (try simp only [cq])
 refine wpAnyH_ready (rs := [20]) (by kernel_rfl) (by simp) ?_
 refine arc1 (some 58) fun K hK => ?_
 have zz := hH.size
 go_simp
 first | refine oA hK ?_ (fun hH hA => ?_) | refine oD hK ?_ (fun hH hA => ?_)
 · exact hH.alloc (Nat.le_trans zB3 hH.size) _
 have kR := hA
 clear hA zz
 (try (replace kP := kP.alloc (.cells #[.int .i64 d.c0, .int .i64 d.c1, .int .i64 d.f0, .int .i64 d.f1, .int .i64 d.wa, .bool d.cl, .int .i64 g.c0, .int .i64 g.c1, .int .i64 g.f0, .int .i64 g.f1, .int .i64 g.wa, .bool g.cl, .int .i64 g.c0, .int .i64 g.c1, .int .i64 g.f0, .int .i64 g.f1, .int .i64 g.wa, .bool g.cl, .int .i64 g.c0, .int .i64 g.c1, .int .i64 g.f0, .int .i64 g.f1, .int .i64 g.wa, .bool g.cl] 30)))
 (try (replace kQ := kQ.alloc (.cells #[.int .i64 d.c0, .int .i64 d.c1, .int .i64 d.f0, .int .i64 d.f1, .int .i64 d.wa, .bool d.cl, .int .i64 g.c0, .int .i64 g.c1, .int .i64 g.f0, .int .i64 g.f1, .int .i64 g.wa, .bool g.cl, .int .i64 g.c0, .int .i64 g.c1, .int .i64 g.f0, .int .i64 g.f1, .int .i64 g.wa, .bool g.cl, .int .i64 g.c0, .int .i64 g.c1, .int .i64 g.f0, .int .i64 g.f1, .int .i64 g.wa, .bool g.cl] 30)))
 obtain ⟨bkR, hbkR⟩ : ∃ b, Blk.num kR = b := ⟨_, rfl⟩
 obtain ⟨Wn, hWn⟩ : ∃ V, Blk.wld kR = V := ⟨_, rfl⟩
 simp only [Blk.num] at hbkR
 simp only [Blk.wld] at hWn
 rw [hWn] at hH kR ⊢
 (try rw [hWn] at kP)
 (try rw [hWn] at kQ)
 rw [hbkR] at kR ⊢
 clear hbkR hWn
 clear hK K
 (try simp only [cq])
 refine tkY 23 (some 17) ?_ ?_ ?_
 rotate_left
 · intro w _; go_simp; (try with_reducible rfl)
 (try simp only [cq])
 refine wpAnyH_done (by kernel_rfl) ?_ _
 (try dsimp only [Act.put])
 (try simp only [cq])
 go_wp2_with fail
 go_meet
 exact ⟨_, _, _, _, _, _, _, _, _, rfl, rfl, rfl, lwArr4 (l, (Value.slice va l.n vcap)) (m, (Value.slice vb m.n vbcap)) (m, (Value.slice vb m.n vbcap)) (l, (Value.slice va l.n vcap)), icArr4 x y x y, dyArr4 d g g g, HCs.out, kP, kQ, kR, hH⟩
 }
 refine arc (some 58) (fun K hK => ?_) ?_
 {
 have zz := hH.size
 go_simp
 first | refine oA hK ?_ (fun hH hA => ?_) | refine oD hK ?_ (fun hH hA => ?_)
 · exact hH.alloc (Nat.le_trans zB3 hH.size) _
 have kR := hA
 clear hA zz
 (try (replace kP := kP.alloc (.cells #[.int .i64 d.c0, .int .i64 d.c1, .int .i64 d.f0, .int .i64 d.f1, .int .i64 d.wa, .bool d.cl, .int .i64 g.c0, .int .i64 g.c1, .int .i64 g.f0, .int .i64 g.f1, .int .i64 g.wa, .bool g.cl, .int .i64 g.c0, .int .i64 g.c1, .int .i64 g.f0, .int .i64 g.f1, .int .i64 g.wa, .bool g.cl, .int .i64 g.c0, .int .i64 g.c1, .int .i64 g.f0, .int .i64 g.f1, .int .i64 g.wa, .bool g.cl] 30)))
 (try (replace kQ := kQ.alloc (.cells #[.int .i64 d.c0, .int .i64 d.c1, .int .i64 d.f0, .int .i64 d.f1, .int .i64 d.wa, .bool d.cl, .int .i64 g.c0, .int .i64 g.c1, .int .i64 g.f0, .int .i64 g.f1, .int .i64 g.wa, .bool g.cl, .int .i64 g.c0, .int .i64 g.c1, .int .i64 g.f0, .int .i64 g.f1, .int .i64 g.wa, .bool g.cl, .int .i64 g.c0, .int .i64 g.c1, .int .i64 g.f0, .int .i64 g.f1, .int .i64 g.wa, .bool g.cl] 30)))
 obtain ⟨bkR, hbkR⟩ : ∃ b, Blk.num kR = b := ⟨_, rfl⟩
 obtain ⟨Wn, hWn⟩ : ∃ V, Blk.wld kR = V := ⟨_, rfl⟩
 simp only [Blk.num] at hbkR
 simp only [Blk.wld] at hWn
 rw [hWn] at hH kR ⊢
 (try rw [hWn] at kP)
 (try rw [hWn] at kQ)
 rw [hbkR] at kR ⊢
 clear hbkR hWn
 clear hK K
 (try simp only [cq])
 refine wpAnyH_ready (rs := [9]) (by kernel_rfl) (by simp) ?_
 refine arc1 (some 47) fun K hK => ?_
 have zz := hH.size
 go_simp
 first | refine oA hK ?_ (fun hH hA => ?_) | refine oD hK ?_ (fun hH hA => ?_)
 · exact hH.alloc (Nat.le_trans zB3 hH.size) _
 have kQ := hA
 clear hA zz
 (try (replace kP := kP.alloc (.cells #[.int .i64 x.b0, .int .i64 x.b1, .int .i64 x.w0, .int .i64 x.w1, .int .i64 x.q0, .int .i64 x.q1, .int .i64 x.s0, .int .i64 x.s1, .int .i64 y.b0, .int .i64 y.b1, .int .i64 y.w0, .int .i64 y.w1, .int .i64 y.q0, .int .i64 y.q1, .int .i64 y.s0, .int .i64 y.s1, .int .i64 x.b0, .int .i64 x.b1, .int .i64 x.w0, .int .i64 x.w1, .int .i64 x.q0, .int .i64 x.q1, .int .i64 x.s0, .int .i64 x.s1, .int .i64 y.b0, .int .i64 y.b1, .int .i64 y.w0, .int .i64 y.w1, .int .i64 y.q0, .int .i64 y.q1, .int .i64 y.s0, .int .i64 y.s1] 28)))
 (try (replace kR := kR.alloc (.cells #[.int .i64 x.b0, .int .i64 x.b1, .int .i64 x.w0, .int .i64 x.w1, .int .i64 x.q0, .int .i64 x.q1, .int .i64 x.s0, .int .i64 x.s1, .int .i64 y.b0, .int .i64 y.b1, .int .i64 y.w0, .int .i64 y.w1, .int .i64 y.q0, .int .i64 y.q1, .int .i64 y.s0, .int .i64 y.s1, .int .i64 x.b0, .int .i64 x.b1, .int .i64 x.w0, .int .i64 x.w1, .int .i64 x.q0, .int .i64 x.q1, .int .i64 x.s0, .int .i64 x.s1, .int .i64 y.b0, .int .i64 y.b1, .int .i64 y.w0, .int .i64 y.w1, .int .i64 y.q0, .int .i64 y.q1, .int .i64 y.s0, .int .i64 y.s1] 28)))
 obtain ⟨bkQ, hbkQ⟩ : ∃ b, Blk.num kQ = b := ⟨_, rfl⟩
 obtain ⟨Wn, hWn⟩ : ∃ V, Blk.wld kQ = V := ⟨_, rfl⟩
 simp only [Blk.num] at hbkQ
 simp only [Blk.wld] at hWn
 rw [hWn] at hH kQ ⊢
 (try rw [hWn] at kP)
 (try rw [hWn] at kR)
 rw [hbkQ] at kQ ⊢
 clear hbkQ hWn
 clear hK K
 (try simp only [cq])
 refine tkY 22 (some 16) ?_ ?_ ?_
 rotate_left
 · intro w _; go_simp; (try with_reducible rfl)
 (try simp only [cq])
 refine tkY 23 (some 17) ?_ ?_ ?_
 rotate_left
 · intro w _; go_simp; (try with_reducible rfl)
 (try simp only [cq])
 refine wpAnyH_done (by kernel_rfl) ?_ _
 (try dsimp only [Act.put])
 (try simp only [cq])
 go_wp2_with fail
 go_meet
 exact ⟨_, _, _, _, _, _, _, _, _, rfl, rfl, rfl, lwArr4 (l, (Value.slice va l.n vcap)) (m, (Value.slice vb m.n vbcap)) (m, (Value.slice vb m.n vbcap)) (l, (Value.slice va l.n vcap)), icArr4 x y x y, dyArr4 d g g g, HCs.out, kP, kQ, kR, hH⟩
 }
 exact AllReadyH.nil
 }
 refine arc (some 47) (fun K hK => ?_) ?_
 {
 have zz := hH.size
 go_simp
 first | refine oA hK ?_ (fun hH hA => ?_) | refine oD hK ?_ (fun hH hA => ?_)
 · exact hH.alloc (Nat.le_trans zB3 hH.size) _
 have kQ := hA
 clear hA zz
 (try (replace kP := kP.alloc (.cells #[.int .i64 x.b0, .int .i64 x.b1, .int .i64 x.w0, .int .i64 x.w1, .int .i64 x.q0, .int .i64 x.q1, .int .i64 x.s0, .int .i64 x.s1, .int .i64 y.b0, .int .i64 y.b1, .int .i64 y.w0, .int .i64 y.w1, .int .i64 y.q0, .int .i64 y.q1, .int .i64 y.s0, .int .i64 y.s1, .int .i64 x.b0, .int .i64 x.b1, .int .i64 x.w0, .int .i64 x.w1, .int .i64 x.q0, .int .i64 x.q1, .int .i64 x.s0, .int .i64 x.s1, .int .i64 y.b0, .int .i64 y.b1, .int .i64 y.w0, .int .i64 y.w1, .int .i64 y.q0, .int .i64 y.q1, .int .i64 y.s0, .int .i64 y.s1] 28)))
 (try (replace kR := kR.alloc (.cells #[.int .i64 x.b0, .int .i64 x.b1, .int .i64 x.w0, .int .i64 x.w1, .int .i64 x.q0, .int .i64 x.q1, .int .i64 x.s0, .int .i64 x.s1, .int .i64 y.b0, .int .i64 y.b1, .int .i64 y.w0, .int .i64 y.w1, .int .i64 y.q0, .int .i64 y.q1, .int .i64 y.s0, .int .i64 y.s1, .int .i64 x.b0, .int .i64 x.b1, .int .i64 x.w0, .int .i64 x.w1, .int .i64 x.q0, .int .i64 x.q1, .int .i64 x.s0, .int .i64 x.s1, .int .i64 y.b0, .int .i64 y.b1, .int .i64 y.w0, .int .i64 y.w1, .int .i64 y.q0, .int .i64 y.q1, .int .i64 y.s0, .int .i64 y.s1] 28)))
 obtain ⟨bkQ, hbkQ⟩ : ∃ b, Blk.num kQ = b := ⟨_, rfl⟩
 obtain ⟨Wn, hWn⟩ : ∃ V, Blk.wld kQ = V := ⟨_, rfl⟩
 simp only [Blk.num] at hbkQ
 simp only [Blk.wld] at hWn
 rw [hWn] at hH kQ ⊢
 (try rw [hWn] at kP)
 (try rw [hWn] at kR)
 rw [hbkQ] at kQ ⊢
 clear hbkQ hWn
 clear hK K
 (try simp only [cq])
 refine wpAnyH_ready (rs := [4, 20]) (by kernel_rfl) (by simp) ?_
 refine arc (some 42) (fun K hK => ?_) ?_
 {
 have zz := hH.size
 go_simp
 first | refine oA hK ?_ (fun hH hA => ?_) | refine oD hK ?_ (fun hH hA => ?_)
 · exact hH.alloc (Nat.le_trans zB3 hH.size) _
 have kP := hA
 clear hA zz
 (try (replace kQ := kQ.alloc (.cells #[.int .i64 l.gr, .int .i64 l.la, (.slice va l.n vcap), .int .i64 l.m0, .int .i64 l.m1, .int .i64 l.so, .int .i64 l.h0, .int .i64 l.h1, .int .i64 m.gr, .int .i64 m.la, (.slice vb m.n vbcap), .int .i64 m.m0, .int .i64 m.m1, .int .i64 m.so, .int .i64 m.h0, .int .i64 m.h1, .int .i64 m.gr, .int .i64 m.la, (.slice vb m.n vbcap), .int .i64 m.m0, .int .i64 m.m1, .int .i64 m.so, .int .i64 m.h0, .int .i64 m.h1, .int .i64 l.gr, .int .i64 l.la, (.slice va l.n vcap), .int .i64 l.m0, .int .i64 l.m1, .int .i64 l.so, .int .i64 l.h0, .int .i64 l.h1] 26)))
 (try (replace kR := kR.alloc (.cells #[.int .i64 l.gr, .int .i64 l.la, (.slice va l.n vcap), .int .i64 l.m0, .int .i64 l.m1, .int .i64 l.so, .int .i64 l.h0, .int .i64 l.h1, .int .i64 m.gr, .int .i64 m.la, (.slice vb m.n vbcap), .int .i64 m.m0, .int .i64 m.m1, .int .i64 m.so, .int .i64 m.h0, .int .i64 m.h1, .int .i64 m.gr, .int .i64 m.la, (.slice vb m.n vbcap), .int .i64 m.m0, .int .i64 m.m1, .int .i64 m.so, .int .i64 m.h0, .int .i64 m.h1, .int .i64 l.gr, .int .i64 l.la, (.slice va l.n vcap), .int .i64 l.m0, .int .i64 l.m1, .int .i64 l.so, .int .i64 l.h0, .int .i64 l.h1] 26)))
 obtain ⟨bkP, hbkP⟩ : ∃ b, Blk.num kP = b := ⟨_, rfl⟩
 obtain ⟨Wn, hWn⟩ : ∃ V, Blk.wld kP = V := ⟨_, rfl⟩
 simp only [Blk.num] at hbkP
 simp only [Blk.wld] at hWn
 rw [hWn] at hH kP ⊢
 (try rw [hWn] at kQ)
 (try rw [hWn] at kR)
 rw [hbkP] at kP ⊢
 clear hbkP hWn
 clear hK K
 (try simp only [cq])
 refine tkY 21 (some 15) ?_ ?_ ?_
 rotate_left
 · intro w _; go_simp; (try with_reducible rfl)
 (try simp only [cq])
 refine tkY 22 (some 16) ?_ ?_ ?_
 rotate_left
 · intro w _; go_simp; (try with_reducible rfl)
 (try simp only [cq])
 refine wpAnyH_ready (rs := [20]) (by kernel_rfl) (by simp) ?_
 refine arc1 (some 58) fun K hK => ?_
 have zz := hH.size
 go_simp
 first | refine oA hK ?_ (fun hH hA => ?_) | refine oD hK ?_ (fun hH hA => ?_)
 · exact hH.alloc (Nat.le_trans zB3 hH.size) _
 have kR := hA
 clear hA zz
 (try (replace kP := kP.alloc (.cells #[.int .i64 d.c0, .int .i64 d.c1, .int .i64 d.f0, .int .i64 d.f1, .int .i64 d.wa, .bool d.cl, .int .i64 g.c0, .int .i64 g.c1, .int .i64 g.f0, .int .i64 g.f1, .int .i64 g.wa, .bool g.cl, .int .i64 g.c0, .int .i64 g.c1, .int .i64 g.f0, .int .i64 g.f1, .int .i64 g.wa, .bool g.cl, .int .i64 g.c0, .int .i64 g.c1, .int .i64 g.f0, .int .i64 g.f1, .int .i64 g.wa, .bool g.cl] 30)))
 (try (replace kQ := kQ.alloc (.cells #[.int .i64 d.c0, .int .i64 d.c1, .int .i64 d.f0, .int .i64 d.f1, .int .i64 d.wa, .bool d.cl, .int .i64 g.c0, .int .i64 g.c1, .int .i64 g.f0, .int .i64 g.f1, .int .i64 g.wa, .bool g.cl, .int .i64 g.c0, .int .i64 g.c1, .int .i64 g.f0, .int .i64 g.f1, .int .i64 g.wa, .bool g.cl, .int .i64 g.c0, .int .i64 g.c1, .int .i64 g.f0, .int .i64 g.f1, .int .i64 g.wa, .bool g.cl] 30)))
 obtain ⟨bkR, hbkR⟩ : ∃ b, Blk.num kR = b := ⟨_, rfl⟩
 obtain ⟨Wn, hWn⟩ : ∃ V, Blk.wld kR = V := ⟨_, rfl⟩
 simp only [Blk.num] at hbkR
 simp only [Blk.wld] at hWn
 rw [hWn] at hH kR ⊢
 (try rw [hWn] at kP)
 (try rw [hWn] at kQ)
 rw [hbkR] at kR ⊢
 clear hbkR hWn
 clear hK K
 (try simp only [cq])
 refine tkY 23 (some 17) ?_ ?_ ?_
 rotate_left
 · intro w _; go_simp; (try with_reducible rfl)
 (try simp only [cq])
 refine wpAnyH_done (by kernel_rfl) ?_ _
 (try dsimp only [Act.put])
 (try simp only [cq])
 go_wp2_with fail
 go_meet
 exact ⟨_, _, _, _, _, _, _, _, _, rfl, rfl, rfl, lwArr4 (l, (Value.slice va l.n vcap)) (m, (Value.slice vb m.n vbcap)) (m, (Value.slice vb m.n vbcap)) (l, (Value.slice va l.n vcap)), icArr4 x y x y, dyArr4 d g g g, HCs.out, kP, kQ, kR, hH⟩
 }
 refine arc (some 58) (fun K hK => ?_) ?_
 {
 have zz := hH.size
 go_simp
 first | refine oA hK ?_ (fun hH hA => ?_) | refine oD hK ?_ (fun hH hA => ?_)
 · exact hH.alloc (Nat.le_trans zB3 hH.size) _
 have kR := hA
 clear hA zz
 (try (replace kP := kP.alloc (.cells #[.int .i64 d.c0, .int .i64 d.c1, .int .i64 d.f0, .int .i64 d.f1, .int .i64 d.wa, .bool d.cl, .int .i64 g.c0, .int .i64 g.c1, .int .i64 g.f0, .int .i64 g.f1, .int .i64 g.wa, .bool g.cl, .int .i64 g.c0, .int .i64 g.c1, .int .i64 g.f0, .int .i64 g.f1, .int .i64 g.wa, .bool g.cl, .int .i64 g.c0, .int .i64 g.c1, .int .i64 g.f0, .int .i64 g.f1, .int .i64 g.wa, .bool g.cl] 30)))
 (try (replace kQ := kQ.alloc (.cells #[.int .i64 d.c0, .int .i64 d.c1, .int .i64 d.f0, .int .i64 d.f1, .int .i64 d.wa, .bool d.cl, .int .i64 g.c0, .int .i64 g.c1, .int .i64 g.f0, .int .i64 g.f1, .int .i64 g.wa, .bool g.cl, .int .i64 g.c0, .int .i64 g.c1, .int .i64 g.f0, .int .i64 g.f1, .int .i64 g.wa, .bool g.cl, .int .i64 g.c0, .int .i64 g.c1, .int .i64 g.f0, .int .i64 g.f1, .int .i64 g.wa, .bool g.cl] 30)))
 obtain ⟨bkR, hbkR⟩ : ∃ b, Blk.num kR = b := ⟨_, rfl⟩
 obtain ⟨Wn, hWn⟩ : ∃ V, Blk.wld kR = V := ⟨_, rfl⟩
 simp only [Blk.num] at hbkR
 simp only [Blk.wld] at hWn
 rw [hWn] at hH kR ⊢
 (try rw [hWn] at kP)
 (try rw [hWn] at kQ)
 rw [hbkR] at kR ⊢
 clear hbkR hWn
 clear hK K
 (try simp only [cq])
 refine wpAnyH_ready (rs := [4]) (by kernel_rfl) (by simp) ?_
 refine arc1 (some 42) fun K hK => ?_
 have zz := hH.size
 go_simp
 first | refine oA hK ?_ (fun hH hA => ?_) | refine oD hK ?_ (fun hH hA => ?_)
 · exact hH.alloc (Nat.le_trans zB3 hH.size) _
 have kP := hA
 clear hA zz
 (try (replace kQ := kQ.alloc (.cells #[.int .i64 l.gr, .int .i64 l.la, (.slice va l.n vcap), .int .i64 l.m0, .int .i64 l.m1, .int .i64 l.so, .int .i64 l.h0, .int .i64 l.h1, .int .i64 m.gr, .int .i64 m.la, (.slice vb m.n vbcap), .int .i64 m.m0, .int .i64 m.m1, .int .i64 m.so, .int .i64 m.h0, .int .i64 m.h1, .int .i64 m.gr, .int .i64 m.la, (.slice vb m.n vbcap), .int .i64 m.m0, .int .i64 m.m1, .int .i64 m.so, .int .i64 m.h0, .int .i64 m.h1, .int .i64 l.gr, .int .i64 l.la, (.slice va l.n vcap), .int .i64 l.m0, .int .i64 l.m1, .int .i64 l.so, .int .i64 l.h0, .int .i64 l.h1] 26)))
 (try (replace kR := kR.alloc (.cells #[.int .i64 l.gr, .int .i64 l.la, (.slice va l.n vcap), .int .i64 l.m0, .int .i64 l.m1, .int .i64 l.so, .int .i64 l.h0, .int .i64 l.h1, .int .i64 m.gr, .int .i64 m.la, (.slice vb m.n vbcap), .int .i64 m.m0, .int .i64 m.m1, .int .i64 m.so, .int .i64 m.h0, .int .i64 m.h1, .int .i64 m.gr, .int .i64 m.la, (.slice vb m.n vbcap), .int .i64 m.m0, .int .i64 m.m1, .int .i64 m.so, .int .i64 m.h0, .int .i64 m.h1, .int .i64 l.gr, .int .i64 l.la, (.slice va l.n vcap), .int .i64 l.m0, .int .i64 l.m1, .int .i64 l.so, .int .i64 l.h0, .int .i64 l.h1] 26)))
 obtain ⟨bkP, hbkP⟩ : ∃ b, Blk.num kP = b := ⟨_, rfl⟩
 obtain ⟨Wn, hWn⟩ : ∃ V, Blk.wld kP = V := ⟨_, rfl⟩
 simp only [Blk.num] at hbkP
 simp only [Blk.wld] at hWn
 rw [hWn] at hH kP ⊢
 (try rw [hWn] at kQ)
 (try rw [hWn] at kR)
 rw [hbkP] at kP ⊢
 clear hbkP hWn
 clear hK K
 (try simp only [cq])
 refine tkY 21 (some 15) ?_ ?_ ?_
 rotate_left
 · intro w _; go_simp; (try with_reducible rfl)
 (try simp only [cq])
 refine tkY 22 (some 16) ?_ ?_ ?_
 rotate_left
 · intro w _; go_simp; (try with_reducible rfl)
 (try simp only [cq])
 refine tkY 23 (some 17) ?_ ?_ ?_
 rotate_left
 · intro w _; go_simp; (try with_reducible rfl)
 (try simp only [cq])
 refine wpAnyH_done (by kernel_rfl) ?_ _
 (try dsimp only [Act.put])
 (try simp only [cq])
 go_wp2_with fail
 go_meet
 exact ⟨_, _, _, _, _, _, _, _, _, rfl, rfl, rfl, lwArr4 (l, (Value.slice va l.n vcap)) (m, (Value.slice vb m.n vbcap)) (m, (Value.slice vb m.n vbcap)) (l, (Value.slice va l.n vcap)), icArr4 x y x y, dyArr4 d g g g, HCs.out, kP, kQ, kR, hH⟩
 }
 exact AllReadyH.nil
 }
 refine arc (some 58) (fun K hK => ?_) ?_
 {
 have zz := hH.size
 go_simp
 first | refine oA hK ?_ (fun hH hA => ?_) | refine oD hK ?_ (fun hH hA => ?_)
 · exact hH.alloc (Nat.le_trans zB3 hH.size) _
 have kR := hA
 clear hA zz
 (try (replace kP := kP.alloc (.cells #[.int .i64 d.c0, .int .i64 d.c1, .int .i64 d.f0, .int .i64 d.f1, .int .i64 d.wa, .bool d.cl, .int .i64 g.c0, .int .i64 g.c1, .int .i64 g.f0, .int .i64 g.f1, .int .i64 g.wa, .bool g.cl, .int .i64 g.c0, .int .i64 g.c1, .int .i64 g.f0, .int .i64 g.f1, .int .i64 g.wa, .bool g.cl, .int .i64 g.c0, .int .i64 g.c1, .int .i64 g.f0, .int .i64 g.f1, .int .i64 g.wa, .bool g.cl] 30)))
 (try (replace kQ := kQ.alloc (.cells #[.int .i64 d.c0, .int .i64 d.c1, .int .i64 d.f0, .int .i64 d.f1, .int .i64 d.wa, .bool d.cl, .int .i64 g.c0, .int .i64 g.c1, .int .i64 g.f0, .int .i64 g.f1, .int .i64 g.wa, .bool g.cl, .int .i64 g.c0, .int .i64 g.c1, .int .i64 g.f0, .int .i64 g.f1, .int .i64 g.wa, .bool g.cl, .int .i64 g.c0, .int .i64 g.c1, .int .i64 g.f0, .int .i64 g.f1, .int .i64 g.wa, .bool g.cl] 30)))
 obtain ⟨bkR, hbkR⟩ : ∃ b, Blk.num kR = b := ⟨_, rfl⟩
 obtain ⟨Wn, hWn⟩ : ∃ V, Blk.wld kR = V := ⟨_, rfl⟩
 simp only [Blk.num] at hbkR
 simp only [Blk.wld] at hWn
 rw [hWn] at hH kR ⊢
 (try rw [hWn] at kP)
 (try rw [hWn] at kQ)
 rw [hbkR] at kR ⊢
 clear hbkR hWn
 clear hK K
 (try simp only [cq])
 refine wpAnyH_ready (rs := [4, 9]) (by kernel_rfl) (by simp) ?_
 refine arc (some 42) (fun K hK => ?_) ?_
 {
 have zz := hH.size
 go_simp
 first | refine oA hK ?_ (fun hH hA => ?_) | refine oD hK ?_ (fun hH hA => ?_)
 · exact hH.alloc (Nat.le_trans zB3 hH.size) _
 have kP := hA
 clear hA zz
 (try (replace kQ := kQ.alloc (.cells #[.int .i64 l.gr, .int .i64 l.la, (.slice va l.n vcap), .int .i64 l.m0, .int .i64 l.m1, .int .i64 l.so, .int .i64 l.h0, .int .i64 l.h1, .int .i64 m.gr, .int .i64 m.la, (.slice vb m.n vbcap), .int .i64 m.m0, .int .i64 m.m1, .int .i64 m.so, .int .i64 m.h0, .int .i64 m.h1, .int .i64 m.gr, .int .i64 m.la, (.slice vb m.n vbcap), .int .i64 m.m0, .int .i64 m.m1, .int .i64 m.so, .int .i64 m.h0, .int .i64 m.h1, .int .i64 l.gr, .int .i64 l.la, (.slice va l.n vcap), .int .i64 l.m0, .int .i64 l.m1, .int .i64 l.so, .int .i64 l.h0, .int .i64 l.h1] 26)))
 (try (replace kR := kR.alloc (.cells #[.int .i64 l.gr, .int .i64 l.la, (.slice va l.n vcap), .int .i64 l.m0, .int .i64 l.m1, .int .i64 l.so, .int .i64 l.h0, .int .i64 l.h1, .int .i64 m.gr, .int .i64 m.la, (.slice vb m.n vbcap), .int .i64 m.m0, .int .i64 m.m1, .int .i64 m.so, .int .i64 m.h0, .int .i64 m.h1, .int .i64 m.gr, .int .i64 m.la, (.slice vb m.n vbcap), .int .i64 m.m0, .int .i64 m.m1, .int .i64 m.so, .int .i64 m.h0, .int .i64 m.h1, .int .i64 l.gr, .int .i64 l.la, (.slice va l.n vcap), .int .i64 l.m0, .int .i64 l.m1, .int .i64 l.so, .int .i64 l.h0, .int .i64 l.h1] 26)))
 obtain ⟨bkP, hbkP⟩ : ∃ b, Blk.num kP = b := ⟨_, rfl⟩
 obtain ⟨Wn, hWn⟩ : ∃ V, Blk.wld kP = V := ⟨_, rfl⟩
 simp only [Blk.num] at hbkP
 simp only [Blk.wld] at hWn
 rw [hWn] at hH kP ⊢
 (try rw [hWn] at kQ)
 (try rw [hWn] at kR)
 rw [hbkP] at kP ⊢
 clear hbkP hWn
 clear hK K
 (try simp only [cq])
 refine tkY 21 (some 15) ?_ ?_ ?_
 rotate_left
 · intro w _; go_simp; (try with_reducible rfl)
 (try simp only [cq])
 refine wpAnyH_ready (rs := [9]) (by kernel_rfl) (by simp) ?_
 refine arc1 (some 47) fun K hK => ?_
 have zz := hH.size
 go_simp
 first | refine oA hK ?_ (fun hH hA => ?_) | refine oD hK ?_ (fun hH hA => ?_)
 · exact hH.alloc (Nat.le_trans zB3 hH.size) _
 have kQ := hA
 clear hA zz
 (try (replace kP := kP.alloc (.cells #[.int .i64 x.b0, .int .i64 x.b1, .int .i64 x.w0, .int .i64 x.w1, .int .i64 x.q0, .int .i64 x.q1, .int .i64 x.s0, .int .i64 x.s1, .int .i64 y.b0, .int .i64 y.b1, .int .i64 y.w0, .int .i64 y.w1, .int .i64 y.q0, .int .i64 y.q1, .int .i64 y.s0, .int .i64 y.s1, .int .i64 x.b0, .int .i64 x.b1, .int .i64 x.w0, .int .i64 x.w1, .int .i64 x.q0, .int .i64 x.q1, .int .i64 x.s0, .int .i64 x.s1, .int .i64 y.b0, .int .i64 y.b1, .int .i64 y.w0, .int .i64 y.w1, .int .i64 y.q0, .int .i64 y.q1, .int .i64 y.s0, .int .i64 y.s1] 28)))
 (try (replace kR := kR.alloc (.cells #[.int .i64 x.b0, .int .i64 x.b1, .int .i64 x.w0, .int .i64 x.w1, .int .i64 x.q0, .int .i64 x.q1, .int .i64 x.s0, .int .i64 x.s1, .int .i64 y.b0, .int .i64 y.b1, .int .i64 y.w0, .int .i64 y.w1, .int .i64 y.q0, .int .i64 y.q1, .int .i64 y.s0, .int .i64 y.s1, .int .i64 x.b0, .int .i64 x.b1, .int .i64 x.w0, .int .i64 x.w1, .int .i64 x.q0, .int .i64 x.q1, .int .i64 x.s0, .int .i64 x.s1, .int .i64 y.b0, .int .i64 y.b1, .int .i64 y.w0, .int .i64 y.w1, .int .i64 y.q0, .int .i64 y.q1, .int .i64 y.s0, .int .i64 y.s1] 28)))
 obtain ⟨bkQ, hbkQ⟩ : ∃ b, Blk.num kQ = b := ⟨_, rfl⟩
 obtain ⟨Wn, hWn⟩ : ∃ V, Blk.wld kQ = V := ⟨_, rfl⟩
 simp only [Blk.num] at hbkQ
 simp only [Blk.wld] at hWn
 rw [hWn] at hH kQ ⊢
 (try rw [hWn] at kP)
 (try rw [hWn] at kR)
 rw [hbkQ] at kQ ⊢
 clear hbkQ hWn
 clear hK K
 (try simp only [cq])
 refine tkY 22 (some 16) ?_ ?_ ?_
 rotate_left
 · intro w _; go_simp; (try with_reducible rfl)
 (try simp only [cq])
 refine tkY 23 (some 17) ?_ ?_ ?_
 rotate_left
 · intro w _; go_simp; (try with_reducible rfl)
 (try simp only [cq])
 refine wpAnyH_done (by kernel_rfl) ?_ _
 (try dsimp only [Act.put])
 (try simp only [cq])
 go_wp2_with fail
 go_meet
 exact ⟨_, _, _, _, _, _, _, _, _, rfl, rfl, rfl, lwArr4 (l, (Value.slice va l.n vcap)) (m, (Value.slice vb m.n vbcap)) (m, (Value.slice vb m.n vbcap)) (l, (Value.slice va l.n vcap)), icArr4 x y x y, dyArr4 d g g g, HCs.out, kP, kQ, kR, hH⟩
 }
 refine arc (some 47) (fun K hK => ?_) ?_
 {
 have zz := hH.size
 go_simp
 first | refine oA hK ?_ (fun hH hA => ?_) | refine oD hK ?_ (fun hH hA => ?_)
 · exact hH.alloc (Nat.le_trans zB3 hH.size) _
 have kQ := hA
 clear hA zz
 (try (replace kP := kP.alloc (.cells #[.int .i64 x.b0, .int .i64 x.b1, .int .i64 x.w0, .int .i64 x.w1, .int .i64 x.q0, .int .i64 x.q1, .int .i64 x.s0, .int .i64 x.s1, .int .i64 y.b0, .int .i64 y.b1, .int .i64 y.w0, .int .i64 y.w1, .int .i64 y.q0, .int .i64 y.q1, .int .i64 y.s0, .int .i64 y.s1, .int .i64 x.b0, .int .i64 x.b1, .int .i64 x.w0, .int .i64 x.w1, .int .i64 x.q0, .int .i64 x.q1, .int .i64 x.s0, .int .i64 x.s1, .int .i64 y.b0, .int .i64 y.b1, .int .i64 y.w0, .int .i64 y.w1, .int .i64 y.q0, .int .i64 y.q1, .int .i64 y.s0, .int .i64 y.s1] 28)))
 (try (replace kR := kR.alloc (.cells #[.int .i64 x.b0, .int .i64 x.b1, .int .i64 x.w0, .int .i64 x.w1, .int .i64 x.q0, .int .i64 x.q1, .int .i64 x.s0, .int .i64 x.s1, .int .i64 y.b0, .int .i64 y.b1, .int .i64 y.w0, .int .i64 y.w1, .int .i64 y.q0, .int .i64 y.q1, .int .i64 y.s0, .int .i64 y.s1, .int .i64 x.b0, .int .i64 x.b1, .int .i64 x.w0, .int .i64 x.w1, .int .i64 x.q0, .int .i64 x.q1, .int .i64 x.s0, .int .i64 x.s1, .int .i64 y.b0, .int .i64 y.b1, .int .i64 y.w0, .int .i64 y.w1, .int .i64 y.q0, .int .i64 y.q1, .int .i64 y.s0, .int .i64 y.s1] 28)))
 obtain ⟨bkQ, hbkQ⟩ : ∃ b, Blk.num kQ = b := ⟨_, rfl⟩
 obtain ⟨Wn, hWn⟩ : ∃ V, Blk.wld kQ = V := ⟨_, rfl⟩
 simp only [Blk.num] at hbkQ
 simp only [Blk.wld] at hWn
 rw [hWn] at hH kQ ⊢
 (try rw [hWn] at kP)
 (try rw [hWn] at kR)
 rw [hbkQ] at kQ ⊢
 clear hbkQ hWn
 clear hK K
 (try simp only [cq])
 refine wpAnyH_ready (rs := [4]) (by kernel_rfl) (by simp) ?_
 refine arc1 (some 42) fun K hK => ?_
 have zz := hH.size
 go_simp
 first | refine oA hK ?_ (fun hH hA => ?_) | refine oD hK ?_ (fun hH hA => ?_)
 · exact hH.alloc (Nat.le_trans zB3 hH.size) _
 have kP := hA
 clear hA zz
 (try (replace kQ := kQ.alloc (.cells #[.int .i64 l.gr, .int .i64 l.la, (.slice va l.n vcap), .int .i64 l.m0, .int .i64 l.m1, .int .i64 l.so, .int .i64 l.h0, .int .i64 l.h1, .int .i64 m.gr, .int .i64 m.la, (.slice vb m.n vbcap), .int .i64 m.m0, .int .i64 m.m1, .int .i64 m.so, .int .i64 m.h0, .int .i64 m.h1, .int .i64 m.gr, .int .i64 m.la, (.slice vb m.n vbcap), .int .i64 m.m0, .int .i64 m.m1, .int .i64 m.so, .int .i64 m.h0, .int .i64 m.h1, .int .i64 l.gr, .int .i64 l.la, (.slice va l.n vcap), .int .i64 l.m0, .int .i64 l.m1, .int .i64 l.so, .int .i64 l.h0, .int .i64 l.h1] 26)))
 (try (replace kR := kR.alloc (.cells #[.int .i64 l.gr, .int .i64 l.la, (.slice va l.n vcap), .int .i64 l.m0, .int .i64 l.m1, .int .i64 l.so, .int .i64 l.h0, .int .i64 l.h1, .int .i64 m.gr, .int .i64 m.la, (.slice vb m.n vbcap), .int .i64 m.m0, .int .i64 m.m1, .int .i64 m.so, .int .i64 m.h0, .int .i64 m.h1, .int .i64 m.gr, .int .i64 m.la, (.slice vb m.n vbcap), .int .i64 m.m0, .int .i64 m.m1, .int .i64 m.so, .int .i64 m.h0, .int .i64 m.h1, .int .i64 l.gr, .int .i64 l.la, (.slice va l.n vcap), .int .i64 l.m0, .int .i64 l.m1, .int .i64 l.so, .int .i64 l.h0, .int .i64 l.h1] 26)))
 obtain ⟨bkP, hbkP⟩ : ∃ b, Blk.num kP = b := ⟨_, rfl⟩
 obtain ⟨Wn, hWn⟩ : ∃ V, Blk.wld kP = V := ⟨_, rfl⟩
 simp only [Blk.num] at hbkP
 simp only [Blk.wld] at hWn
 rw [hWn] at hH kP ⊢
 (try rw [hWn] at kQ)
 (try rw [hWn] at kR)
 rw [hbkP] at kP ⊢
 clear hbkP hWn
 clear hK K
 (try simp only [cq])
 refine tkY 21 (some 15) ?_ ?_ ?_
 rotate_left
 · intro w _; go_simp; (try with_reducible rfl)
 (try simp only [cq])
 refine tkY 22 (some 16) ?_ ?_ ?_
 rotate_left
 · intro w _; go_simp; (try with_reducible rfl)
 (try simp only [cq])
 refine tkY 23 (some 17) ?_ ?_ ?_
 rotate_left
 · intro w _; go_simp; (try with_reducible rfl)
 (try simp only [cq])
 refine wpAnyH_done (by kernel_rfl) ?_ _
 (try dsimp only [Act.put])
 (try simp only [cq])
 go_wp2_with fail
 go_meet
 exact ⟨_, _, _, _, _, _, _, _, _, rfl, rfl, rfl, lwArr4 (l, (Value.slice va l.n vcap)) (m, (Value.slice vb m.n vbcap)) (m, (Value.slice vb m.n vbcap)) (l, (Value.slice va l.n vcap)), icArr4 x y x y, dyArr4 d g g g, HCs.out, kP, kQ, kR, hH⟩
 }
 exact AllReadyH.nil
 }
 exact AllReadyH.nil )
    case rest =>
      obtain ⟨b1, b2, b3, A1, A2, A3, ls, xs, ds, rfl, rfl, rfl, h1, h2, h3, h4, j1, j2, j3, hb⟩ := hcut
      have H1 := Lib.hid h1
      have H2 := Lib.hid h2
      have H3 := Lib.hid h3
      have H4 := Lib.hid h4
      clear h1 h2 h3 h4 g0 g1 g2 g3 g4 g5 zg jL jX jD jM jY kC kC2
      have KS := Lib.hid kS
      have KB := Lib.hid kB
      clear kS kB
      go_wp2_with fail
      go_loopw [18] (fun i wr => ∃ k : Nat, k ≤ 4 ∧ i = .int .i64 k ∧ Blk wr b1 A1 26 ∧ Blk wr b2 A2 28 ∧ Blk wr b3 A3 30 ∧ Below B3 V2 wr) (fun i _ => 4 - (intOf i).toNat)
      case atStart => exact ⟨0, Nat.zero_le _, rfl, j1, j2, j3, hb⟩
      case round =>
        clear j1 j2 j3 hb
        obtain ⟨k, hk, rfl, j1, j2, j3, hb⟩ := hrel
        by_cases hlt : k < 4
        · obtain ⟨⟨q, vq0⟩, hlv⟩ : ∃ z, ls k = z := ⟨_, rfl⟩
          have hcv : CovAt V2 vq0 q.n q.D q.P0 q.P1 := by have := H4.out k hlt; rw [hlv] at this; exact this
          have HCV := Lib.hid hcv
          obtain ⟨vq, vqcap, rfl, zz1, zz2, zz3⟩ := hcv
          clear zz1 zz2 zz3
          obtain ⟨xk, hxk⟩ : ∃ z, xs k = z := ⟨_, rfl⟩
          obtain ⟨dk, hdk⟩ : ∃ z, ds k = z := ⟨_, rfl⟩
          have R1 := Lib.hid (fun (W : World) (h : Blk W b1 A1 26) => H1.out.cells h hlt)
          have R2 := Lib.hid (fun (W : World) (h : Blk W b2 A2 28) => H2.out.cells h hlt)
          have R3 := Lib.hid (fun (W : World) (h : Blk W b3 A3 30) => H3.out.cells h hlt)
          rw [hlv] at R1
          rw [hxk] at R2
          rw [hdk] at R3
          dsimp only at R1
          simp only [Nat.zero_add] at R2
          clear hlv hxk hdk
          obtain ⟨sv, hsv⟩ : ∃ z, stepV q xk dk = z := ⟨_, rfl⟩
          obtain ⟨E, hE⟩ : ∃ z, eStep q xk dk = z := ⟨_, rfl⟩
          obtain ⟨EL, hEL⟩ : ∃ z, eLaw q.gr q.la q.n q.D q.P0 q.P1 q.m0 q.m1 q.so q.h0 q.h1 = z := ⟨_, rfl⟩
          obtain ⟨EI, hEI⟩ : ∃ z, xk.e = z := ⟨_, rfl⟩
          have K1 : Hid (∀ W, Below B3 V2 W → Calls Try.prog 17 #[.agg #[.int .i64 q.gr, .int .i64 q.la, (.slice vq q.n vqcap), .int .i64 q.m0, .int .i64 q.m1, .int .i64 q.so, .int .i64 q.h0, .int .i64 q.h1], .agg #[.int .i64 xk.b0, .int .i64 xk.b1, .int .i64 xk.w0, .int .i64 xk.w1, .int .i64 xk.q0, .int .i64 xk.q1, .int .i64 xk.s0, .int .i64 xk.s1], .agg #[.int .i64 dk.c0, .int .i64 dk.c1, .int .i64 dk.f0, .int .i64 dk.f1, .int .i64 dk.wa, .bool dk.cl]] W fun e w' => e = .returned (.tuple #[.agg #[.int .i64 sv.b0, .int .i64 sv.b1, .int .i64 sv.w0, .int .i64 sv.w1, .int .i64 sv.q0, .int .i64 sv.q1, .int .i64 sv.s0, .int .i64 sv.s1], .int .i64 E]) ∧ Below W.heap.size W w') := fun W hW => by
            rw [← HB3.out] at hW
            have h := fStep_any q xk dk (.slice vq q.n vqcap) W (HCV.out.later hW)
            rw [hsv, hE] at h
            exact h
          have K2 : Hid (∀ W, Below B3 V2 W → Calls Try.prog 18 #[.agg #[.int .i64 q.gr, .int .i64 q.la, (.slice vq q.n vqcap), .int .i64 q.m0, .int .i64 q.m1, .int .i64 q.so, .int .i64 q.h0, .int .i64 q.h1], .agg #[.int .i64 xk.b0, .int .i64 xk.b1, .int .i64 xk.w0, .int .i64 xk.w1, .int .i64 xk.q0, .int .i64 xk.q1, .int .i64 xk.s0, .int .i64 xk.s1], .agg #[.int .i64 dk.c0, .int .i64 dk.c1, .int .i64 dk.f0, .int .i64 dk.f1, .int .i64 dk.wa, .bool dk.cl]] W fun e w' => e = .returned (.tuple #[.agg #[.int .i64 sv.b0, .int .i64 sv.b1, .int .i64 sv.w0, .int .i64 sv.w1, .int .i64 sv.q0, .int .i64 sv.q1, .int .i64 sv.s0, .int .i64 sv.s1], .int .i64 E]) ∧ Below W.heap.size W w') := fun W hW => by
            rw [← HB3.out] at hW
            have h := rStep_any q xk dk (.slice vq q.n vqcap) W (HCV.out.later hW)
            rw [hsv, hE] at h
            exact h
          have K3 : Hid (∀ W, Below B3 V2 W → Calls Try.prog 19 #[.agg #[.int .i64 q.gr, .int .i64 q.la, (.slice vq q.n vqcap), .int .i64 q.m0, .int .i64 q.m1, .int .i64 q.so, .int .i64 q.h0, .int .i64 q.h1]] W fun e w' => e = .returned (.int .i64 EL) ∧ Below W.heap.size W w') := fun W hW => by
            rw [← HB3.out] at hW
            have h := law_any q.gr q.la (.slice vq q.n vqcap) q.n q.D q.P0 q.P1 q.m0 q.m1 q.so q.h0 q.h1 W (HCV.out.later hW)
            rw [hEL] at h
            exact h
          have K4 : Hid (∀ W, Below B3 V2 W → Calls Try.prog 20 #[.agg #[.int .i64 q.gr, .int .i64 q.la, (.slice vq q.n vqcap), .int .i64 q.m0, .int .i64 q.m1, .int .i64 q.so, .int .i64 q.h0, .int .i64 q.h1]] W fun e w' => e = .returned (.int .i64 EL) ∧ Below W.heap.size W w') := fun W hW => by
            rw [← HB3.out] at hW
            have h := rlaw_any q.gr q.la (.slice vq q.n vqcap) q.n q.D q.P0 q.P1 q.m0 q.m1 q.so q.h0 q.h1 W (HCV.out.later hW)
            rw [hEL] at h
            exact h
          have K5 : Hid (∀ W, Below B3 V2 W → Calls Try.prog 21 #[.agg #[.int .i64 xk.b0, .int .i64 xk.b1, .int .i64 xk.w0, .int .i64 xk.w1, .int .i64 xk.q0, .int .i64 xk.q1, .int .i64 xk.s0, .int .i64 xk.s1]] W fun e w' => e = .returned (.int .i64 EI) ∧ Below W.heap.size W w') := fun W hW => by
            rw [← HB3.out] at hW
            have h := ice_any xk.b0 xk.b1 xk.w0 xk.w1 xk.q0 xk.q1 xk.s0 xk.s1 W
            rw [show eIce xk.b0 xk.b1 xk.w0 xk.w1 xk.q0 xk.q1 xk.s0 xk.s1 = EI from hEI] at h
            exact h
          have K6 : Hid (∀ W, Below B3 V2 W → Calls Try.prog 22 #[.agg #[.int .i64 xk.b0, .int .i64 xk.b1, .int .i64 xk.w0, .int .i64 xk.w1, .int .i64 xk.q0, .int .i64 xk.q1, .int .i64 xk.s0, .int .i64 xk.s1]] W fun e w' => e = .returned (.int .i64 EI) ∧ Below W.heap.size W w') := fun W hW => by
            rw [← HB3.out] at hW
            have h := rice_any xk W
            rw [hEI] at h
            exact h
          clear hsv hE hEL hEI
          go_upto_region 10 with fail
          go_cut [19, 20] (fun s19 s20 wx => ∃ bA : Nat, s19 = .pointer (some ⟨bA, 0, none⟩) ∧ s20 = .int .i64 E ∧ Blk wx bA #[.int .i64 sv.b0, .int .i64 sv.b1, .int .i64 sv.w0, .int .i64 sv.w1, .int .i64 sv.q0, .int .i64 sv.q1, .int .i64 sv.s0, .int .i64 sv.s1] 28 ∧ Blk wx b1 A1 26 ∧ Blk wx b2 A2 28 ∧ Blk wx b3 A3 30 ∧ Below B3 V2 wx)
          case first =>
            (
 let S9 : World → Prop := (fun w' => Blk w' b1 A1 26 ∧ Blk w' b2 A2 28 ∧ Blk w' b3 A3 30 ∧ Below B3 V2 w')
 refine wp_region_held_drew (S := S9) (by kernel_rfl) ?_ (fun hH => ?_)
 · (try dsimp only); (exact ⟨j1.drew, j2.drew, j3.drew, hb.drew⟩)
 apply share0 (fun (bA : Nat) (W : World) => S9 W ∧ Blk W bA #[.int .i64 0, .int .i64 0, .int .i64 0, .int .i64 0, .int .i64 0, .int .i64 0, .int .i64 0, .int .i64 0] 28 ∧ (B3 ≤ bA) ∧ (b1 < bA) ∧ (b2 < bA) ∧ (b3 < bA))
 {
 intro X1
 apply share0 (fun (bA : Nat) (W : World) => S9 W ∧ Blk W bA #[.int .i64 0, .int .i64 0, .int .i64 0, .int .i64 0, .int .i64 0, .int .i64 0, .int .i64 0, .int .i64 0] 28 ∧ (B3 ≤ bA) ∧ (b1 < bA) ∧ (b2 < bA) ∧ (b3 < bA))
 {
 intro X0
 refine tkY 0 (some 66) ?_ ?_ ?_
 rotate_left
 · intro w _; go_simp; (try with_reducible rfl)
 (try simp only [cq])
 refine tkY 1 (some 67) ?_ ?_ ?_
 rotate_left
 · intro w _; go_simp; (try with_reducible rfl)
 (try simp only [cq])
 refine tkY 2 (some 68) ?_ ?_ ?_
 rotate_left
 · intro w hS0; (try dsimp only at hS0); obtain ⟨k1, k2, k3, _⟩ := hS0; obtain ⟨l0, l1, l2, l3, l4, l5, l6, l7⟩ := R1.out _ k1; obtain ⟨a0, a1, a2, a3, a4, a5, a6, a7⟩ := R2.out _ k2; obtain ⟨c0, c1, c2, c3, c4, c5⟩ := R3.out _ k3; have z1 := k1.lt; have z2 := k2.lt; have z3 := k3.lt;go_simp; (try with_reducible rfl)
 (try simp only [cq])
 refine tkY 3 (some 69) ?_ ?_ ?_
 rotate_left
 · intro w hS0; (try dsimp only at hS0); obtain ⟨k1, k2, k3, _⟩ := hS0; obtain ⟨l0, l1, l2, l3, l4, l5, l6, l7⟩ := R1.out _ k1; obtain ⟨a0, a1, a2, a3, a4, a5, a6, a7⟩ := R2.out _ k2; obtain ⟨c0, c1, c2, c3, c4, c5⟩ := R3.out _ k3; have z1 := k1.lt; have z2 := k2.lt; have z3 := k3.lt;go_simp; (try with_reducible rfl)
 (try simp only [cq])
 refine tkY 4 (some 70) ?_ ?_ ?_
 rotate_left
 · intro w _; go_simp; (try with_reducible rfl)
 (try simp only [cq])
 refine tkY 5 (some 71) ?_ ?_ ?_
 rotate_left
 · intro w _; go_simp; (try with_reducible rfl)
 (try simp only [cq])
 refine tkY 6 (some 72) ?_ ?_ ?_
 rotate_left
 · intro w hS0; (try dsimp only at hS0); obtain ⟨k1, k2, k3, _⟩ := hS0; obtain ⟨l0, l1, l2, l3, l4, l5, l6, l7⟩ := R1.out _ k1; obtain ⟨a0, a1, a2, a3, a4, a5, a6, a7⟩ := R2.out _ k2; obtain ⟨c0, c1, c2, c3, c4, c5⟩ := R3.out _ k3; have z1 := k1.lt; have z2 := k2.lt; have z3 := k3.lt;go_simp; (try with_reducible rfl)
 (try simp only [cq])
 refine tkY 7 (some 73) ?_ ?_ ?_
 rotate_left
 · intro w hS0; (try dsimp only at hS0); obtain ⟨k1, k2, k3, _⟩ := hS0; obtain ⟨l0, l1, l2, l3, l4, l5, l6, l7⟩ := R1.out _ k1; obtain ⟨a0, a1, a2, a3, a4, a5, a6, a7⟩ := R2.out _ k2; obtain ⟨c0, c1, c2, c3, c4, c5⟩ := R3.out _ k3; have z1 := k1.lt; have z2 := k2.lt; have z3 := k3.lt;go_simp; (try with_reducible rfl)
 (try simp only [cq])
 refine tkY 8 (some 74) ?_ ?_ ?_
 rotate_left
 · intro w _; go_simp; (try with_reducible rfl)
 (try simp only [cq])
 refine tkY 9 (some 75) ?_ ?_ ?_
 rotate_left
 · intro w _; go_simp; (try with_reducible rfl)
 (try simp only [cq])
 refine tkY 10 (some 76) ?_ ?_ ?_
 rotate_left
 · intro w hS0; (try dsimp only at hS0); obtain ⟨k1, k2, k3, _⟩ := hS0; obtain ⟨l0, l1, l2, l3, l4, l5, l6, l7⟩ := R1.out _ k1; obtain ⟨a0, a1, a2, a3, a4, a5, a6, a7⟩ := R2.out _ k2; obtain ⟨c0, c1, c2, c3, c4, c5⟩ := R3.out _ k3; have z1 := k1.lt; have z2 := k2.lt; have z3 := k3.lt;go_simp; (try with_reducible rfl)
 (try simp only [cq])
 refine tkY 11 (some 77) ?_ ?_ ?_
 rotate_left
 · intro w hS0; (try dsimp only at hS0); obtain ⟨k1, k2, k3, _⟩ := hS0; obtain ⟨l0, l1, l2, l3, l4, l5, l6, l7⟩ := R1.out _ k1; obtain ⟨a0, a1, a2, a3, a4, a5, a6, a7⟩ := R2.out _ k2; obtain ⟨c0, c1, c2, c3, c4, c5⟩ := R3.out _ k3; have z1 := k1.lt; have z2 := k2.lt; have z3 := k3.lt;go_simp; (try with_reducible rfl)
 (try simp only [cq])
 refine wpAnyH_ready (rs := [12, 16]) (by kernel_rfl) (by simp) ?_
 refine arc (some 78) (fun K hK => ?_) ?_
 {
 go_simp
 (refine (K1.out _ hH.2.2.2).mono ?_; rintro e w' ⟨rfl, hb⟩; (try replace hA := hA.call hb))
 refine hK.out _ _ ?_ ?_
 · (exact ⟨hH.1.call hb, hH.2.1.call hb, hH.2.2.1.call hb, hH.2.2.2.trans (hb.mono (by have := hH.2.2.2.size; omega))⟩)
 (try clear hH); (try clear hb)
 intro hH
 clear hK K
 (try simp only [cq])
 refine tkY 13 (some 65) ?_ ?_ ?_
 rotate_left
 · intro w _; go_simp; (try with_reducible rfl)
 (try simp only [cq])
 refine tkY 14 (some 79) ?_ ?_ ?_
 rotate_left
 · intro w _; go_simp; (try with_reducible rfl)
 (try simp only [cq])
 refine tkY 15 (some 80) ?_ ?_ ?_
 rotate_left
 · intro w _; go_simp; (try with_reducible rfl)
 (try simp only [cq])
 refine wpAnyH_ready (rs := [16]) (by kernel_rfl) (by simp) ?_
 refine arc1 (some 19) fun K hK => ?_
 (have hN1 := Nat.le_trans zB3 hH.2.2.2.size; have hN2 := hH.1.lt; have hN3 := hH.2.1.lt; have hN4 := hH.2.2.1.lt; (try simp only [World.drew] at hN1 hN2 hN3 hN4))
 go_simp
 first | refine oA hK ?_ (fun hH hA => ?_) | refine oD hK ?_ (fun hH hA => ?_)
 · exact ⟨hH.1.alloc _, hH.2.1.alloc _, hH.2.2.1.alloc _, hH.2.2.2.alloc (Nat.le_trans zB3 hH.2.2.2.size) _⟩
 clear hK K
 (try simp only [cq])
 obtain ⟨bA, hbA⟩ : ∃ b, Blk.num hA = b := ⟨_, rfl⟩
 obtain ⟨W, hW⟩ : ∃ V, Blk.wld hA = V := ⟨_, rfl⟩
 simp only [Blk.num] at hbA
 simp only [Blk.wld] at hW
 rw [hW] at hH hA ⊢
 rw [hbA] at hA ⊢
 replace hN1 : B3 ≤ bA := (by rw [← hbA]; exact hN1)
 replace hN2 : b1 < bA := (by rw [← hbA]; exact hN2)
 replace hN3 : b2 < bA := (by rw [← hbA]; exact hN3)
 replace hN4 : b3 < bA := (by rw [← hbA]; exact hN4)
 clear hW hbA
 exact X1  bA W ⟨hH, hA, hN1, hN2, hN3, hN4⟩
 }
 refine arc (some 19) (fun K hK => ?_) ?_
 {
 (have hN1 := Nat.le_trans zB3 hH.2.2.2.size; have hN2 := hH.1.lt; have hN3 := hH.2.1.lt; have hN4 := hH.2.2.1.lt; (try simp only [World.drew] at hN1 hN2 hN3 hN4))
 go_simp
 first | refine oA hK ?_ (fun hH hA => ?_) | refine oD hK ?_ (fun hH hA => ?_)
 · exact ⟨hH.1.alloc _, hH.2.1.alloc _, hH.2.2.1.alloc _, hH.2.2.2.alloc (Nat.le_trans zB3 hH.2.2.2.size) _⟩
 clear hK K
 (try simp only [cq])
 obtain ⟨bA, hbA⟩ : ∃ b, Blk.num hA = b := ⟨_, rfl⟩
 obtain ⟨W, hW⟩ : ∃ V, Blk.wld hA = V := ⟨_, rfl⟩
 simp only [Blk.num] at hbA
 simp only [Blk.wld] at hW
 rw [hW] at hH hA ⊢
 rw [hbA] at hA ⊢
 replace hN1 : B3 ≤ bA := (by rw [← hbA]; exact hN1)
 replace hN2 : b1 < bA := (by rw [← hbA]; exact hN2)
 replace hN3 : b2 < bA := (by rw [← hbA]; exact hN3)
 replace hN4 : b3 < bA := (by rw [← hbA]; exact hN4)
 clear hW hbA
 exact X0  bA W ⟨hH, hA, hN1, hN2, hN3, hN4⟩
 }
 exact AllReadyH.nil
 }
 {
 intro bA W hall
 obtain ⟨hH, hA, hN1, hN2, hN3, hN4⟩ := hall
 (try dsimp only at hH)
 refine wpAnyH_ready (rs := [12]) (by kernel_rfl) (by simp) ?_
 refine arc1 (some 78) fun K hK => ?_
 go_simp
 (refine (K1.out _ hH.2.2.2).mono ?_; rintro e w' ⟨rfl, hb⟩; (try replace hA := hA.call hb))
 refine hK.out _ _ ?_ ?_
 · (exact ⟨hH.1.call hb, hH.2.1.call hb, hH.2.2.1.call hb, hH.2.2.2.trans (hb.mono (by have := hH.2.2.2.size; omega))⟩)
 (try clear hH); (try clear hb)
 intro hH
 clear hK K
 (try simp only [cq])
 refine tkY 13 (some 65) ?_ ?_ ?_
 rotate_left
 · intro w _; go_simp; (try with_reducible rfl)
 (try simp only [cq])
 refine tkY 14 (some 79) ?_ ?_ ?_
 rotate_left
 · intro w _; go_simp; (try with_reducible rfl)
 (try simp only [cq])
 refine tkY 15 (some 80) ?_ ?_ ?_
 rotate_left
 · intro w _; go_simp; (try with_reducible rfl)
 (try simp only [cq])
 exact X1  bA w' ⟨hH, hA, hN1, hN2, hN3, hN4⟩
 }
 }
 {
 intro bA W hall
 obtain ⟨hH, hA, hN1, hN2, hN3, hN4⟩ := hall
 (try dsimp only at hH)
 refine wpAnyH_ready (rs := [17]) (by kernel_rfl) (by simp) ?_
 refine arc1 none fun K hK => ?_
 obtain ⟨h1, h2, h3, hD⟩ := hH
 obtain ⟨r0, r1, r2, r3, r4, r5, r6, r7⟩ := hA.c8
 have fr0 := hA.free 0
 have fr1 := hA.free 1
 have fr2 := hA.free 2
 have fr3 := hA.free 3
 have fr4 := hA.free 4
 have fr5 := hA.free 5
 have fr6 := hA.free 6
 have fr7 := hA.free 7
 have zR := hA.lt
 have HS := Lib.hid (hA.set8 (.int .i64 sv.b0) (.int .i64 sv.b1) (.int .i64 sv.w0) (.int .i64 sv.w1) (.int .i64 sv.q0) (.int .i64 sv.q1) (.int .i64 sv.s0) (.int .i64 sv.s1))
 have HD := Lib.hid (below_set8 hD hN1 (.int .i64 sv.b0) (.int .i64 sv.b1) (.int .i64 sv.w0) (.int .i64 sv.w1) (.int .i64 sv.q0) (.int .i64 sv.q1) (.int .i64 sv.s0) (.int .i64 sv.s1))
 go_simp
 refine hK.out _ _ ?_ ?_
 · with_reducible exact ⟨h1.other8 (by omega) _ _ _ _ _ _ _ _, h2.other8 (by omega) _ _ _ _ _ _ _ _, h3.other8 (by omega) _ _ _ _ _ _ _ _, HD.out⟩
 (try clear hH); (try clear hb)
 intro hH
 clear hK K
 (try simp only [cq])
 refine tkY 18 (some 20) ?_ ?_ ?_
 rotate_left
 · intro w _; go_simp; (try with_reducible rfl)
 (try simp only [cq])
 refine wpAnyH_done (by kernel_rfl) ?_ _
 (try dsimp only [Act.put])
 (try simp only [cq])
 clear hA r0 r1 r2 r3 r4 r5 r6 r7 fr0 fr1 fr2 fr3 fr4 fr5 fr6 fr7 zR hD h1 h2 h3
 go_wp2_with fail
 go_meet
 exact ⟨_, rfl, rfl, HS.out, hH.1, hH.2.1, hH.2.2.1, hH.2.2.2⟩
 } )
          case rest =>
            clear j1 j2 j3 hb
            obtain ⟨bE, rfl, rfl, jE, j1, j2, j3, hb⟩ := hcut
            clear K1
            go_upto_region 11 with fail
            go_cut [21, 22] (fun s21 s22 wx => ∃ bA : Nat, s21 = .pointer (some ⟨bA, 0, none⟩) ∧ s22 = .int .i64 E ∧ Blk wx bA #[.int .i64 sv.b0, .int .i64 sv.b1, .int .i64 sv.w0, .int .i64 sv.w1, .int .i64 sv.q0, .int .i64 sv.q1, .int .i64 sv.s0, .int .i64 sv.s1] 28 ∧ Blk wx b1 A1 26 ∧ Blk wx b2 A2 28 ∧ Blk wx b3 A3 30 ∧ Blk wx bE #[.int .i64 sv.b0, .int .i64 sv.b1, .int .i64 sv.w0, .int .i64 sv.w1, .int .i64 sv.q0, .int .i64 sv.q1, .int .i64 sv.s0, .int .i64 sv.s1] 28 ∧ Below B3 V2 wx)
            case first =>
              (
 let S9 : World → Prop := (fun w' => Blk w' b1 A1 26 ∧ Blk w' b2 A2 28 ∧ Blk w' b3 A3 30 ∧ Blk w' bE #[.int .i64 sv.b0, .int .i64 sv.b1, .int .i64 sv.w0, .int .i64 sv.w1, .int .i64 sv.q0, .int .i64 sv.q1, .int .i64 sv.s0, .int .i64 sv.s1] 28 ∧ Below B3 V2 w')
 refine wp_region_held_drew (S := S9) (by kernel_rfl) ?_ (fun hH => ?_)
 · (try dsimp only); (exact ⟨j1.drew, j2.drew, j3.drew, jE.drew, hb.drew⟩)
 apply share0 (fun (bA : Nat) (W : World) => S9 W ∧ Blk W bA #[.int .i64 0, .int .i64 0, .int .i64 0, .int .i64 0, .int .i64 0, .int .i64 0, .int .i64 0, .int .i64 0] 28 ∧ (B3 ≤ bA) ∧ (b1 < bA) ∧ (b2 < bA) ∧ (b3 < bA) ∧ (bE < bA))
 {
 intro X1
 apply share0 (fun (bA : Nat) (W : World) => S9 W ∧ Blk W bA #[.int .i64 0, .int .i64 0, .int .i64 0, .int .i64 0, .int .i64 0, .int .i64 0, .int .i64 0, .int .i64 0] 28 ∧ (B3 ≤ bA) ∧ (b1 < bA) ∧ (b2 < bA) ∧ (b3 < bA) ∧ (bE < bA))
 {
 intro X0
 refine tkY 0 (some 82) ?_ ?_ ?_
 rotate_left
 · intro w _; go_simp; (try with_reducible rfl)
 (try simp only [cq])
 refine tkY 1 (some 83) ?_ ?_ ?_
 rotate_left
 · intro w _; go_simp; (try with_reducible rfl)
 (try simp only [cq])
 refine tkY 2 (some 84) ?_ ?_ ?_
 rotate_left
 · intro w hS0; (try dsimp only at hS0); obtain ⟨k1, k2, k3, _⟩ := hS0; obtain ⟨l0, l1, l2, l3, l4, l5, l6, l7⟩ := R1.out _ k1; obtain ⟨a0, a1, a2, a3, a4, a5, a6, a7⟩ := R2.out _ k2; obtain ⟨c0, c1, c2, c3, c4, c5⟩ := R3.out _ k3; have z1 := k1.lt; have z2 := k2.lt; have z3 := k3.lt;go_simp; (try with_reducible rfl)
 (try simp only [cq])
 refine tkY 3 (some 85) ?_ ?_ ?_
 rotate_left
 · intro w hS0; (try dsimp only at hS0); obtain ⟨k1, k2, k3, _⟩ := hS0; obtain ⟨l0, l1, l2, l3, l4, l5, l6, l7⟩ := R1.out _ k1; obtain ⟨a0, a1, a2, a3, a4, a5, a6, a7⟩ := R2.out _ k2; obtain ⟨c0, c1, c2, c3, c4, c5⟩ := R3.out _ k3; have z1 := k1.lt; have z2 := k2.lt; have z3 := k3.lt;go_simp; (try with_reducible rfl)
 (try simp only [cq])
 refine tkY 4 (some 86) ?_ ?_ ?_
 rotate_left
 · intro w _; go_simp; (try with_reducible rfl)
 (try simp only [cq])
 refine tkY 5 (some 87) ?_ ?_ ?_
 rotate_left
 · intro w _; go_simp; (try with_reducible rfl)
 (try simp only [cq])
 refine tkY 6 (some 88) ?_ ?_ ?_
 rotate_left
 · intro w hS0; (try dsimp only at hS0); obtain ⟨k1, k2, k3, _⟩ := hS0; obtain ⟨l0, l1, l2, l3, l4, l5, l6, l7⟩ := R1.out _ k1; obtain ⟨a0, a1, a2, a3, a4, a5, a6, a7⟩ := R2.out _ k2; obtain ⟨c0, c1, c2, c3, c4, c5⟩ := R3.out _ k3; have z1 := k1.lt; have z2 := k2.lt; have z3 := k3.lt;go_simp; (try with_reducible rfl)
 (try simp only [cq])
 refine tkY 7 (some 89) ?_ ?_ ?_
 rotate_left
 · intro w hS0; (try dsimp only at hS0); obtain ⟨k1, k2, k3, _⟩ := hS0; obtain ⟨l0, l1, l2, l3, l4, l5, l6, l7⟩ := R1.out _ k1; obtain ⟨a0, a1, a2, a3, a4, a5, a6, a7⟩ := R2.out _ k2; obtain ⟨c0, c1, c2, c3, c4, c5⟩ := R3.out _ k3; have z1 := k1.lt; have z2 := k2.lt; have z3 := k3.lt;go_simp; (try with_reducible rfl)
 (try simp only [cq])
 refine tkY 8 (some 90) ?_ ?_ ?_
 rotate_left
 · intro w _; go_simp; (try with_reducible rfl)
 (try simp only [cq])
 refine tkY 9 (some 91) ?_ ?_ ?_
 rotate_left
 · intro w _; go_simp; (try with_reducible rfl)
 (try simp only [cq])
 refine tkY 10 (some 92) ?_ ?_ ?_
 rotate_left
 · intro w hS0; (try dsimp only at hS0); obtain ⟨k1, k2, k3, _⟩ := hS0; obtain ⟨l0, l1, l2, l3, l4, l5, l6, l7⟩ := R1.out _ k1; obtain ⟨a0, a1, a2, a3, a4, a5, a6, a7⟩ := R2.out _ k2; obtain ⟨c0, c1, c2, c3, c4, c5⟩ := R3.out _ k3; have z1 := k1.lt; have z2 := k2.lt; have z3 := k3.lt;go_simp; (try with_reducible rfl)
 (try simp only [cq])
 refine tkY 11 (some 93) ?_ ?_ ?_
 rotate_left
 · intro w hS0; (try dsimp only at hS0); obtain ⟨k1, k2, k3, _⟩ := hS0; obtain ⟨l0, l1, l2, l3, l4, l5, l6, l7⟩ := R1.out _ k1; obtain ⟨a0, a1, a2, a3, a4, a5, a6, a7⟩ := R2.out _ k2; obtain ⟨c0, c1, c2, c3, c4, c5⟩ := R3.out _ k3; have z1 := k1.lt; have z2 := k2.lt; have z3 := k3.lt;go_simp; (try with_reducible rfl)
 (try simp only [cq])
 refine wpAnyH_ready (rs := [12, 16]) (by kernel_rfl) (by simp) ?_
 refine arc (some 94) (fun K hK => ?_) ?_
 {
 go_simp
 (refine (K2.out _ hH.2.2.2.2).mono ?_; rintro e w' ⟨rfl, hb⟩; (try replace hA := hA.call hb))
 refine hK.out _ _ ?_ ?_
 · (exact ⟨hH.1.call hb, hH.2.1.call hb, hH.2.2.1.call hb, hH.2.2.2.1.call hb, hH.2.2.2.2.trans (hb.mono (by have := hH.2.2.2.2.size; omega))⟩)
 (try clear hH); (try clear hb)
 intro hH
 clear hK K
 (try simp only [cq])
 refine tkY 13 (some 81) ?_ ?_ ?_
 rotate_left
 · intro w _; go_simp; (try with_reducible rfl)
 (try simp only [cq])
 refine tkY 14 (some 95) ?_ ?_ ?_
 rotate_left
 · intro w _; go_simp; (try with_reducible rfl)
 (try simp only [cq])
 refine tkY 15 (some 96) ?_ ?_ ?_
 rotate_left
 · intro w _; go_simp; (try with_reducible rfl)
 (try simp only [cq])
 refine wpAnyH_ready (rs := [16]) (by kernel_rfl) (by simp) ?_
 refine arc1 (some 21) fun K hK => ?_
 (have hN1 := Nat.le_trans zB3 hH.2.2.2.2.size; have hN2 := hH.1.lt; have hN3 := hH.2.1.lt; have hN4 := hH.2.2.1.lt; have hN5 := hH.2.2.2.1.lt; (try simp only [World.drew] at hN1 hN2 hN3 hN4 hN5))
 go_simp
 first | refine oA hK ?_ (fun hH hA => ?_) | refine oD hK ?_ (fun hH hA => ?_)
 · exact ⟨hH.1.alloc _, hH.2.1.alloc _, hH.2.2.1.alloc _, hH.2.2.2.1.alloc _, hH.2.2.2.2.alloc (Nat.le_trans zB3 hH.2.2.2.2.size) _⟩
 clear hK K
 (try simp only [cq])
 obtain ⟨bA, hbA⟩ : ∃ b, Blk.num hA = b := ⟨_, rfl⟩
 obtain ⟨W, hW⟩ : ∃ V, Blk.wld hA = V := ⟨_, rfl⟩
 simp only [Blk.num] at hbA
 simp only [Blk.wld] at hW
 rw [hW] at hH hA ⊢
 rw [hbA] at hA ⊢
 replace hN1 : B3 ≤ bA := (by rw [← hbA]; exact hN1)
 replace hN2 : b1 < bA := (by rw [← hbA]; exact hN2)
 replace hN3 : b2 < bA := (by rw [← hbA]; exact hN3)
 replace hN4 : b3 < bA := (by rw [← hbA]; exact hN4)
 replace hN5 : bE < bA := (by rw [← hbA]; exact hN5)
 clear hW hbA
 exact X1  bA W ⟨hH, hA, hN1, hN2, hN3, hN4, hN5⟩
 }
 refine arc (some 21) (fun K hK => ?_) ?_
 {
 (have hN1 := Nat.le_trans zB3 hH.2.2.2.2.size; have hN2 := hH.1.lt; have hN3 := hH.2.1.lt; have hN4 := hH.2.2.1.lt; have hN5 := hH.2.2.2.1.lt; (try simp only [World.drew] at hN1 hN2 hN3 hN4 hN5))
 go_simp
 first | refine oA hK ?_ (fun hH hA => ?_) | refine oD hK ?_ (fun hH hA => ?_)
 · exact ⟨hH.1.alloc _, hH.2.1.alloc _, hH.2.2.1.alloc _, hH.2.2.2.1.alloc _, hH.2.2.2.2.alloc (Nat.le_trans zB3 hH.2.2.2.2.size) _⟩
 clear hK K
 (try simp only [cq])
 obtain ⟨bA, hbA⟩ : ∃ b, Blk.num hA = b := ⟨_, rfl⟩
 obtain ⟨W, hW⟩ : ∃ V, Blk.wld hA = V := ⟨_, rfl⟩
 simp only [Blk.num] at hbA
 simp only [Blk.wld] at hW
 rw [hW] at hH hA ⊢
 rw [hbA] at hA ⊢
 replace hN1 : B3 ≤ bA := (by rw [← hbA]; exact hN1)
 replace hN2 : b1 < bA := (by rw [← hbA]; exact hN2)
 replace hN3 : b2 < bA := (by rw [← hbA]; exact hN3)
 replace hN4 : b3 < bA := (by rw [← hbA]; exact hN4)
 replace hN5 : bE < bA := (by rw [← hbA]; exact hN5)
 clear hW hbA
 exact X0  bA W ⟨hH, hA, hN1, hN2, hN3, hN4, hN5⟩
 }
 exact AllReadyH.nil
 }
 {
 intro bA W hall
 obtain ⟨hH, hA, hN1, hN2, hN3, hN4, hN5⟩ := hall
 (try dsimp only at hH)
 refine wpAnyH_ready (rs := [12]) (by kernel_rfl) (by simp) ?_
 refine arc1 (some 94) fun K hK => ?_
 go_simp
 (refine (K2.out _ hH.2.2.2.2).mono ?_; rintro e w' ⟨rfl, hb⟩; (try replace hA := hA.call hb))
 refine hK.out _ _ ?_ ?_
 · (exact ⟨hH.1.call hb, hH.2.1.call hb, hH.2.2.1.call hb, hH.2.2.2.1.call hb, hH.2.2.2.2.trans (hb.mono (by have := hH.2.2.2.2.size; omega))⟩)
 (try clear hH); (try clear hb)
 intro hH
 clear hK K
 (try simp only [cq])
 refine tkY 13 (some 81) ?_ ?_ ?_
 rotate_left
 · intro w _; go_simp; (try with_reducible rfl)
 (try simp only [cq])
 refine tkY 14 (some 95) ?_ ?_ ?_
 rotate_left
 · intro w _; go_simp; (try with_reducible rfl)
 (try simp only [cq])
 refine tkY 15 (some 96) ?_ ?_ ?_
 rotate_left
 · intro w _; go_simp; (try with_reducible rfl)
 (try simp only [cq])
 exact X1  bA w' ⟨hH, hA, hN1, hN2, hN3, hN4, hN5⟩
 }
 }
 {
 intro bA W hall
 obtain ⟨hH, hA, hN1, hN2, hN3, hN4, hN5⟩ := hall
 (try dsimp only at hH)
 refine wpAnyH_ready (rs := [17]) (by kernel_rfl) (by simp) ?_
 refine arc1 none fun K hK => ?_
 obtain ⟨h1, h2, h3, h4, hD⟩ := hH
 obtain ⟨r0, r1, r2, r3, r4, r5, r6, r7⟩ := hA.c8
 have fr0 := hA.free 0
 have fr1 := hA.free 1
 have fr2 := hA.free 2
 have fr3 := hA.free 3
 have fr4 := hA.free 4
 have fr5 := hA.free 5
 have fr6 := hA.free 6
 have fr7 := hA.free 7
 have zR := hA.lt
 have HS := Lib.hid (hA.set8 (.int .i64 sv.b0) (.int .i64 sv.b1) (.int .i64 sv.w0) (.int .i64 sv.w1) (.int .i64 sv.q0) (.int .i64 sv.q1) (.int .i64 sv.s0) (.int .i64 sv.s1))
 have HD := Lib.hid (below_set8 hD hN1 (.int .i64 sv.b0) (.int .i64 sv.b1) (.int .i64 sv.w0) (.int .i64 sv.w1) (.int .i64 sv.q0) (.int .i64 sv.q1) (.int .i64 sv.s0) (.int .i64 sv.s1))
 go_simp
 refine hK.out _ _ ?_ ?_
 · with_reducible exact ⟨h1.other8 (by omega) _ _ _ _ _ _ _ _, h2.other8 (by omega) _ _ _ _ _ _ _ _, h3.other8 (by omega) _ _ _ _ _ _ _ _, h4.other8 (by omega) _ _ _ _ _ _ _ _, HD.out⟩
 (try clear hH); (try clear hb)
 intro hH
 clear hK K
 (try simp only [cq])
 refine tkY 18 (some 22) ?_ ?_ ?_
 rotate_left
 · intro w _; go_simp; (try with_reducible rfl)
 (try simp only [cq])
 refine wpAnyH_done (by kernel_rfl) ?_ _
 (try dsimp only [Act.put])
 (try simp only [cq])
 clear hA r0 r1 r2 r3 r4 r5 r6 r7 fr0 fr1 fr2 fr3 fr4 fr5 fr6 fr7 zR hD h1 h2 h3 h4
 go_wp2_with fail
 go_meet
 exact ⟨_, rfl, rfl, HS.out, hH.1, hH.2.1, hH.2.2.1, hH.2.2.2.1, hH.2.2.2.2⟩
 } )
            case rest =>
              clear j1 j2 j3 hb jE
              obtain ⟨bF, rfl, rfl, jF, j1, j2, j3, jE, hb⟩ := hcut
              clear K2
              go_upto_region 12 with fail
              (
 refine wp_region_held_drew (S := (fun w' => Blk w' b1 A1 26 ∧ Blk w' b2 A2 28 ∧ Blk w' b3 A3 30 ∧ Blk w' bE #[.int .i64 sv.b0, .int .i64 sv.b1, .int .i64 sv.w0, .int .i64 sv.w1, .int .i64 sv.q0, .int .i64 sv.q1, .int .i64 sv.s0, .int .i64 sv.s1] 28 ∧ Blk w' bF #[.int .i64 sv.b0, .int .i64 sv.b1, .int .i64 sv.w0, .int .i64 sv.w1, .int .i64 sv.q0, .int .i64 sv.q1, .int .i64 sv.s0, .int .i64 sv.s1] 28 ∧ Below B3 V2 w')) (by kernel_rfl) ?_ (fun hH => ?_)
 · (try dsimp only); (exact ⟨j1.drew, j2.drew, j3.drew, jE.drew, jF.drew, hb.drew⟩)
 refine tkY 0 (some 97) ?_ ?_ ?_
 rotate_left
 · intro w _; go_simp; (try with_reducible rfl)
 (try simp only [cq])
 refine tkY 1 (some 98) ?_ ?_ ?_
 rotate_left
 · intro w _; go_simp; (try with_reducible rfl)
 (try simp only [cq])
 refine tkY 2 (some 99) ?_ ?_ ?_
 rotate_left
 · intro w hS0; (try dsimp only at hS0); obtain ⟨k1, k2, k3, k4, k5, _⟩ := hS0; obtain ⟨l0, l1, l2, l3, l4, l5, l6, l7⟩ := R1.out _ k1; obtain ⟨a0, a1, a2, a3, a4, a5, a6, a7⟩ := R2.out _ k2; obtain ⟨p0, p1, p2, p3, p4, p5, p6, p7⟩ := k4.c8; obtain ⟨q0, q1, q2, q3, q4, q5, q6, q7⟩ := k5.c8; have z1 := k1.lt; have z2 := k2.lt; have z4 := k4.lt; have z5 := k5.lt;go_simp; (try with_reducible rfl)
 (try simp only [cq])
 refine tkY 3 (some 100) ?_ ?_ ?_
 rotate_left
 · intro w hS0; (try dsimp only at hS0); obtain ⟨k1, k2, k3, k4, k5, _⟩ := hS0; obtain ⟨l0, l1, l2, l3, l4, l5, l6, l7⟩ := R1.out _ k1; obtain ⟨a0, a1, a2, a3, a4, a5, a6, a7⟩ := R2.out _ k2; obtain ⟨p0, p1, p2, p3, p4, p5, p6, p7⟩ := k4.c8; obtain ⟨q0, q1, q2, q3, q4, q5, q6, q7⟩ := k5.c8; have z1 := k1.lt; have z2 := k2.lt; have z4 := k4.lt; have z5 := k5.lt;go_simp; (try with_reducible rfl)
 (try simp only [cq])
 refine tkY 5 (some 102) ?_ ?_ ?_
 rotate_left
 · intro w _; go_simp; (try with_reducible rfl)
 (try simp only [cq])
 refine tkY 6 (some 103) ?_ ?_ ?_
 rotate_left
 · intro w _; go_simp; (try with_reducible rfl)
 (try simp only [cq])
 refine tkY 7 (some 104) ?_ ?_ ?_
 rotate_left
 · intro w hS0; (try dsimp only at hS0); obtain ⟨k1, k2, k3, k4, k5, _⟩ := hS0; obtain ⟨l0, l1, l2, l3, l4, l5, l6, l7⟩ := R1.out _ k1; obtain ⟨a0, a1, a2, a3, a4, a5, a6, a7⟩ := R2.out _ k2; obtain ⟨p0, p1, p2, p3, p4, p5, p6, p7⟩ := k4.c8; obtain ⟨q0, q1, q2, q3, q4, q5, q6, q7⟩ := k5.c8; have z1 := k1.lt; have z2 := k2.lt; have z4 := k4.lt; have z5 := k5.lt;go_simp; (try with_reducible rfl)
 (try simp only [cq])
 refine tkY 8 (some 105) ?_ ?_ ?_
 rotate_left
 · intro w hS0; (try dsimp only at hS0); obtain ⟨k1, k2, k3, k4, k5, _⟩ := hS0; obtain ⟨l0, l1, l2, l3, l4, l5, l6, l7⟩ := R1.out _ k1; obtain ⟨a0, a1, a2, a3, a4, a5, a6, a7⟩ := R2.out _ k2; obtain ⟨p0, p1, p2, p3, p4, p5, p6, p7⟩ := k4.c8; obtain ⟨q0, q1, q2, q3, q4, q5, q6, q7⟩ := k5.c8; have z1 := k1.lt; have z2 := k2.lt; have z4 := k4.lt; have z5 := k5.lt;go_simp; (try with_reducible rfl)
 (try simp only [cq])
 refine wpAnyH_ready (rs := [4]) (by kernel_rfl) (by simp) ?_
 refine arc1 (some 101) fun K hK => ?_
 go_simp
 (refine (K3.out _ hH.2.2.2.2.2).mono ?_; rintro e w' ⟨rfl, hb⟩)
 refine hK.out _ _ ?_ ?_
 · (exact ⟨hH.1.call hb, hH.2.1.call hb, hH.2.2.1.call hb, hH.2.2.2.1.call hb, hH.2.2.2.2.1.call hb, hH.2.2.2.2.2.trans (hb.mono (by have := hH.2.2.2.2.2.size; omega))⟩)
 (try clear hH); (try clear hb)
 intro hH
 clear hK K
 (try simp only [cq])
 refine wpAnyH_ready (rs := [9]) (by kernel_rfl) (by simp) ?_
 refine arc1 (some 106) fun K hK => ?_
 go_simp
 (refine (K4.out _ hH.2.2.2.2.2).mono ?_; rintro e w' ⟨rfl, hb⟩)
 refine hK.out _ _ ?_ ?_
 · (exact ⟨hH.1.call hb, hH.2.1.call hb, hH.2.2.1.call hb, hH.2.2.2.1.call hb, hH.2.2.2.2.1.call hb, hH.2.2.2.2.2.trans (hb.mono (by have := hH.2.2.2.2.2.size; omega))⟩)
 (try clear hH); (try clear hb)
 intro hH
 clear hK K
 (try simp only [cq])
 refine tkY 10 (some 107) ?_ ?_ ?_
 rotate_left
 · intro w _; go_simp; (try with_reducible rfl)
 (try simp only [cq])
 refine tkY 11 (some 108) ?_ ?_ ?_
 rotate_left
 · intro w _; go_simp; (try with_reducible rfl)
 (try simp only [cq])
 refine tkY 12 (some 109) ?_ ?_ ?_
 rotate_left
 · intro w _; go_simp; (try with_reducible rfl)
 (try simp only [cq])
 refine tkY 13 (some 110) ?_ ?_ ?_
 rotate_left
 · intro w _; go_simp; (try with_reducible rfl)
 (try simp only [cq])
 refine tkY 14 (some 111) ?_ ?_ ?_
 rotate_left
 · intro w hS0; (try dsimp only at hS0); obtain ⟨k1, k2, k3, k4, k5, _⟩ := hS0; obtain ⟨l0, l1, l2, l3, l4, l5, l6, l7⟩ := R1.out _ k1; obtain ⟨a0, a1, a2, a3, a4, a5, a6, a7⟩ := R2.out _ k2; obtain ⟨p0, p1, p2, p3, p4, p5, p6, p7⟩ := k4.c8; obtain ⟨q0, q1, q2, q3, q4, q5, q6, q7⟩ := k5.c8; have z1 := k1.lt; have z2 := k2.lt; have z4 := k4.lt; have z5 := k5.lt;go_simp; (try with_reducible rfl)
 (try simp only [cq])
 refine tkY 15 (some 112) ?_ ?_ ?_
 rotate_left
 · intro w hS0; (try dsimp only at hS0); obtain ⟨k1, k2, k3, k4, k5, _⟩ := hS0; obtain ⟨l0, l1, l2, l3, l4, l5, l6, l7⟩ := R1.out _ k1; obtain ⟨a0, a1, a2, a3, a4, a5, a6, a7⟩ := R2.out _ k2; obtain ⟨p0, p1, p2, p3, p4, p5, p6, p7⟩ := k4.c8; obtain ⟨q0, q1, q2, q3, q4, q5, q6, q7⟩ := k5.c8; have z1 := k1.lt; have z2 := k2.lt; have z4 := k4.lt; have z5 := k5.lt;go_simp; (try with_reducible rfl)
 (try simp only [cq])
 refine tkY 17 (some 114) ?_ ?_ ?_
 rotate_left
 · intro w _; go_simp; (try with_reducible rfl)
 (try simp only [cq])
 refine tkY 18 (some 115) ?_ ?_ ?_
 rotate_left
 · intro w _; go_simp; (try with_reducible rfl)
 (try simp only [cq])
 refine tkY 19 (some 116) ?_ ?_ ?_
 rotate_left
 · intro w hS0; (try dsimp only at hS0); obtain ⟨k1, k2, k3, k4, k5, _⟩ := hS0; obtain ⟨l0, l1, l2, l3, l4, l5, l6, l7⟩ := R1.out _ k1; obtain ⟨a0, a1, a2, a3, a4, a5, a6, a7⟩ := R2.out _ k2; obtain ⟨p0, p1, p2, p3, p4, p5, p6, p7⟩ := k4.c8; obtain ⟨q0, q1, q2, q3, q4, q5, q6, q7⟩ := k5.c8; have z1 := k1.lt; have z2 := k2.lt; have z4 := k4.lt; have z5 := k5.lt;go_simp; (try with_reducible rfl)
 (try simp only [cq])
 refine tkY 20 (some 117) ?_ ?_ ?_
 rotate_left
 · intro w hS0; (try dsimp only at hS0); obtain ⟨k1, k2, k3, k4, k5, _⟩ := hS0; obtain ⟨l0, l1, l2, l3, l4, l5, l6, l7⟩ := R1.out _ k1; obtain ⟨a0, a1, a2, a3, a4, a5, a6, a7⟩ := R2.out _ k2; obtain ⟨p0, p1, p2, p3, p4, p5, p6, p7⟩ := k4.c8; obtain ⟨q0, q1, q2, q3, q4, q5, q6, q7⟩ := k5.c8; have z1 := k1.lt; have z2 := k2.lt; have z4 := k4.lt; have z5 := k5.lt;go_simp; (try with_reducible rfl)
 (try simp only [cq])
 refine wpAnyH_ready (rs := [16]) (by kernel_rfl) (by simp) ?_
 refine arc1 (some 113) fun K hK => ?_
 go_simp
 (refine (K5.out _ hH.2.2.2.2.2).mono ?_; rintro e w' ⟨rfl, hb⟩)
 refine hK.out _ _ ?_ ?_
 · (exact ⟨hH.1.call hb, hH.2.1.call hb, hH.2.2.1.call hb, hH.2.2.2.1.call hb, hH.2.2.2.2.1.call hb, hH.2.2.2.2.2.trans (hb.mono (by have := hH.2.2.2.2.2.size; omega))⟩)
 (try clear hH); (try clear hb)
 intro hH
 clear hK K
 (try simp only [cq])
 refine wpAnyH_ready (rs := [21]) (by kernel_rfl) (by simp) ?_
 refine arc1 (some 118) fun K hK => ?_
 go_simp
 (refine (K6.out _ hH.2.2.2.2.2).mono ?_; rintro e w' ⟨rfl, hb⟩)
 refine hK.out _ _ ?_ ?_
 · (exact ⟨hH.1.call hb, hH.2.1.call hb, hH.2.2.1.call hb, hH.2.2.2.1.call hb, hH.2.2.2.2.1.call hb, hH.2.2.2.2.2.trans (hb.mono (by have := hH.2.2.2.2.2.size; omega))⟩)
 (try clear hH); (try clear hb)
 intro hH
 clear hK K
 (try simp only [cq])
 refine tkY 22 (some 119) ?_ ?_ ?_
 rotate_left
 · intro w _; go_simp; (try with_reducible rfl)
 (try simp only [cq])
 refine tkY 23 (some 120) ?_ ?_ ?_
 rotate_left
 · intro w _; go_simp; (try with_reducible rfl)
 (try simp only [cq])
 refine tkY 24 (some 121) ?_ ?_ ?_
 rotate_left
 · intro w _; go_simp; (try with_reducible rfl)
 (try simp only [cq])
 refine tkY 25 (some 122) ?_ ?_ ?_
 rotate_left
 · intro w hS0; (try dsimp only at hS0); obtain ⟨k1, k2, k3, k4, k5, _⟩ := hS0; obtain ⟨l0, l1, l2, l3, l4, l5, l6, l7⟩ := R1.out _ k1; obtain ⟨a0, a1, a2, a3, a4, a5, a6, a7⟩ := R2.out _ k2; obtain ⟨p0, p1, p2, p3, p4, p5, p6, p7⟩ := k4.c8; obtain ⟨q0, q1, q2, q3, q4, q5, q6, q7⟩ := k5.c8; have z1 := k1.lt; have z2 := k2.lt; have z4 := k4.lt; have z5 := k5.lt;go_simp; (try with_reducible rfl)
 (try simp only [cq])
 refine tkY 26 (some 123) ?_ ?_ ?_
 rotate_left
 · intro w hS0; (try dsimp only at hS0); obtain ⟨k1, k2, k3, k4, k5, _⟩ := hS0; obtain ⟨l0, l1, l2, l3, l4, l5, l6, l7⟩ := R1.out _ k1; obtain ⟨a0, a1, a2, a3, a4, a5, a6, a7⟩ := R2.out _ k2; obtain ⟨p0, p1, p2, p3, p4, p5, p6, p7⟩ := k4.c8; obtain ⟨q0, q1, q2, q3, q4, q5, q6, q7⟩ := k5.c8; have z1 := k1.lt; have z2 := k2.lt; have z4 := k4.lt; have z5 := k5.lt;go_simp; (try with_reducible rfl)
 (try simp only [cq])
 refine tkY 27 (some 124) ?_ ?_ ?_
 rotate_left
 · intro w _; go_simp; (try with_reducible rfl)
 (try simp only [cq])
 refine tkY 28 (some 125) ?_ ?_ ?_
 rotate_left
 · intro w _; go_simp; (try with_reducible rfl)
 (try simp only [cq])
 refine tkY 29 (some 126) ?_ ?_ ?_
 rotate_left
 · intro w _; go_simp; (try with_reducible rfl)
 (try simp only [cq])
 refine tkY 30 (some 127) ?_ ?_ ?_
 rotate_left
 · intro w _; go_simp; (try with_reducible rfl)
 (try simp only [cq])
 refine tkY 31 (some 128) ?_ ?_ ?_
 rotate_left
 · intro w _; go_simp; (try with_reducible rfl)
 (try simp only [cq])
 refine tkY 32 (some 129) ?_ ?_ ?_
 rotate_left
 · intro w _; go_simp; (try with_reducible rfl)
 (try simp only [cq])
 refine tkY 33 (some 130) ?_ ?_ ?_
 rotate_left
 · intro w _; go_simp; (try with_reducible rfl)
 (try simp only [cq])
 refine wpAnyH_done (by kernel_rfl) ?_ _
 (try dsimp only [Act.put])
 (try simp only [cq])
 go_wp2
 go_roundw
 case rel => exact ⟨k + 1, by omega, by go_num, hH.1, hH.2.1, hH.2.2.1, hH.2.2.2.2.2⟩
 case measure => simp [intOf]; omega )
        · clear j1 j2 j3
          have hbV := hb
          rw [← HB3.out] at hbV
          have jB := bwS KB.out (by have := KB.out.size; omega) hbV
          have kS := KS.out.imp fun _ h => h.call hbV
          clear hb hbV
          go_wp2_with fail
          refine (from_in 0 3000000000 bs _ kS (by decide) (by decide) (by decide) (by decide)).mono ?_
          rintro e w7 ⟨n1, rfl, n1a, n1b, hd⟩
          replace n1b : n1 ≤ 3000000000 := by omega
          replace jB := Drawn.below jB hd HB.out.1
          have q0 : 0 ≤ n1 * n1 := Int.mul_nonneg n1a n1a
          have q1 : n1 * n1 ≤ 3000000000 * 3000000000 := Int.mul_le_mul n1b n1b n1a (by decide)
          have e1 : IntKind.i64.wrap (n1 * n1) = n1 * n1 := IntWalk.i64_in _ (by omega)
          have e2 : IntKind.i64.wrap (n1 * n1 - 1) = n1 * n1 - 1 := IntWalk.i64_in _ (by omega)
          have e3 : IntKind.i64.wrap (n1 - 1) = n1 - 1 := IntWalk.i64_in _ (by omega)
          go_wp2_with fail
          refine (root_any n0 _ hn0).mono ?_
          rintro e w8 ⟨rfl, rfl⟩
          go_wp2_with fail
          refine (rroot_any n0 _ hn0).mono ?_
          rintro e w8 ⟨rfl, rfl⟩
          go_wp2_with fail
          refine (root_any (n1 * n1) _ (by omega)).mono ?_
          rintro e w8 ⟨rfl, rfl⟩
          rw [rtI_sq_self n1 n1a]
          go_wp2_with fail
          refine (root_any (n1 * n1 - 1) _ (by omega)).mono ?_
          rintro e w8 ⟨rfl, rfl⟩
          rw [rtI_sq_pred n1 n1a]
          go_wp2_with fail
          refine (awake_any _).mono ?_
          rintro e w9 ⟨rfl, hb⟩
          replace jB := bwS jB (Nat.le_refl _) hb
          go_wp2
          go_ret
          exact ⟨rfl, jB⟩
end Go.Proofs.Ytkldjaofgdklbaa
