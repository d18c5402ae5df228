/-
  Each end of what is known after a day is that of some true ice. Speaks of no program.
  Lists that append makes, general in the element's size; the ends of a span, the colds of a day; one number of each of some lists.
  FrostEnds: all true ice behind a day, at the ends of what may be chosen.
  FrostEnds: the colds of a day, one choice of all, what is known with true ice more.
  FrostEnds: what is known with true ice more.
  FrostEnds: all choices are looked at; lists of true ice; worlds in which one block alone has changed.
-/
import Derived.Test.YtkldjaofgdklbaaTail
import Derived.Test.YtkldjaofgdklbaaNn
import Derived.Test.YtkldjaofgdklbaaRef11
import Derived.Test.YtkldjaofgdklbaaDaysOf
import Derived.Maps.AppendAt
import Derived.Test.YtkldjaofgdklbaaBig
import Derived.Test.YtkldjaofgdklbaaAwake
import Derived.Test.YtkldjaofgdklbaaBd
set_option linter.unusedVariables false
set_option linter.unusedSimpArgs false
namespace Go.Proofs.Ytkldjaofgdklbaa
open Go.RowKit

structure T4 where
  b : Int
  w : Int
  q : Int
  s : Int
structure Met (S : T4 → Prop) (y : Ic) : Prop where
  all : ∀ u, S u → TrIn u.b u.w u.q u.s y
  b0 : ∃ u, S u ∧ u.b = y.b0
  b1 : ∃ u, S u ∧ u.b = y.b1
  w0 : ∃ u, S u ∧ u.w = y.w0
  w1 : ∃ u, S u ∧ u.w = y.w1
  q0 : ∃ u, S u ∧ u.q = y.q0
  q1 : ∃ u, S u ∧ u.q = y.q1
  s0 : ∃ u, S u ∧ u.s = y.s0
  s1 : ∃ u, S u ∧ u.s = y.s1
theorem Met.unique {S : T4 → Prop} {x y : Ic} (h : Met S x) (k : Met S y) : x = y := by
  obtain ⟨ha, ⟨a1, p1, e1⟩, ⟨a2, p2, e2⟩, ⟨a3, p3, e3⟩, ⟨a4, p4, e4⟩, ⟨a5, p5, e5⟩, ⟨a6, p6, e6⟩, ⟨a7, p7, e7⟩, ⟨a8, p8, e8⟩⟩ := h
  obtain ⟨ka, ⟨b1, r1, f1⟩, ⟨b2, r2, f2⟩, ⟨b3, r3, f3⟩, ⟨b4, r4, f4⟩, ⟨b5, r5, f5⟩, ⟨b6, r6, f6⟩, ⟨b7, r7, f7⟩, ⟨b8, r8, f8⟩⟩ := k
  have g1 := ka _ p1; have g2 := ka _ p2; have g3 := ka _ p3; have g4 := ka _ p4; have g5 := ka _ p5; have g6 := ka _ p6; have g7 := ka _ p7; have g8 := ka _ p8
  have k1 := ha _ r1; have k2 := ha _ r2; have k3 := ha _ r3; have k4 := ha _ r4; have k5 := ha _ r5; have k6 := ha _ r6; have k7 := ha _ r7; have k8 := ha _ r8
  have h1 := g1.b0; have h2 := g2.b1; have h3 := g3.w0; have h4 := g4.w1; have h5 := g5.q0; have h6 := g6.q1; have h7 := g7.s0; have h8 := g8.s1
  have m1 := k1.b0; have m2 := k2.b1; have m3 := k3.w0; have m4 := k4.w1; have m5 := k5.q0; have m6 := k6.q1; have m7 := k7.s0; have m8 := k8.s1
  obtain ⟨x1, x2, x3, x4, x5, x6, x7, x8⟩ := x
  obtain ⟨y1, y2, y3, y4, y5, y6, y7, y8⟩ := y
  dsimp only at *
  congr 1 <;> omega
theorem Met.congr {S T : T4 → Prop} {y : Ic} (h : Met S y) (e : ∀ u, S u ↔ T u) : Met T y := by
  have : S = T := funext fun u => propext (e u)
  exact this ▸ h
theorem Met.one (u : T4) : Met (fun v => v = u) ⟨u.b, u.b, u.w, u.w, u.q, u.q, u.s, u.s⟩ :=
  ⟨fun v hv => by subst hv; constructor <;> exact Int.le_refl _, ⟨u, rfl, rfl⟩, ⟨u, rfl, rfl⟩, ⟨u, rfl, rfl⟩, ⟨u, rfl, rfl⟩, ⟨u, rfl, rfl⟩, ⟨u, rfl, rfl⟩, ⟨u, rfl, rfl⟩, ⟨u, rfl, rfl⟩⟩
theorem pick_min {S T : T4 → Prop} {f : T4 → Int} {a c : Int} (h : ∃ u, S u ∧ f u = a) (k : ∃ u, T u ∧ f u = c) : ∃ u, (S u ∨ T u) ∧ f u = min a c := by
  by_cases e : a ≤ c
  · obtain ⟨u, p, q⟩ := h
    exact ⟨u, .inl p, by omega⟩
  · obtain ⟨u, p, q⟩ := k
    exact ⟨u, .inr p, by omega⟩
theorem pick_max {S T : T4 → Prop} {f : T4 → Int} {a c : Int} (h : ∃ u, S u ∧ f u = a) (k : ∃ u, T u ∧ f u = c) : ∃ u, (S u ∨ T u) ∧ f u = max a c := by
  by_cases e : c ≤ a
  · obtain ⟨u, p, q⟩ := h
    exact ⟨u, .inl p, by omega⟩
  · obtain ⟨u, p, q⟩ := k
    exact ⟨u, .inr p, by omega⟩
theorem Met.join {S T : T4 → Prop} {x y : Ic} (h : Met S x) (k : Met T y) : Met (fun u => S u ∨ T u) (joinI x y) := by
  refine ⟨fun u hu => ?_, pick_min (f := T4.b) h.b0 k.b0, pick_max (f := T4.b) h.b1 k.b1, pick_min (f := T4.w) h.w0 k.w0, pick_max (f := T4.w) h.w1 k.w1, pick_min (f := T4.q) h.q0 k.q0, pick_max (f := T4.q) h.q1 k.q1, pick_min (f := T4.s) h.s0 k.s0, pick_max (f := T4.s) h.s1 k.s1⟩
  rcases hu with hu | hu
  · obtain ⟨a1, a2, a3, a4, a5, a6, a7, a8⟩ := h.all u hu
    unfold joinI
    constructor <;> dsimp only <;> omega
  · obtain ⟨a1, a2, a3, a4, a5, a6, a7, a8⟩ := k.all u hu
    unfold joinI
    constructor <;> dsimp only <;> omega
def addI (y : Ic) (u : T4) : Ic := ⟨min y.b0 u.b, max y.b1 u.b, min y.w0 u.w, max y.w1 u.w, min y.q0 u.q, max y.q1 u.q, min y.s0 u.s, max y.s1 u.s⟩
theorem Met.add {S : T4 → Prop} {y : Ic} (h : Met S y) (u : T4) : Met (fun v => S v ∨ v = u) (addI y u) := h.join (Met.one u)

def opnU (l : Lw) (d : Dy) (t : T4) (f : Int) : T4 := ⟨t.b, t.w, wetP d.wa t.q (snowP d.cl t.s f) l.so, leftP d.wa (snowP d.cl t.s f)⟩
def frzU (l : Lw) (R : Int → Int) (o : T4) (n : Int) : T4 := ⟨grownP R l.gr l.la o.b o.w o.q n, o.w + min o.q (n / l.la), o.q - min o.q (n / l.la), o.s⟩
def mltU (o : T4) (n : Int) : T4 := ⟨mD o.b (mD (mD n o.s) o.w), mD o.w (mD n o.s), o.q, mD o.s n⟩
def Ede (a c x : Int) : Prop := x = a ∨ x = c
def DayU (l : Lw) (d : Dy) (t : T4) (c f : Int) (u : T4) : Prop :=
  if c < 0 then u = mltU (opnU l d t f) (gotL (-c) l.m0) ∨ u = mltU (opnU l d t f) (gotH (-c) l.m1)
  else ∃ n, Ede (gotL c (lastP l.D l.P0 (opnU l d t f).s l.n)) (gotH c (lastP l.D l.P1 (opnU l d t f).s l.n)) n ∧ (u = frzU l rtI (opnU l d t f) n ∨ u = frzU l rfI (opnU l d t f) n)
def Cld (d : Dy) (c : Int) : Prop := c = d.c0 ∨ c = d.c1 ∨ (d.c0 < 0 ∧ 0 ≤ d.c1 ∧ (c = -1 ∨ c = 0))
def ChU (x : Ic) (d : Dy) (t : T4) (c f : Int) : Prop := Ede x.b0 x.b1 t.b ∧ Ede x.w0 x.w1 t.w ∧ Ede x.q0 x.q1 t.q ∧ Ede x.s0 x.s1 t.s ∧ Cld d c ∧ Ede d.f0 d.f1 f
def AllU (l : Lw) (x : Ic) (d : Dy) (u : T4) : Prop := ∃ t c f, ChU x d t c f ∧ DayU l d t c f u

structure Att (S : T4 → Prop) (y : Ic) : Prop where
  b0 : ∃ u, S u ∧ u.b = y.b0
  b1 : ∃ u, S u ∧ u.b = y.b1
  w0 : ∃ u, S u ∧ u.w = y.w0
  w1 : ∃ u, S u ∧ u.w = y.w1
  q0 : ∃ u, S u ∧ u.q = y.q0
  q1 : ∃ u, S u ∧ u.q = y.q1
  s0 : ∃ u, S u ∧ u.s = y.s0
  s1 : ∃ u, S u ∧ u.s = y.s1
theorem att_min {S : T4 → Prop} {f : T4 → Int} {a c : Int} (h : ∃ u, S u ∧ f u = a) (k : ∃ u, S u ∧ f u = c) : ∃ u, S u ∧ f u = min a c := by
  obtain ⟨u, p, q⟩ := pick_min h k
  exact ⟨u, p.elim id id, q⟩
theorem att_max {S : T4 → Prop} {f : T4 → Int} {a c : Int} (h : ∃ u, S u ∧ f u = a) (k : ∃ u, S u ∧ f u = c) : ∃ u, S u ∧ f u = max a c := by
  obtain ⟨u, p, q⟩ := pick_max h k
  exact ⟨u, p.elim id id, q⟩
theorem Att.join {S : T4 → Prop} {x y : Ic} (h : Att S x) (k : Att S y) : Att S (joinI x y) :=
  ⟨att_min (f := T4.b) h.b0 k.b0, att_max (f := T4.b) h.b1 k.b1, att_min (f := T4.w) h.w0 k.w0, att_max (f := T4.w) h.w1 k.w1, att_min (f := T4.q) h.q0 k.q0, att_max (f := T4.q) h.q1 k.q1, att_min (f := T4.s) h.s0 k.s0, att_max (f := T4.s) h.s1 k.s1⟩
theorem mix_a (l : Lw) (x : Ic) (d : Dy) (q : Int) : ∃ ts f, Ede x.s0 x.s1 ts ∧ Ede d.f0 d.f1 f ∧ wetP d.wa q (snowP d.cl ts f) l.so = wetP d.wa q (snowP d.cl x.s0 d.f0) l.so ∧ leftP d.wa (snowP d.cl ts f) = leftP d.wa (snowP d.cl x.s1 d.f1) := by
  by_cases h : 0 < d.wa
  · exact ⟨x.s0, d.f0, .inl rfl, .inl rfl, rfl, by simp only [leftP, if_pos h]⟩
  · exact ⟨x.s1, d.f1, .inr rfl, .inr rfl, by simp only [wetP, if_neg h], rfl⟩
theorem mix_b (l : Lw) (x : Ic) (d : Dy) (q : Int) : ∃ ts f, Ede x.s0 x.s1 ts ∧ Ede d.f0 d.f1 f ∧ wetP d.wa q (snowP d.cl ts f) l.so = wetP d.wa q (snowP d.cl x.s1 d.f1) l.so ∧ leftP d.wa (snowP d.cl ts f) = leftP d.wa (snowP d.cl x.s0 d.f0) := by
  by_cases h : 0 < d.wa
  · exact ⟨x.s1, d.f1, .inr rfl, .inr rfl, rfl, by simp only [leftP, if_pos h]⟩
  · exact ⟨x.s0, d.f0, .inl rfl, .inl rfl, by simp only [wetP, if_neg h], rfl⟩
theorem all_cold {l : Lw} {x : Ic} {d : Dy} {t : T4} {c f n : Int} (h : ChU x d t c f) (hc : 0 ≤ c) (hn : Ede (gotL c (lastP l.D l.P0 (opnU l d t f).s l.n)) (gotH c (lastP l.D l.P1 (opnU l d t f).s l.n)) n) {R : Int → Int} (hR : R = rtI ∨ R = rfI) : AllU l x d (frzU l R (opnU l d t f) n) := by
  refine ⟨t, c, f, h, ?_⟩
  unfold DayU
  rw [if_neg (by omega)]
  exact ⟨n, hn, hR.imp (fun e => by rw [e]) (fun e => by rw [e])⟩
theorem all_warm {l : Lw} {x : Ic} {d : Dy} {t : T4} {c f n : Int} (h : ChU x d t (-c) f) (hc : 0 < c) (hn : Ede (gotL c l.m0) (gotH c l.m1) n) : AllU l x d (mltU (opnU l d t f) n) := by
  refine ⟨t, -c, f, h, ?_⟩
  unfold DayU
  rw [if_pos (by omega), Int.neg_neg]
  exact hn.imp (fun e => by rw [e]) (fun e => by rw [e])
theorem cold_att (l : Lw) (x : Ic) (d : Dy) {k0 k1 : Int} (h0 : 0 ≤ k0) (h1 : 0 ≤ k1) (c0 : Cld d k0) (c1 : Cld d k1) : Att (AllU l x d) (coldI l (openI l x d) k0 k1) := by
  obtain ⟨ta, fa, a1, a2, a3, a4⟩ := mix_a l x d x.q0
  obtain ⟨tb, fb, b1, b2, b3, b4⟩ := mix_b l x d x.q1
  refine ⟨⟨_, all_cold (t := ⟨x.b0, x.w1, x.q1, x.s1⟩) (c := k0) (f := d.f1) ⟨.inl rfl, .inr rfl, .inr rfl, .inr rfl, c0, .inr rfl⟩ h0 (.inl rfl) (.inl rfl), rfl⟩,
    ⟨_, all_cold (t := ⟨x.b1, x.w0, x.q0, x.s0⟩) (c := k1) (f := d.f0) ⟨.inr rfl, .inl rfl, .inl rfl, .inl rfl, c1, .inl rfl⟩ h1 (.inr rfl) (.inr rfl), rfl⟩,
    ⟨_, all_cold (t := ⟨x.b0, x.w0, x.q0, ta⟩) (c := k0) (f := fa) ⟨.inl rfl, .inl rfl, .inl rfl, a1, c0, a2⟩ h0 (.inl rfl) (.inl rfl), ?_⟩,
    ⟨_, all_cold (t := ⟨x.b0, x.w1, x.q1, tb⟩) (c := k1) (f := fb) ⟨.inl rfl, .inr rfl, .inr rfl, b1, c1, b2⟩ h1 (.inr rfl) (.inl rfl), ?_⟩,
    ⟨_, all_cold (t := ⟨x.b0, x.w0, x.q0, x.s0⟩) (c := k1) (f := d.f0) ⟨.inl rfl, .inl rfl, .inl rfl, .inl rfl, c1, .inl rfl⟩ h1 (.inr rfl) (.inl rfl), rfl⟩,
    ⟨_, all_cold (t := ⟨x.b0, x.w0, x.q1, x.s1⟩) (c := k0) (f := d.f1) ⟨.inl rfl, .inl rfl, .inr rfl, .inr rfl, c0, .inr rfl⟩ h0 (.inl rfl) (.inl rfl), rfl⟩,
    ⟨_, all_cold (t := ⟨x.b0, x.w0, x.q0, x.s0⟩) (c := k1) (f := d.f0) ⟨.inl rfl, .inl rfl, .inl rfl, .inl rfl, c1, .inl rfl⟩ h1 (.inr rfl) (.inl rfl), rfl⟩,
    ⟨_, all_cold (t := ⟨x.b0, x.w0, x.q1, x.s1⟩) (c := k0) (f := d.f1) ⟨.inl rfl, .inl rfl, .inr rfl, .inr rfl, c0, .inr rfl⟩ h0 (.inl rfl) (.inl rfl), rfl⟩⟩
  · simp only [frzU, opnU, coldI, openI, a3, a4]
  · simp only [frzU, opnU, coldI, openI, b3, b4]
theorem warm_att (l : Lw) (x : Ic) (d : Dy) {k0 k1 : Int} (h0 : 0 < k0) (h1 : 0 < k1) (c0 : Cld d (-k0)) (c1 : Cld d (-k1)) : Att (AllU l x d) (warmI l (openI l x d) k0 k1) :=
  ⟨⟨_, all_warm (t := ⟨x.b0, x.w0, x.q0, x.s0⟩) (c := k1) (f := d.f0) ⟨.inl rfl, .inl rfl, .inl rfl, .inl rfl, c1, .inl rfl⟩ h1 (.inr rfl), rfl⟩,
    ⟨_, all_warm (t := ⟨x.b1, x.w1, x.q1, x.s1⟩) (c := k0) (f := d.f1) ⟨.inr rfl, .inr rfl, .inr rfl, .inr rfl, c0, .inr rfl⟩ h0 (.inl rfl), rfl⟩,
    ⟨_, all_warm (t := ⟨x.b0, x.w0, x.q0, x.s0⟩) (c := k1) (f := d.f0) ⟨.inl rfl, .inl rfl, .inl rfl, .inl rfl, c1, .inl rfl⟩ h1 (.inr rfl), rfl⟩,
    ⟨_, all_warm (t := ⟨x.b1, x.w1, x.q1, x.s1⟩) (c := k0) (f := d.f1) ⟨.inr rfl, .inr rfl, .inr rfl, .inr rfl, c0, .inr rfl⟩ h0 (.inl rfl), rfl⟩,
    ⟨_, all_warm (t := ⟨x.b0, x.w0, x.q0, x.s0⟩) (c := k1) (f := d.f0) ⟨.inl rfl, .inl rfl, .inl rfl, .inl rfl, c1, .inl rfl⟩ h1 (.inr rfl), rfl⟩,
    ⟨_, all_warm (t := ⟨x.b1, x.w1, x.q1, x.s1⟩) (c := k0) (f := d.f1) ⟨.inr rfl, .inr rfl, .inr rfl, .inr rfl, c0, .inr rfl⟩ h0 (.inl rfl), rfl⟩,
    ⟨_, all_warm (t := ⟨x.b0, x.w0, x.q0, x.s0⟩) (c := k1) (f := d.f0) ⟨.inl rfl, .inl rfl, .inl rfl, .inl rfl, c1, .inl rfl⟩ h1 (.inr rfl), rfl⟩,
    ⟨_, all_warm (t := ⟨x.b1, x.w1, x.q1, x.s1⟩) (c := k0) (f := d.f1) ⟨.inr rfl, .inr rfl, .inr rfl, .inr rfl, c0, .inr rfl⟩ h0 (.inl rfl), rfl⟩⟩
theorem step_att {l : Lw} {x : Ic} {d : Dy} (hd : d.Ok) : Att (AllU l x d) (stepI l x d) := by
  have k := hd.c1
  unfold stepI
  by_cases h0 : 0 ≤ d.c0
  · rw [if_pos h0]
    exact cold_att l x d h0 (by omega) (.inl rfl) (.inr (.inl rfl))
  · rw [if_neg h0]
    by_cases h1 : d.c1 < 0
    · rw [if_pos h1]
      exact warm_att l x d (by omega) (by omega) (by rw [Int.neg_neg]; exact .inr (.inl rfl)) (by rw [Int.neg_neg]; exact .inl rfl)
    · rw [if_neg h1]
      exact (cold_att l x d (by omega) (by omega) (.inr (.inr ⟨by omega, by omega, .inr rfl⟩)) (.inr (.inl rfl))).join
        (warm_att l x d (by omega) (by omega) (.inr (.inr ⟨by omega, by omega, .inl rfl⟩)) (by rw [Int.neg_neg]; exact .inl rfl))
theorem ends_met {l : Lw} (hl : l.Kit) {x : Ic} (hx : x.Nn) {d : Dy} (hd : d.Ok) : Met (AllU l x d) (stepI l x d) := by
  obtain ⟨a1, a2, a3, a4, a5, a6, a7, a8⟩ := step_att (l := l) (x := x) hd
  refine ⟨fun u hu => ?_, a1, a2, a3, a4, a5, a6, a7, a8⟩
  obtain ⟨t, c, f, ⟨e1, e2, e3, e4, e5, e6⟩, hu⟩ := hu
  obtain ⟨n1, n2, n3, n4, n5, n6, n7, n8⟩ := id hx
  obtain ⟨d1, d2, d3, d4, d5, d6, d7, d8⟩ := id hd
  have ht : TrIn t.b t.w t.q t.s x := by
    unfold Ede at e1 e2 e3 e4
    constructor <;> omega
  have hc1 : d.c0 ≤ c ∧ c ≤ d.c1 := by unfold Cld at e5; omega
  have hf1 : d.f0 ≤ f ∧ f ≤ d.f1 := by unfold Ede at e6; omega
  unfold DayU at hu
  by_cases hc : c < 0
  · rw [if_pos hc] at hu
    have q := got_LH (c := -c) (c' := -c) (by omega) (Int.le_refl _) hl.ok.m0 hl.ok.m1
    rcases hu with rfl | rfl
    · exact true_warm hl hx ht hd hc1.1 hc1.2 hf1.1 hf1.2 hc (Int.le_refl _) q rfl rfl
    · exact true_warm hl hx ht hd hc1.1 hc1.2 hf1.1 hf1.2 hc q (Int.le_refl _) rfl rfl
  · rw [if_neg hc] at hu
    obtain ⟨n, hn, hu⟩ := hu
    have p0 := lastP_in l.D l.P0 (opnU l d t f).s l.n hl.ok.n1 hl.ok.p0
    have pp := lastP_le l.D l.P0 l.P1 (opnU l d t f).s l.n (hl.each 0 (by have := hl.ok.n1; omega)).2.2.2.1 (fun i hi => (hl.each i hi).2.2.2.1)
    have q := got_LH (c := c) (c' := c) (by omega) (Int.le_refl _) p0.1 pp
    have hn1 : gotL c (lastP l.D l.P0 (opnU l d t f).s l.n) ≤ n ∧ n ≤ gotH c (lastP l.D l.P1 (opnU l d t f).s l.n) := by unfold Ede at hn; omega
    rcases hu with rfl | rfl
    · exact true_cold hl hx ht hd hc1.1 hc1.2 hf1.1 hf1.2 (by omega) rfl rfl hn1.1 hn1.2 rtI (.inl rfl)
    · exact true_cold hl hx ht hd hc1.1 hc1.2 hf1.1 hf1.2 (by omega) rfl rfl hn1.1 hn1.2 rfI (.inr rfl)
end Go.Proofs.Ytkldjaofgdklbaa

namespace Go.Proofs.Ytkldjaofgdklbaa
open Go.RowKit

def catC (C : Nat → List Value) : Nat → List Value
  | 0 => []
  | k + 1 => catC C k ++ C k
theorem catC_congr {C D : Nat → List Value} : ∀ k, (∀ i, i < k → C i = D i) → catC C k = catC D k
  | 0, _ => rfl
  | k + 1, h => by rw [catC, catC, catC_congr k (fun i hi => h i (by omega)), h k (by omega)]
theorem catC_len (C : Nat → List Value) (s : Nat) (hs : ∀ i, (C i).length = s) : ∀ k, (catC C k).length = k * s
  | 0 => by simp [catC]
  | k + 1 => by rw [catC, List.length_append, catC_len C s hs k, hs k, Nat.add_mul]; omega
theorem catC_at (C : Nat → List Value) (s : Nat) (hs : ∀ i, (C i).length = s) (i j : Nat) (hj : j < s) : ∀ m, i < m → (catC C m)[i * s + j]? = (C i)[j]?
  | 0, h => by omega
  | k + 1, h => by
    rw [catC]
    have hl := catC_len C s hs k
    by_cases hik : i < k
    · have : (i + 1) * s ≤ k * s := Nat.mul_le_mul (by omega) (Nat.le_refl s)
      rw [Nat.add_mul] at this
      rw [List.getElem?_append_left (by omega)]
      exact catC_at C s hs i j hj k hik
    · obtain rfl : i = k := by omega
      rw [List.getElem?_append_right (by omega), hl]
      congr 1
      omega
def upF {α : Type} (f : Nat → α) (k : Nat) (v : α) : Nat → α := fun i => if i = k then v else f i
theorem upF_at {α : Type} (f : Nat → α) (k : Nat) (v : α) : upF f k v k = v := if_pos rfl
theorem upF_ne {α : Type} (f : Nat → α) {k i : Nat} (v : α) (h : i ≠ k) : upF f k v i = f i := if_neg h
def intC (x : Nat → Int) (i : Nat) : List Value := [.int .i64 (x i)]
def trC (u : Nat → T4) (i : Nat) : List Value := [.int .i64 (u i).b, .int .i64 (u i).w, .int .i64 (u i).q, .int .i64 (u i).s]
theorem catC_up {α : Type} (C : (Nat → α) → Nat → List Value) (D : α → List Value) (hC : ∀ f i, C f i = D (f i)) (f : Nat → α) (k : Nat) (v : α) : catC (C (upF f k v)) (k + 1) = catC (C f) k ++ D v := by
  rw [catC, catC_congr (D := C f) k (fun i hi => by rw [hC, hC, upF_ne f v (show i ≠ k by omega)]), hC, upF_at]
theorem intC_up (x : Nat → Int) (k : Nat) (a : Int) : catC (intC (upF x k a)) (k + 1) = catC (intC x) k ++ [.int .i64 a] := catC_up intC (fun a => [.int .i64 a]) (fun _ _ => rfl) x k a
theorem trC_up (u : Nat → T4) (k : Nat) (z : T4) : catC (trC (upF u k z)) (k + 1) = catC (trC u) k ++ [.int .i64 z.b, .int .i64 z.w, .int .i64 z.q, .int .i64 z.s] := catC_up trC (fun z => [.int .i64 z.b, .int .i64 z.w, .int .i64 z.q, .int .i64 z.s]) (fun _ _ => rfl) u k z
def IntsAt (w : World) (v : Value) (n : Nat) (x : Nat → Int) : Prop :=
  ∃ a cap, v = .slice a n cap ∧ n ≤ cap ∧ cap ≤ 9223372036854775807 ∧ (0 < n → ∃ b o, a = some ⟨b, o, none⟩ ∧ ∀ i, i < n → w.cell? ⟨b, o + i, none⟩ = some (.int .i64 (x i)))
theorem IntsAt.later {w w' : World} {v : Value} {n : Nat} {x : Nat → Int} (h : IntsAt w v n x) (hb : Below w.heap.size w w') : IntsAt w' v n x := by
  obtain ⟨a, cap, hv, h1, h2, h3⟩ := h
  refine ⟨a, cap, hv, h1, h2, fun h0 => ?_⟩
  obtain ⟨b, o, ha, hc⟩ := h3 h0
  exact ⟨b, o, ha, fun i hi => cell_later hb (hc i hi)⟩
theorem ints_of_row {W : World} {base : Nat} {t : TypeId} {v : Value} {m : Nat} {x : Nat → Int} (h : W.ownsRow base t 1 v m (catC (intC x) m)) : IntsAt W v m x := by
  obtain ⟨a, cap, hv, h1, h2, h3⟩ := row_at h (by decide)
  refine ⟨a, cap, hv, h1, h2, fun h0 => ?_⟩
  obtain ⟨b, ha, hc⟩ := h3 h0
  refine ⟨b, 0, ha, fun i hi => ?_⟩
  have q := (hc i 0 hi (by decide)).trans (catC_at (intC x) 1 (fun _ => rfl) i 0 (by decide) m hi)
  simpa [intC] using q
theorem own_blk {W : World} {b base : Nat} {C : Array Value} {t : TypeId} (h : Blk W b C t) (hb : base ≤ b) (n : Nat) (hn : C.size = n) (hm : n ≤ 1000) : W.ownsRow base t 1 (.slice (some ⟨b, 0, none⟩) n n) n C.toList :=
  ⟨by simp [hn], .inr ⟨b, n, C, rfl, hb, h, Nat.le_refl _, by unfold maxLen; omega, by omega, by rw [Nat.mul_one, ← hn]; exact List.take_of_length_le (by simp)⟩⟩
theorem news1 (W : World) (a : Int) (t : TypeId) : ∀ (j : Nat) (u : Value), [Value.int .i64 a][j]? = some u → (W.alloc (.cells #[.int .i64 a] t)).cell? ((⟨W.heap.size, 0, none⟩ : Addr).add j) = some u := by
  intro j u h
  have hk := Blk.new W #[.int .i64 a] t
  have e : (⟨W.heap.size, 0, none⟩ : Addr).add j = ⟨W.heap.size, j, none⟩ := by simp [Addr.add]; intro hj; exact hj.symm
  rw [e]
  exact hk.cell j (by simpa using h)
theorem newsN (W : World) (C : Array Value) (t : TypeId) : ∀ (j : Nat) (u : Value), C.toList[j]? = some u → (W.alloc (.cells C t)).cell? ((⟨W.heap.size, 0, none⟩ : Addr).add j) = some u := by
  intro j u h
  have hk := Blk.new W C t
  have e : (⟨W.heap.size, 0, none⟩ : Addr).add j = ⟨W.heap.size, j, none⟩ := by simp [Addr.add]; intro hj; exact hj.symm
  rw [e]
  exact hk.cell j (by simpa using h)
theorem Try.infoInt : (Try.prog.info? 3).map (fun i => (i.zero, i.size, i.bytes)) = some (some (.int .i64 0), 1, 8) := by kernel_rfl
theorem row_later {w w' : World} {base s n : Nat} {e : TypeId} {v : Value} {xs : List Value} (h : w.ownsRow base e s v n xs) (hb : Below w.heap.size w w') : w'.ownsRow base e s v n xs := by
  refine h.kept (grown_of_below hb) ?_
  rcases h.2 with ⟨rfl, _⟩ | ⟨g, cap, cur, rfl, _⟩
  · exact .inl rfl
  · exact .inr (by simp [Value.ownBlock])
theorem grown_below {B : Nat} {w V W : World} {r : Option Nat} (h : Below B w V) (g : V.grownBy W r) (hr : ∀ k, r = some k → B ≤ k) (hB : B ≤ w.heap.size) : Below B w W :=
  ⟨g.os.trans h.os, g.tape.trans h.tape, g.output.trans h.output, Nat.le_trans h.size g.size, fun k hk => (g.block k (Nat.lt_of_lt_of_le hk (Nat.le_trans hB h.size)) (fun e => by have := hr k e.symm; omega)).trans (h.block k hk)⟩

structure Lst (P : Int → Prop) (n : Nat) (x : Nat → Int) : Prop where
  n1 : 1 ≤ n
  n4 : n ≤ 4
  all : ∀ i, i < n → P (x i)
  each : ∀ c, P c → ∃ i, i < n ∧ x i = c
def F1 (a : Int) : Nat → Int := fun _ => a
def F2 (a c : Int) : Nat → Int := fun i => if i = 0 then a else c
theorem lst_one (a : Int) : Lst (Ede a a) 1 (F1 a) := ⟨by decide, by decide, fun i hi => .inl rfl, fun c hc => ⟨0, by decide, by rcases hc with rfl | rfl <;> rfl⟩⟩
theorem lst_two (a c : Int) : Lst (Ede a c) 2 (F2 a c) := ⟨by decide, by decide, fun i hi => by
  obtain rfl | rfl : i = 0 ∨ i = 1 := by omega
  · exact .inl rfl
  · exact .inr rfl, fun z hz => by
  rcases hz with rfl | rfl
  · exact ⟨0, by decide, rfl⟩
  · exact ⟨1, by decide, rfl⟩⟩

set_option maxRecDepth 100000 in
set_option maxHeartbeats 4000000 in
theorem ends_any (a c : Int) (w : World) : Calls Try.prog 38 #[.agg #[.int .i64 a, .int .i64 c]] w fun e w' => ∃ v n x, e = .returned v ∧ Lst (Ede a c) n x ∧ n ≤ 2 ∧ w'.ownsRow w.heap.size 3 1 v n (catC (intC x) n) ∧ Below w.heap.size w w' := by
  have jX := Blk.new w #[.int .i64 a, .int .i64 c] 24
  obtain ⟨x0, x1⟩ := jX.c2
  have zX := jX.lt
  clear jX
  go_enter Try.func38, Try.ntmps38
  by_cases h : a = c
  · subst h
    go_wp2
    go_ret
    exact ⟨_, 1, F1 a, rfl, lst_one a, by decide, own_blk (Blk.new1 w _ #[.int .i64 a] 3) (by omega) 1 rfl (by decide), by (repeat (first | exact Below.refl _ _ | assumption | refine Below.drew ?_ | refine Below.drewN ?_ _ | refine blT ?_ | refine blU ?_))⟩
  · have h' : (a == c) = false := by simp [h]
    have hn : decide (a = c) = false := by simp [h]
    go_wp2
    go_ret
    exact ⟨_, 2, F2 a c, rfl, lst_two a c, by decide, own_blk (Blk.new1 w _ #[.int .i64 a, .int .i64 c] 3) (by omega) 2 rfl (by decide), by (repeat (first | exact Below.refl _ _ | assumption | refine Below.drew ?_ | refine Below.drewN ?_ _ | refine blT ?_ | refine blU ?_))⟩
end Go.Proofs.Ytkldjaofgdklbaa

namespace Go.Proofs.Ytkldjaofgdklbaa
open Go.RowKit

theorem opene_pos {l : Lw} (hl : l.Kit) {d : Dy} (hd : d.Ok) {q s f Q S : Int} (q0 : 0 ≤ q) (s0 : 0 ≤ s) (s1 : s ≤ 10000000) (f0 : 0 ≤ f) (f1 : f ≤ 1000) (hQ : Q = wetP d.wa q (snowP d.cl s f) l.so) (hS : S = leftP d.wa (snowP d.cl s f)) :
    0 ≤ Q ∧ Q ≤ q + 200 + s + 1000 ∧ 0 ≤ S ∧ S ≤ s + 1000 := by
  have K : 0 ≤ snowP d.cl s f ∧ snowP d.cl s f ≤ s + f := by unfold snowP; split <;> omega
  have K0 := soak_le (snowP d.cl s f) l.so K.1 hl.ok.o0 hl.ok.o1
  have w0 := hd.w0
  have w1 := hd.w1
  unfold wetP at hQ
  unfold leftP at hS
  split at hQ <;> split at hS <;> omega

theorem newsB {W : World} {b : Nat} {C : Array Value} {t : TypeId} (hk : Blk W b C t) : ∀ (j : Nat) (u : Value), C.toList[j]? = some u → W.cell? ((⟨b, 0, none⟩ : Addr).add j) = some u := by
  intro j u h
  have e : (⟨b, 0, none⟩ : Addr).add j = ⟨b, j, none⟩ := by simp [Addr.add]; intro hj; exact hj.symm
  rw [e]
  exact hk.cell j (by simpa using h)
theorem ones4 (u : T4) : ∀ v ∈ (#[.int .i64 u.b, .int .i64 u.w, .int .i64 u.q, .int .i64 u.s] : Array Value).toList, v.oneCell' = true := by
  intro v h
  simp only [List.mem_cons, List.not_mem_nil, or_false] at h
  rcases h with rfl | rfl | rfl | rfl <;> rfl
theorem ones8 (u z : T4) : ∀ v ∈ (#[.int .i64 u.b, .int .i64 u.w, .int .i64 u.q, .int .i64 u.s, .int .i64 z.b, .int .i64 z.w, .int .i64 z.q, .int .i64 z.s] : Array Value).toList, v.oneCell' = true := by
  intro v h
  simp only [List.mem_cons, List.not_mem_nil, or_false] at h
  rcases h with rfl | rfl | rfl | rfl | rfl | rfl | rfl | rfl <;> rfl
theorem Try.infoTrue : (Try.prog.info? 57).map (fun i => (i.zero, i.size, i.bytes)) = some (some (.agg #[.int .i64 0, .int .i64 0, .int .i64 0, .int .i64 0]), 4, 32) := by kernel_rfl

structure SD (l : Lw) (va : Option Addr) (vcap : Nat) (o : T4) (w W : World) : Prop where
  law : Blk W w.heap.size #[.int .i64 l.gr, .int .i64 l.la, .slice va l.n vcap, .int .i64 l.m0, .int .i64 l.m1, .int .i64 l.so, .int .i64 l.h0, .int .i64 l.h1] 26
  tr : Blk W (w.heap.size + 1) #[.int .i64 o.b, .int .i64 o.w, .int .i64 o.q, .int .i64 o.s] 57
  old : Below w.heap.size w W
  siz : w.heap.size + 3 ≤ W.heap.size
theorem SD.call {l : Lw} {va : Option Addr} {vcap : Nat} {o : T4} {w W W' : World} (h : SD l va vcap o w W) (hb : Below W.heap.size W W') : SD l va vcap o w W' :=
  ⟨h.law.call hb, h.tr.call hb, bwS h.old (Nat.le_refl _) hb, Nat.le_trans h.siz hb.size⟩
theorem SD.drew {l : Lw} {va : Option Addr} {vcap : Nat} {o : T4} {w W : World} (h : SD l va vcap o w W) : SD l va vcap o w W.drew := ⟨h.law.drew, h.tr.drew, h.old.drew, h.siz⟩
theorem SD.alloc {l : Lw} {va : Option Addr} {vcap : Nat} {o : T4} {w W : World} (h : SD l va vcap o w W) (x : Obj) : SD l va vcap o w (W.alloc x) :=
  h.call ((Below.refl _ _).alloc (Nat.le_refl _) x)
theorem SD.grown {l : Lw} {va : Option Addr} {vcap : Nat} {o : T4} {w W W' : World} {r : Option Nat} (h : SD l va vcap o w W) (g : W.grownBy W' r) (hr : ∀ k, r = some k → w.heap.size + 3 ≤ k) : SD l va vcap o w W' :=
  ⟨h.law.grown3 g (fun k e => by have := hr k e; omega), h.tr.grown3 g (fun k e => by have := hr k e; omega), grown_below h.old g (fun k e => by have := hr k e; omega) (Nat.le_refl _), Nat.le_trans h.siz g.size⟩
def alt (l : Lw) (o : T4) (x : Nat → Int) (j : Nat) : T4 := frzU l (if j % 2 = 0 then rtI else rfI) o (x (j / 2))
theorem alt_up (l : Lw) (o : T4) (x : Nat → Int) (k : Nat) : catC (trC (alt l o x)) (2 * (k + 1)) = catC (trC (alt l o x)) (2 * k) ++ (#[.int .i64 (frzU l rtI o (x k)).b, .int .i64 (frzU l rtI o (x k)).w, .int .i64 (frzU l rtI o (x k)).q, .int .i64 (frzU l rtI o (x k)).s, .int .i64 (frzU l rfI o (x k)).b, .int .i64 (frzU l rfI o (x k)).w, .int .i64 (frzU l rfI o (x k)).q, .int .i64 (frzU l rfI o (x k)).s] : Array Value).toList := by
  have e1 : alt l o x (2 * k) = frzU l rtI o (x k) := by
    unfold alt
    rw [if_pos (by omega), show 2 * k / 2 = k by omega]
  have e2 : alt l o x (2 * k + 1) = frzU l rfI o (x k) := by
    unfold alt
    rw [if_neg (by omega), show (2 * k + 1) / 2 = k by omega]
  rw [show 2 * (k + 1) = 2 * k + 1 + 1 by omega, catC, catC, List.append_assoc]
  simp only [trC, e1, e2]
  rfl

set_option maxRecDepth 100000 in
set_option maxHeartbeats 16000000 in
theorem edays_any (l : Lw) (va : Option Addr) (vcap : Nat) (t : T4) (d : Dy) (c f : Int) (w : World) (hl : l.Kit) (hv : CovAt w (.slice va l.n vcap) l.n l.D l.P0 l.P1)
    (b1 : 0 ≤ t.b ∧ t.b ≤ 10000000) (b2 : 0 ≤ t.w ∧ t.w ≤ 10000000) (b3 : 0 ≤ t.q ∧ t.q ≤ 10000000) (b4 : 0 ≤ t.s ∧ t.s ≤ 10000000) (hd : d.Ok) (hc : d.c0 ≤ c ∧ c ≤ d.c1) (hf : d.f0 ≤ f ∧ f ≤ d.f1) :
    Calls Try.prog 41 #[.agg #[.int .i64 l.gr, .int .i64 l.la, (.slice va l.n vcap), .int .i64 l.m0, .int .i64 l.m1, .int .i64 l.so, .int .i64 l.h0, .int .i64 l.h1], .agg #[.int .i64 t.b, .int .i64 t.w, .int .i64 t.q, .int .i64 t.s], .agg #[.int .i64 d.c0, .int .i64 d.c1, .int .i64 d.f0, .int .i64 d.f1, .int .i64 d.wa, .bool d.cl], .int .i64 c, .int .i64 f] w fun e w' => ∃ v n u, e = .returned v ∧ 1 ≤ n ∧ n ≤ 8 ∧ (∀ i, i < n → DayU l d t c f (u i)) ∧ (∀ z, DayU l d t c f z → ∃ i, i < n ∧ u i = z) ∧ w'.ownsRow w.heap.size 57 4 v n (catC (trC u) n) ∧ Below w.heap.size w w' := by
  obtain ⟨i0, hi0, hz0, hz1, hz2⟩ := info_parts Try.infoTrue
  obtain ⟨d1, d2, d3, d4, d5, d6, d7, d8⟩ := id hd
  obtain ⟨o, ho⟩ : ∃ o, opnU l d t f = o := ⟨_, rfl⟩
  have hq := opene_pos hl hd (q := t.q) (s := t.s) (f := f) (by omega) (by omega) (by omega) (by omega) (by omega) rfl rfl
  have ob : o.b = t.b := by rw [← ho]; rfl
  have ow : o.w = t.w := by rw [← ho]; rfl
  have oq : o.q = wetP d.wa t.q (snowP d.cl t.s f) l.so := by rw [← ho]; rfl
  have os : o.s = leftP d.wa (snowP d.cl t.s f) := by rw [← ho]; rfl
  rw [← oq, ← os] at hq
  have HO := Lib.hid (show ∀ W, Calls Try.prog 76 #[.agg #[.int .i64 l.gr, .int .i64 l.la, (.slice va l.n vcap), .int .i64 l.m0, .int .i64 l.m1, .int .i64 l.so, .int .i64 l.h0, .int .i64 l.h1], .agg #[.int .i64 t.b, .int .i64 t.w, .int .i64 t.q, .int .i64 t.s], .agg #[.int .i64 d.c0, .int .i64 d.c1, .int .i64 d.f0, .int .i64 d.f1, .int .i64 d.wa, .bool d.cl], .int .i64 f] W fun e w' => e = .returned (.agg #[.int .i64 o.b, .int .i64 o.w, .int .i64 o.q, .int .i64 o.s]) ∧ Below W.heap.size W w' from fun W => by
    have q := ropened_any l va vcap t.b t.w t.q t.s d f W hl.ok (by omega) (by omega) (by omega) (by omega) (by omega) (by omega) d8
    rw [← oq, ← os, ← ob, ← ow] at q
    rw [← ob, ← ow]
    exact q)
  have HM := Lib.hid (show ∀ n W, 0 ≤ n → n ≤ 100000000 → Calls Try.prog 77 #[.agg #[.int .i64 o.b, .int .i64 o.w, .int .i64 o.q, .int .i64 o.s], .int .i64 n] W fun e w' => ∃ u, u = mltU o n ∧ e = .returned (.agg #[.int .i64 u.b, .int .i64 u.w, .int .i64 u.q, .int .i64 u.s]) ∧ Below W.heap.size W w' from fun n W c0 c1 => (rmelted_any o.b o.w o.q o.s n W (by omega) (by omega) (by omega) (by omega) (by omega) (by omega) c0 (by omega)).mono fun e w' h => ⟨_, rfl, h.1, h.2⟩)
  have HF := Lib.hid (show ∀ n W, 0 ≤ n → n ≤ 100000 → Calls Try.prog 79 #[.agg #[.int .i64 l.gr, .int .i64 l.la, (.slice va l.n vcap), .int .i64 l.m0, .int .i64 l.m1, .int .i64 l.so, .int .i64 l.h0, .int .i64 l.h1], .agg #[.int .i64 o.b, .int .i64 o.w, .int .i64 o.q, .int .i64 o.s], .int .i64 n, .bool false] W fun e w' => ∃ u, u = frzU l rtI o n ∧ e = .returned (.agg #[.int .i64 u.b, .int .i64 u.w, .int .i64 u.q, .int .i64 u.s]) ∧ Below W.heap.size W w' from fun n W c0 c1 => (rfrozen_false l va vcap o.b o.w o.q o.s n W hl.ok (by omega) (by omega) (by omega) (by omega) (by omega) (by omega) c0 c1).mono fun e w' h => ⟨_, rfl, h.1, h.2⟩)
  have HG := Lib.hid (show ∀ n W, 0 ≤ n → n ≤ 100000 → Calls Try.prog 79 #[.agg #[.int .i64 l.gr, .int .i64 l.la, (.slice va l.n vcap), .int .i64 l.m0, .int .i64 l.m1, .int .i64 l.so, .int .i64 l.h0, .int .i64 l.h1], .agg #[.int .i64 o.b, .int .i64 o.w, .int .i64 o.q, .int .i64 o.s], .int .i64 n, .bool true] W fun e w' => ∃ u, u = frzU l rfI o n ∧ e = .returned (.agg #[.int .i64 u.b, .int .i64 u.w, .int .i64 u.q, .int .i64 u.s]) ∧ Below W.heap.size W w' from fun n W c0 c1 => (rfrozen_true l va vcap o.b o.w o.q o.s n W hl.ok (by omega) (by omega) (by omega) (by omega) (by omega) (by omega) c0 c1).mono fun e w' h => ⟨_, rfl, h.1, h.2⟩)
  have HT := Lib.hid (show ∀ W, c < 0 → Calls Try.prog 78 #[.agg #[.int .i64 l.gr, .int .i64 l.la, (.slice va l.n vcap), .int .i64 l.m0, .int .i64 l.m1, .int .i64 l.so, .int .i64 l.h0, .int .i64 l.h1], .int .i64 (-c)] W fun e w' => ∃ g0 g1, e = .returned (.agg #[.int .i64 g0, .int .i64 g1]) ∧ g0 = gotL (-c) l.m0 ∧ g1 = gotH (-c) l.m1 ∧ 0 ≤ g0 ∧ g0 ≤ g1 ∧ g1 ≤ 100000000 ∧ Below W.heap.size W w' from fun W c1 => by
    have k0 := hl.ok.m0
    have k1 := hl.ok.m1
    have k2 := hl.ok.m2
    have a0 : 0 ≤ (-c) * l.m0 := Int.mul_nonneg (by omega) k0
    have a1 : (-c) * l.m0 ≤ 1000 * 10000000 := Int.mul_le_mul (by omega) (by omega) k0 (by omega)
    have b0 : 0 ≤ (-c) * l.m1 := Int.mul_nonneg (by omega) (by omega)
    have b1 : (-c) * l.m1 ≤ 1000 * 10000000 := Int.mul_le_mul (by omega) (by omega) (by omega) (by omega)
    refine (rthawed_any l va vcap (-c) W a0 (by omega) b0 (by omega)).mono ?_
    rintro e w' ⟨rfl, hb⟩
    have q := got_LH (c := -c) (c' := -c) (by omega) (Int.le_refl _) k0 k1
    refine ⟨_, _, rfl, rfl, rfl, ?_, q, ?_, hb⟩
    · unfold gotL
      omega
    · unfold gotH
      omega)
  have HTh := Lib.hid (show ∀ W, 0 ≤ c → Below w.heap.size w W → Calls Try.prog 80 #[.agg #[.int .i64 l.gr, .int .i64 l.la, (.slice va l.n vcap), .int .i64 l.m0, .int .i64 l.m1, .int .i64 l.so, .int .i64 l.h0, .int .i64 l.h1], .int .i64 o.s, .int .i64 c] W fun e w' => ∃ g0 g1, e = .returned (.agg #[.int .i64 g0, .int .i64 g1]) ∧ g0 = gotL c (lastP l.D l.P0 o.s l.n) ∧ g1 = gotH c (lastP l.D l.P1 o.s l.n) ∧ 0 ≤ g0 ∧ g0 ≤ g1 ∧ g1 ≤ 100000 ∧ Below W.heap.size W w' from fun W c0 hW => by
    have n4 := hl.n4
    have p0 := lastP_in l.D l.P0 o.s l.n hl.ok.n1 hl.ok.p0
    have p1 := lastP_in l.D l.P1 o.s l.n hl.ok.n1 hl.ok.p1
    have pp := lastP_le l.D l.P0 l.P1 o.s l.n (hl.each 0 (by have := hl.ok.n1; omega)).2.2.2.1 (fun i hi => (hl.each i hi).2.2.2.1)
    have i0 := got_in c _ c0 (by omega) p0.1 p0.2
    have i1 := got_in c _ c0 (by omega) p1.1 p1.2
    refine (rthrough_any l va vcap o.s c W hl.ok (by omega) (hv.later hW) c0 (by omega)).mono ?_
    rintro e w' ⟨rfl, hb⟩
    have q := got_LH (c := c) (c' := c) c0 (Int.le_refl _) p0.1 pp
    exact ⟨_, _, rfl, rfl, rfl, by omega, q, by omega, hb⟩)
  have HD : Hid (DayU l d t c f = fun u => if c < 0 then u = mltU o (gotL (-c) l.m0) ∨ u = mltU o (gotH (-c) l.m1)
    else ∃ n, Ede (gotL c (lastP l.D l.P0 o.s l.n)) (gotH c (lastP l.D l.P1 o.s l.n)) n ∧ (u = frzU l rtI o n ∨ u = frzU l rfI o n)) := Lib.hid (by unfold DayU; rw [ho])
  clear hq d2 d3 d4 d5 d6 d7 d8 ob ow oq os ho b1 b2 b3 b4 hv hl
  obtain ⟨P, hP⟩ : ∃ P, DayU l d t c f = P := ⟨_, rfl⟩
  rw [hP] at HD ⊢
  clear hP hd
  have jL := ((Blk.new w #[.int .i64 l.gr, .int .i64 l.la, .slice va l.n vcap, .int .i64 l.m0, .int .i64 l.m1, .int .i64 l.so, .int .i64 l.h0, .int .i64 l.h1] 26).alloc (.cells #[.int .i64 t.b, .int .i64 t.w, .int .i64 t.q, .int .i64 t.s] 57)).alloc (.cells #[.int .i64 d.c0, .int .i64 d.c1, .int .i64 d.f0, .int .i64 d.f1, .int .i64 d.wa, .bool d.cl] 30)
  have jT := (Blk.new1 w (.cells #[.int .i64 l.gr, .int .i64 l.la, (.slice va l.n vcap), .int .i64 l.m0, .int .i64 l.m1, .int .i64 l.so, .int .i64 l.h0, .int .i64 l.h1] 26) #[.int .i64 t.b, .int .i64 t.w, .int .i64 t.q, .int .i64 t.s] 57).alloc (.cells #[.int .i64 d.c0, .int .i64 d.c1, .int .i64 d.f0, .int .i64 d.f1, .int .i64 d.wa, .bool d.cl] 30)
  have jD := Blk.new2 w (.cells #[.int .i64 l.gr, .int .i64 l.la, (.slice va l.n vcap), .int .i64 l.m0, .int .i64 l.m1, .int .i64 l.so, .int .i64 l.h0, .int .i64 l.h1] 26) (.cells #[.int .i64 t.b, .int .i64 t.w, .int .i64 t.q, .int .i64 t.s] 57) #[.int .i64 d.c0, .int .i64 d.c1, .int .i64 d.f0, .int .i64 d.f1, .int .i64 d.wa, .bool d.cl] 30
  have jB : Below w.heap.size w (((w.alloc (.cells #[.int .i64 l.gr, .int .i64 l.la, (.slice va l.n vcap), .int .i64 l.m0, .int .i64 l.m1, .int .i64 l.so, .int .i64 l.h0, .int .i64 l.h1] 26)).alloc (.cells #[.int .i64 t.b, .int .i64 t.w, .int .i64 t.q, .int .i64 t.s] 57)).alloc (.cells #[.int .i64 d.c0, .int .i64 d.c1, .int .i64 d.f0, .int .i64 d.f1, .int .i64 d.wa, .bool d.cl] 30)) := by (repeat (first | exact Below.refl _ _ | assumption | refine Below.drew ?_ | refine Below.drewN ?_ _ | refine blT ?_ | refine blU ?_))
  go_enter Try.func41, Try.ntmps41
  go_upto_region 1 with fail
  have zS : w.heap.size + 3 ≤ (((w.alloc (.cells #[.int .i64 l.gr, .int .i64 l.la, (.slice va l.n vcap), .int .i64 l.m0, .int .i64 l.m1, .int .i64 l.so, .int .i64 l.h0, .int .i64 l.h1] 26)).alloc (.cells #[.int .i64 t.b, .int .i64 t.w, .int .i64 t.q, .int .i64 t.s] 57)).alloc (.cells #[.int .i64 d.c0, .int .i64 d.c1, .int .i64 d.f0, .int .i64 d.f1, .int .i64 d.wa, .bool d.cl] 30)).heap.size := by simp
  generalize ((w.alloc (.cells #[.int .i64 l.gr, .int .i64 l.la, (.slice va l.n vcap), .int .i64 l.m0, .int .i64 l.m1, .int .i64 l.so, .int .i64 l.h0, .int .i64 l.h1] 26)).alloc (.cells #[.int .i64 t.b, .int .i64 t.w, .int .i64 t.q, .int .i64 t.s] 57)).alloc (.cells #[.int .i64 d.c0, .int .i64 d.c1, .int .i64 d.f0, .int .i64 d.f1, .int .i64 d.wa, .bool d.cl] 30) = V at jL jT jD jB zS ⊢
  have kL := Lib.hid jL
  have kT := Lib.hid jT
  have kB := Lib.hid (And.intro jB zS)
  obtain ⟨l0, l1, l2, l3, l4, l5, l6, l7⟩ := jL.c8
  obtain ⟨a0, a1, a2, a3⟩ := jT.c4
  obtain ⟨q0, q1, q2, q3, q4, q5⟩ := jD.c6
  have y1 := jL.lt
  have y2 := jT.lt
  have y3 := jD.lt
  clear jL jT jD jB zS
  go_wp2_with fail
  clear l0 l1 l2 l3 l4 l5 l6 l7 a0 a1 a2 a3 q0 q1 q2 q3 q4 q5 y1 y2 y3
  refine (HO.out _).mono ?_
  rintro e w1 ⟨rfl, hb⟩
  have jT := kT.out.call hb
  have HS : Hid (SD l va vcap o w ((((w1.setCell ⟨w.heap.size + 1, 0, none⟩ (.int .i64 o.b)).setCell ⟨w.heap.size + 1, 1, none⟩ (.int .i64 o.w)).setCell ⟨w.heap.size + 1, 2, none⟩ (.int .i64 o.q)).setCell ⟨w.heap.size + 1, 3, none⟩ (.int .i64 o.s))) :=
    Lib.hid ⟨((((kL.out.call hb).other ⟨w.heap.size + 1, 0, none⟩ _ (show w.heap.size ≠ w.heap.size + 1 by omega)).other ⟨w.heap.size + 1, 1, none⟩ _ (show w.heap.size ≠ w.heap.size + 1 by omega)).other ⟨w.heap.size + 1, 2, none⟩ _ (show w.heap.size ≠ w.heap.size + 1 by omega)).other ⟨w.heap.size + 1, 3, none⟩ _ (show w.heap.size ≠ w.heap.size + 1 by omega),
      jT.set4 (.int .i64 o.b) (.int .i64 o.w) (.int .i64 o.q) (.int .i64 o.s),
      ((((bwS kB.out.1 (Nat.le_refl _) hb).setCell (p := ⟨w.heap.size + 1, 0, none⟩) (Nat.le_succ _) _).setCell (p := ⟨w.heap.size + 1, 1, none⟩) (Nat.le_succ _) _).setCell (p := ⟨w.heap.size + 1, 2, none⟩) (Nat.le_succ _) _).setCell (p := ⟨w.heap.size + 1, 3, none⟩) (Nat.le_succ _) _,
      by have := kB.out.2; have := hb.size; simp; omega⟩
  obtain ⟨a0, a1, a2, a3⟩ := jT.c4
  have g0 := jT.free 0
  have g1 := jT.free 1
  have g2 := jT.free 2
  have g3 := jT.free 3
  have y2 := jT.lt
  clear kL kT kB hb jT HO
  go_upto_region 3 with fail
  clear a0 a1 a2 a3 g0 g1 g2 g3 y2
  have hS := HS.out
  clear HS
  generalize (((w1.setCell ⟨w.heap.size + 1, 0, none⟩ (.int .i64 o.b)).setCell ⟨w.heap.size + 1, 1, none⟩ (.int .i64 o.w)).setCell ⟨w.heap.size + 1, 2, none⟩ (.int .i64 o.q)).setCell ⟨w.heap.size + 1, 3, none⟩ (.int .i64 o.s) = W1 at hS ⊢
  clear w1
  by_cases hc0 : c < 0
  · have HDw : Hid (P = fun u => u = mltU o (gotL (-c) l.m0) ∨ u = mltU o (gotH (-c) l.m1)) := Lib.hid (by rw [HD.out]; funext u; simp only [if_pos hc0])
    have ec : IntKind.i64.wrap (-c) = -c := IntWalk.i64_in _ (by omega)
    have hdc : decide (c < 0) = true := by simp [hc0]
    have KS := Lib.hid hS
    obtain ⟨l0, l1, l2, l3, l4, l5, l6, l7⟩ := hS.law.c8
    have y1 := hS.law.lt
    clear HD HTh HF HG hS
    go_wp2_with fail
    clear l0 l1 l2 l3 l4 l5 l6 l7 y1
    refine (HT.out _ hc0).mono ?_
    rintro e w2 ⟨g0, g1, rfl, e0, e1, h0, h1, h2, hb⟩
    have hS := KS.out.call hb
    clear KS hb HT
    rw [← e0, ← e1] at HDw
    clear e0 e1
    go_wp2_with fail
    refine (ends_any _ _ _).mono ?_
    rintro e w3 ⟨v, n, x, rfl, hL, hn2, hR, hb⟩
    replace hS := hS.call hb
    have hx := ints_of_row hR
    clear hb hR
    obtain ⟨av, cv, rfl, hcv1, hcv2, hcv⟩ := hx
    obtain ⟨bv, ov, rfl, hcw⟩ := hcv (by have := hL.n1; omega)
    have HX := Lib.hid (fun i (hi : i < n) (W : World) (hW : Below w3.heap.size w3 W) => cell_later hW (hcw i hi))
    have HXb := Lib.hid (fun i (hi : i < n) => show 0 ≤ x i ∧ x i ≤ 100000000 from by have := hL.all i hi; unfold Ede at this; omega)
    have KL := Lib.hid hL
    have hn1 := hL.n1
    clear hcv hcw hL hc0
    have jR := World.ownsRow_nil w3 w3.heap.size 57 4
    have hz3 := hS.siz
    have hF := Below.refl w3.heap.size w3
    go_wp2_with fail
    go_loopw [11, 13] (fun out i wr => ∃ k : Nat, k ≤ n ∧ i = .int .i64 k ∧ wr.ownsRow w3.heap.size 57 4 out k (catC (trC fun i => mltU o (x i)) k) ∧ SD l va vcap o w wr ∧ Below w3.heap.size w3 wr) (fun _ i _ => n - (intOf i).toNat)
    case atStart => exact ⟨0, by omega, rfl, jR, hS, hF⟩
    case round =>
      clear hF hS jR
      obtain ⟨k, hk, rfl, hR, hS, hB⟩ := hrel
      by_cases hlt : k < n
      · have hki : (k : Int) < n := by omega
        have hxb := HXb.out k hlt
        have hR2 : (World.drew wr).ownsRow w3.heap.size 57 4 u11 k (catC (trC fun i => mltU o (x i)) k) := hR
        clear hR
        go_upto_region 8 with fail
        refine wp_region_held_drew (S := (fun w' => SD l va vcap o w w' ∧ Below w3.heap.size w3 w')) (by kernel_rfl) ?_ (fun hH => ?_)
        · (try dsimp only); (exact ⟨hS.drew, hB.drew⟩)
        refine tkY 0 (some 34) ?_ ?_ ?_
        rotate_left
        · intro w _; go_simp; (try with_reducible rfl)
        (try simp only [cq])
        refine tkY 1 (some 35) ?_ ?_ ?_
        rotate_left
        · intro w hS0; (try dsimp only at hS0); obtain ⟨a0, a1, a2, a3⟩ := hS0.1.tr.c4; have y2 := hS0.1.tr.lt; have x0 := HX.out k hlt _ hS0.2; have z0 := World.block_lt_of_cell? _ _ x0;go_simp; (try with_reducible rfl)
        (try simp only [cq])
        refine tkY 2 (some 36) ?_ ?_ ?_
        rotate_left
        · intro w _; go_simp; (try with_reducible rfl)
        (try simp only [cq])
        refine tkY 3 (some 37) ?_ ?_ ?_
        rotate_left
        · intro w _; go_simp; (try with_reducible rfl)
        (try simp only [cq])
        refine tkY 4 (some 38) ?_ ?_ ?_
        rotate_left
        · intro w hS0; (try dsimp only at hS0); obtain ⟨a0, a1, a2, a3⟩ := hS0.1.tr.c4; have y2 := hS0.1.tr.lt; have x0 := HX.out k hlt _ hS0.2; have z0 := World.block_lt_of_cell? _ _ x0;go_simp; (try with_reducible rfl)
        (try simp only [cq])
        refine tkY 5 (some 39) ?_ ?_ ?_
        rotate_left
        · intro w hS0; (try dsimp only at hS0); obtain ⟨a0, a1, a2, a3⟩ := hS0.1.tr.c4; have y2 := hS0.1.tr.lt; have x0 := HX.out k hlt _ hS0.2; have z0 := World.block_lt_of_cell? _ _ x0;go_simp; (try with_reducible rfl)
        (try simp only [cq])
        refine wpAnyH_ready (rs := [6]) (by kernel_rfl) (by simp) ?_
        refine arc1 (some 40) fun K hK => ?_
        go_simp
        (refine (HM.out _ _ hxb.1 hxb.2).mono ?_; rintro e w' ⟨u, hu, rfl, hb⟩; have HU := Lib.hid hu; clear hu; replace hR2 := row_later hR2 hb)
        refine hK.out _ _ ?_ ?_
        · exact ⟨hH.1.call hb, bwS hH.2 (Nat.le_refl _) hb⟩
        (try clear hH); (try clear hb)
        intro hH
        clear hK K
        (try simp only [cq])
        refine wpAnyH_ready (rs := [7]) (by kernel_rfl) (by simp) ?_
        refine arc1 (some 41) fun K hK => ?_
        go_simp
        first | refine oA hK ?_ (fun hH hA => ?_) | refine oD hK ?_ (fun hH hA => ?_)
        · exact ⟨hH.1.alloc _, bwA hH.2 (Nat.le_refl _) _⟩
        have kN := hA
        clear hA
        obtain ⟨bN, hbN⟩ : ∃ b, Blk.num kN = b := ⟨_, rfl⟩
        simp only [Blk.num] at hbN
        rw [hbN] at kN ⊢
        clear hbN
        replace hR2 := hR2.alloc (.cells #[.int .i64 u.b, .int .i64 u.w, .int .i64 u.q, .int .i64 u.s] 57)
        clear hK K
        (try simp only [cq])
        refine wpAnyH_ready (rs := [8]) (by kernel_rfl) (by simp) ?_
        refine arc1 (some 42) fun K hK => ?_
        rw [if_pos (by rfl)]
        obtain ⟨v', w8, hr, hown, hgrow, _, _⟩ := run_append_own_at (P := Try.prog) _ w3.heap.size 68 68 57 i0 (.agg #[.int .i64 0, .int .i64 0, .int .i64 0, .int .i64 0]) 4 32 Try.underlying68 hi0 hz0 hz1 hz2 rfl (by decide) u11 (k) _ hR2 ⟨bN, 0, none⟩ 1 1 (#[.int .i64 u.b, .int .i64 u.w, .int .i64 u.q, .int .i64 u.s] : Array Value).toList rfl (newsB kN) (ones4 u) (by unfold maxLen; omega) (by omega) hH.2.size
        simp only [Oper.wp, execOp, resolve, invoke, builtin, Sem.run_bind, Sem.run_pure, Result.andThen_ok, List.map_toArray, List.map_cons, List.map_nil]
        change Oper.upon _ _ _ _ _ ((Sem.run Try.prog (Builtin.append_ #[68, 68] 68 #[u11, .slice (some ⟨bN, 0, none⟩) 1 1]) _).andThen _)
        rw [hr]
        have hq := fun q e => (hR2.lt q e).1
        have HGG := Lib.hid (And.intro (hH.1.grown hgrow (fun q e => Nat.le_trans hz3 (hq q e))) (grown_below hH.2 hgrow hq (Nat.le_refl _)))
        clear hgrow hr hR2 kN hq
        simp only [Result.andThen_ok, Oper.upon]
        refine hK.out _ _ ?_ ?_
        · exact HGG.out
        (try clear hH); (try clear hb)
        intro hH
        clear hK K
        (try simp only [cq])
        refine tkY 9 (some 11) ?_ ?_ ?_
        rotate_left
        · intro w _; go_simp; (try with_reducible rfl)
        (try simp only [cq])
        refine wpAnyH_done (by kernel_rfl) ?_ _
        (try dsimp only [Act.put])
        (try simp only [cq])
        have hown2 : w8.ownsRow w3.heap.size 57 4 v' (k + 1) (catC (trC fun i => mltU o (x i)) (k + 1)) := by
          rw [HU.out] at hown
          exact hown
        obtain ⟨hS, hB⟩ := hH
        clear hown HU
        go_wp2
        go_roundw
        case rel => exact ⟨k + 1, by omega, by go_num, hown2, hS, hB⟩
        case measure => simp [intOf]; omega
      · obtain rfl : k = n := by omega
        clear hlt hk
        go_wp2
        go_ret
        exact ⟨_, k, _, rfl, hn1, by omega, fun i hi => by rw [HDw.out]; exact (KL.out.all i hi).imp (fun e => by rw [e]) (fun e => by rw [e]), fun z hz => by
          rw [HDw.out] at hz
          rcases hz with rfl | rfl
          · obtain ⟨i, hi, e⟩ := KL.out.each g0 (.inl rfl)
            exact ⟨i, hi, by rw [e]⟩
          · obtain ⟨i, hi, e⟩ := KL.out.each g1 (.inr rfl)
            exact ⟨i, hi, by rw [e]⟩, ownsRow_base hR (by omega), hS.old⟩
  · have HDc : Hid (P = fun u => ∃ n, Ede (gotL c (lastP l.D l.P0 o.s l.n)) (gotH c (lastP l.D l.P1 o.s l.n)) n ∧ (u = frzU l rtI o n ∨ u = frzU l rfI o n)) := Lib.hid (by rw [HD.out]; funext u; simp only [if_neg hc0])
    have hdc : decide (c < 0) = false := by simp; omega
    have KS := Lib.hid hS
    obtain ⟨l0, l1, l2, l3, l4, l5, l6, l7⟩ := hS.law.c8
    obtain ⟨a0, a1, a2, a3⟩ := hS.tr.c4
    have y1 := hS.law.lt
    have y2 := hS.tr.lt
    have hcc : 0 ≤ c := by omega
    clear HD HT HM hS hc0
    go_wp2_with fail
    clear l0 l1 l2 l3 l4 l5 l6 l7 a0 a1 a2 a3 y1 y2
    refine (HTh.out _ hcc KS.out.old).mono ?_
    rintro e w2 ⟨g0, g1, rfl, e0, e1, h0, h1, h2, hb⟩
    have hS := KS.out.call hb
    clear KS hb HTh
    rw [← e0, ← e1] at HDc
    clear e0 e1
    go_wp2_with fail
    refine (ends_any _ _ _).mono ?_
    rintro e w3 ⟨v, n, x, rfl, hL, hn2, hR, hb⟩
    replace hS := hS.call hb
    have hx := ints_of_row hR
    clear hb hR
    obtain ⟨av, cv, rfl, hcv1, hcv2, hcv⟩ := hx
    obtain ⟨bv, ov, rfl, hcw⟩ := hcv (by have := hL.n1; omega)
    have HX := Lib.hid (fun i (hi : i < n) (W : World) (hW : Below w3.heap.size w3 W) => cell_later hW (hcw i hi))
    have HXb := Lib.hid (fun i (hi : i < n) => show 0 ≤ x i ∧ x i ≤ 100000 from by have := hL.all i hi; unfold Ede at this; omega)
    have KL := Lib.hid hL
    have hn1 := hL.n1
    clear hcv hcw hL hcc
    have jR := World.ownsRow_nil w3 w3.heap.size 57 4
    have hz3 := hS.siz
    have hF := Below.refl w3.heap.size w3
    go_wp2_with fail
    go_loopw [11, 15] (fun out i wr => ∃ k : Nat, k ≤ n ∧ i = .int .i64 k ∧ wr.ownsRow w3.heap.size 57 4 out (2 * k) (catC (trC (alt l o x)) (2 * k)) ∧ SD l va vcap o w wr ∧ Below w3.heap.size w3 wr) (fun _ i _ => n - (intOf i).toNat)
    case atStart => exact ⟨0, by omega, rfl, jR, hS, hF⟩
    case round =>
      clear hF hS jR
      obtain ⟨k, hk, rfl, hR, hS, hB⟩ := hrel
      by_cases hlt : k < n
      · have hki : (k : Int) < n := by omega
        have hxb := HXb.out k hlt
        have hR2 : (World.drew wr).ownsRow w3.heap.size 57 4 u11 (2 * k) (catC (trC (alt l o x)) (2 * k)) := hR
        clear hR
        go_upto_region 14 with fail
        refine wp_region_held_drew (S := (fun w' => SD l va vcap o w w' ∧ Below w3.heap.size w3 w')) (by kernel_rfl) ?_ (fun hH => ?_)
        · (try dsimp only); (exact ⟨hS.drew, hB.drew⟩)
        refine tkY 0 (some 56) ?_ ?_ ?_
        rotate_left
        · intro w _; go_simp; (try with_reducible rfl)
        (try simp only [cq])
        refine tkY 1 (some 57) ?_ ?_ ?_
        rotate_left
        · intro w hS0; (try dsimp only at hS0); obtain ⟨a0, a1, a2, a3⟩ := hS0.1.tr.c4; obtain ⟨l0, l1, l2, l3, l4, l5, l6, l7⟩ := hS0.1.law.c8; have y1 := hS0.1.law.lt; have y2 := hS0.1.tr.lt; have x0 := HX.out k hlt _ hS0.2; have z0 := World.block_lt_of_cell? _ _ x0;go_simp; (try with_reducible rfl)
        (try simp only [cq])
        refine tkY 2 (some 58) ?_ ?_ ?_
        rotate_left
        · intro w hS0; (try dsimp only at hS0); obtain ⟨a0, a1, a2, a3⟩ := hS0.1.tr.c4; obtain ⟨l0, l1, l2, l3, l4, l5, l6, l7⟩ := hS0.1.law.c8; have y1 := hS0.1.law.lt; have y2 := hS0.1.tr.lt; have x0 := HX.out k hlt _ hS0.2; have z0 := World.block_lt_of_cell? _ _ x0;go_simp; (try with_reducible rfl)
        (try simp only [cq])
        refine tkY 3 (some 59) ?_ ?_ ?_
        rotate_left
        · intro w _; go_simp; (try with_reducible rfl)
        (try simp only [cq])
        refine tkY 4 (some 60) ?_ ?_ ?_
        rotate_left
        · intro w _; go_simp; (try with_reducible rfl)
        (try simp only [cq])
        refine tkY 5 (some 61) ?_ ?_ ?_
        rotate_left
        · intro w hS0; (try dsimp only at hS0); obtain ⟨a0, a1, a2, a3⟩ := hS0.1.tr.c4; obtain ⟨l0, l1, l2, l3, l4, l5, l6, l7⟩ := hS0.1.law.c8; have y1 := hS0.1.law.lt; have y2 := hS0.1.tr.lt; have x0 := HX.out k hlt _ hS0.2; have z0 := World.block_lt_of_cell? _ _ x0;go_simp; (try with_reducible rfl)
        (try simp only [cq])
        refine tkY 6 (some 62) ?_ ?_ ?_
        rotate_left
        · intro w hS0; (try dsimp only at hS0); obtain ⟨a0, a1, a2, a3⟩ := hS0.1.tr.c4; obtain ⟨l0, l1, l2, l3, l4, l5, l6, l7⟩ := hS0.1.law.c8; have y1 := hS0.1.law.lt; have y2 := hS0.1.tr.lt; have x0 := HX.out k hlt _ hS0.2; have z0 := World.block_lt_of_cell? _ _ x0;go_simp; (try with_reducible rfl)
        (try simp only [cq])
        refine tkY 8 (some 64) ?_ ?_ ?_
        rotate_left
        · intro w hS0; (try dsimp only at hS0); obtain ⟨a0, a1, a2, a3⟩ := hS0.1.tr.c4; obtain ⟨l0, l1, l2, l3, l4, l5, l6, l7⟩ := hS0.1.law.c8; have y1 := hS0.1.law.lt; have y2 := hS0.1.tr.lt; have x0 := HX.out k hlt _ hS0.2; have z0 := World.block_lt_of_cell? _ _ x0;go_simp; (try with_reducible rfl)
        (try simp only [cq])
        refine tkY 9 (some 65) ?_ ?_ ?_
        rotate_left
        · intro w hS0; (try dsimp only at hS0); obtain ⟨a0, a1, a2, a3⟩ := hS0.1.tr.c4; obtain ⟨l0, l1, l2, l3, l4, l5, l6, l7⟩ := hS0.1.law.c8; have y1 := hS0.1.law.lt; have y2 := hS0.1.tr.lt; have x0 := HX.out k hlt _ hS0.2; have z0 := World.block_lt_of_cell? _ _ x0;go_simp; (try with_reducible rfl)
        (try simp only [cq])
        refine tkY 10 (some 66) ?_ ?_ ?_
        rotate_left
        · intro w _; go_simp; (try with_reducible rfl)
        (try simp only [cq])
        refine tkY 11 (some 67) ?_ ?_ ?_
        rotate_left
        · intro w _; go_simp; (try with_reducible rfl)
        (try simp only [cq])
        refine tkY 12 (some 68) ?_ ?_ ?_
        rotate_left
        · intro w hS0; (try dsimp only at hS0); obtain ⟨a0, a1, a2, a3⟩ := hS0.1.tr.c4; obtain ⟨l0, l1, l2, l3, l4, l5, l6, l7⟩ := hS0.1.law.c8; have y1 := hS0.1.law.lt; have y2 := hS0.1.tr.lt; have x0 := HX.out k hlt _ hS0.2; have z0 := World.block_lt_of_cell? _ _ x0;go_simp; (try with_reducible rfl)
        (try simp only [cq])
        refine tkY 13 (some 69) ?_ ?_ ?_
        rotate_left
        · intro w hS0; (try dsimp only at hS0); obtain ⟨a0, a1, a2, a3⟩ := hS0.1.tr.c4; obtain ⟨l0, l1, l2, l3, l4, l5, l6, l7⟩ := hS0.1.law.c8; have y1 := hS0.1.law.lt; have y2 := hS0.1.tr.lt; have x0 := HX.out k hlt _ hS0.2; have z0 := World.block_lt_of_cell? _ _ x0;go_simp; (try with_reducible rfl)
        (try simp only [cq])
        refine wpAnyH_ready (rs := [7]) (by kernel_rfl) (by simp) ?_
        refine arc1 (some 63) fun K hK => ?_
        go_simp
        (refine (HF.out _ _ hxb.1 hxb.2).mono ?_; rintro e w' ⟨u, hu, rfl, hb⟩; have HU := Lib.hid hu; clear hu; replace hR2 := row_later hR2 hb)
        refine hK.out _ _ ?_ ?_
        · exact ⟨hH.1.call hb, bwS hH.2 (Nat.le_refl _) hb⟩
        (try clear hH); (try clear hb)
        intro hH
        clear hK K
        (try simp only [cq])
        refine wpAnyH_ready (rs := [14]) (by kernel_rfl) (by simp) ?_
        refine arc1 (some 70) fun K hK => ?_
        go_simp
        (refine (HG.out _ _ hxb.1 hxb.2).mono ?_; rintro e w' ⟨z, hz, rfl, hb⟩; have HZ := Lib.hid hz; clear hz; replace hR2 := row_later hR2 hb)
        refine hK.out _ _ ?_ ?_
        · exact ⟨hH.1.call hb, bwS hH.2 (Nat.le_refl _) hb⟩
        (try clear hH); (try clear hb)
        intro hH
        clear hK K
        (try simp only [cq])
        refine wpAnyH_ready (rs := [15]) (by kernel_rfl) (by simp) ?_
        refine arc1 (some 71) fun K hK => ?_
        go_simp
        first | refine oA hK ?_ (fun hH hA => ?_) | refine oD hK ?_ (fun hH hA => ?_)
        · exact ⟨hH.1.alloc _, bwA hH.2 (Nat.le_refl _) _⟩
        have kN := hA
        clear hA
        obtain ⟨bN, hbN⟩ : ∃ b, Blk.num kN = b := ⟨_, rfl⟩
        simp only [Blk.num] at hbN
        rw [hbN] at kN ⊢
        clear hbN
        replace hR2 := hR2.alloc (.cells #[.int .i64 u.b, .int .i64 u.w, .int .i64 u.q, .int .i64 u.s, .int .i64 z.b, .int .i64 z.w, .int .i64 z.q, .int .i64 z.s] 57)
        clear hK K
        (try simp only [cq])
        refine wpAnyH_ready (rs := [16]) (by kernel_rfl) (by simp) ?_
        refine arc1 (some 72) fun K hK => ?_
        rw [if_pos (by rfl)]
        obtain ⟨v', w8, hr, hown, hgrow, _, _⟩ := run_append_own_at (P := Try.prog) _ w3.heap.size 68 68 57 i0 (.agg #[.int .i64 0, .int .i64 0, .int .i64 0, .int .i64 0]) 4 32 Try.underlying68 hi0 hz0 hz1 hz2 rfl (by decide) u11 (2 * k) _ hR2 ⟨bN, 0, none⟩ 2 2 (#[.int .i64 u.b, .int .i64 u.w, .int .i64 u.q, .int .i64 u.s, .int .i64 z.b, .int .i64 z.w, .int .i64 z.q, .int .i64 z.s] : Array Value).toList rfl (newsB kN) (ones8 u z) (by unfold maxLen; omega) (by omega) hH.2.size
        simp only [Oper.wp, execOp, resolve, invoke, builtin, Sem.run_bind, Sem.run_pure, Result.andThen_ok, List.map_toArray, List.map_cons, List.map_nil]
        change Oper.upon _ _ _ _ _ ((Sem.run Try.prog (Builtin.append_ #[68, 68] 68 #[u11, .slice (some ⟨bN, 0, none⟩) 2 2]) _).andThen _)
        rw [hr]
        have hq := fun q e => (hR2.lt q e).1
        have HGG := Lib.hid (And.intro (hH.1.grown hgrow (fun q e => Nat.le_trans hz3 (hq q e))) (grown_below hH.2 hgrow hq (Nat.le_refl _)))
        clear hgrow hr hR2 kN hq
        simp only [Result.andThen_ok, Oper.upon]
        refine hK.out _ _ ?_ ?_
        · exact HGG.out
        (try clear hH); (try clear hb)
        intro hH
        clear hK K
        (try simp only [cq])
        refine tkY 17 (some 11) ?_ ?_ ?_
        rotate_left
        · intro w _; go_simp; (try with_reducible rfl)
        (try simp only [cq])
        refine wpAnyH_done (by kernel_rfl) ?_ _
        (try dsimp only [Act.put])
        (try simp only [cq])
        have hown2 : w8.ownsRow w3.heap.size 57 4 v' (2 * (k + 1)) (catC (trC (alt l o x)) (2 * (k + 1))) := by
          rw [HU.out, HZ.out] at hown
          rw [alt_up]
          exact hown
        obtain ⟨hS, hB⟩ := hH
        clear hown HU HZ
        go_wp2
        go_roundw
        case rel => exact ⟨k + 1, by omega, by go_num, hown2, hS, hB⟩
        case measure => simp [intOf]; omega
      · obtain rfl : k = n := by omega
        clear hlt hk
        go_wp2
        go_ret
        exact ⟨_, 2 * k, _, rfl, by omega, by omega, fun i hi => by
          rw [HDc.out]
          refine ⟨x (i / 2), KL.out.all _ (by omega), ?_⟩
          unfold alt
          split
          · exact .inl rfl
          · exact .inr rfl, fun z hz => by
          rw [HDc.out] at hz
          obtain ⟨m, hm, hz⟩ := hz
          obtain ⟨i, hi, e⟩ := KL.out.each m hm
          rcases hz with rfl | rfl
          · exact ⟨2 * i, by omega, by unfold alt; rw [if_pos (by omega), show 2 * i / 2 = i by omega, e]⟩
          · exact ⟨2 * i + 1, by omega, by unfold alt; rw [if_neg (by omega), show (2 * i + 1) / 2 = i by omega, e]⟩, ownsRow_base hR (by omega), hS.old⟩
end Go.Proofs.Ytkldjaofgdklbaa

namespace Go.Proofs.Ytkldjaofgdklbaa
open Go.RowKit

theorem ones_i1 (a : Int) : ∀ v ∈ (#[.int .i64 a] : Array Value).toList, v.oneCell' = true := by
  intro v h
  simp only [List.mem_cons, List.not_mem_nil, or_false] at h
  rcases h with rfl <;> rfl
theorem ones_i2 (a c : Int) : ∀ v ∈ (#[.int .i64 a, .int .i64 c] : Array Value).toList, v.oneCell' = true := by
  intro v h
  simp only [List.mem_cons, List.not_mem_nil, or_false] at h
  rcases h with rfl | rfl <;> rfl
def CldP (a c z : Int) : Prop := z = a ∨ z = c ∨ (a < 0 ∧ 0 ≤ c ∧ (z = -1 ∨ z = 0))
theorem lst_cold {a c : Int} {n : Nat} {x : Nat → Int} (h : Lst (Ede a c) n x) (hn : n ≤ 2) (h1 : a < 0) (h2 : 0 ≤ c) : Lst (CldP a c) (n + 2) (upF (upF x n (-1)) (n + 1) 0) := by
  have n1 := h.n1
  refine ⟨by omega, by omega, fun i hi => ?_, fun z hz => ?_⟩
  · by_cases e : i = n + 1
    · subst e; rw [upF_at]; exact .inr (.inr ⟨h1, h2, .inr rfl⟩)
    rw [upF_ne _ _ e]
    by_cases e2 : i = n
    · subst e2; rw [upF_at]; exact .inr (.inr ⟨h1, h2, .inl rfl⟩)
    rw [upF_ne _ _ e2]
    exact (h.all i (by omega)).imp id .inl
  · have old : Ede a c z → ∃ i, i < n + 2 ∧ upF (upF x n (-1)) (n + 1) 0 i = z := fun hz => by
      obtain ⟨i, hi, e⟩ := h.each z hz
      exact ⟨i, by omega, by rw [upF_ne _ _ (by omega), upF_ne _ _ (by omega), e]⟩
    rcases hz with rfl | rfl | ⟨_, _, rfl | rfl⟩
    · exact old (.inl rfl)
    · exact old (.inr rfl)
    · exact ⟨n, by omega, by rw [upF_ne _ _ (by omega), upF_at]⟩
    · exact ⟨n + 1, by omega, upF_at _ _ _⟩
theorem lst_plain {a c : Int} {n : Nat} {x : Nat → Int} (h : Lst (Ede a c) n x) (h1 : ¬ (a < 0 ∧ 0 ≤ c)) : Lst (CldP a c) n x :=
  ⟨h.n1, h.n4, fun i hi => (h.all i hi).imp id .inl, fun z hz => h.each z (by
    rcases hz with e | e | ⟨e1, e2, _⟩
    · exact .inl e
    · exact .inr e
    · exact absurd ⟨e1, e2⟩ h1)⟩

set_option maxRecDepth 100000 in
set_option maxHeartbeats 4000000 in
theorem colds_any (a c : Int) (w : World) : Calls Try.prog 39 #[.agg #[.int .i64 a, .int .i64 c]] w fun e w' => ∃ v n x, e = .returned v ∧ Lst (CldP a c) n x ∧ IntsAt w' v n x ∧ Below w.heap.size w w' := by
  obtain ⟨i0, hi0, hz0, hz1, hz2⟩ := info_parts Try.infoInt
  have jX := Blk.new w #[.int .i64 a, .int .i64 c] 24
  have jB : Below w.heap.size w (w.alloc (.cells #[.int .i64 a, .int .i64 c] 24)) := by (repeat (first | exact Below.refl _ _ | assumption | refine Below.drew ?_ | refine Below.drewN ?_ _ | refine blT ?_ | refine blU ?_))
  go_enter Try.func39, Try.ntmps39
  go_upto_region 1 with fail
  generalize w.alloc (.cells #[.int .i64 a, .int .i64 c] 24) = V at jX jB ⊢
  have KX := Lib.hid jX
  have KB := Lib.hid jB
  obtain ⟨x0, x1⟩ := jX.c2
  have zX := jX.lt
  clear jX jB
  go_wp2_with fail
  clear x0 x1 zX
  refine (ends_any _ _ _).mono ?_
  rintro e w1 ⟨v, n, x, rfl, hL, hn2, hR, hb⟩
  have jX := KX.out.call hb
  have jB := bwS KB.out (Nat.le_refl _) hb
  have zV := KB.out.size
  clear KX KB
  obtain ⟨x0, x1⟩ := jX.c2
  have zX := jX.lt
  by_cases h0 : a < 0 ∧ 0 ≤ c
  · have hd0 : decide (a < 0) = true := by simp [h0.1]
    have hd1 : decide (0 ≤ c) = true := by simp [h0.2]
    have hz : ∀ k, v.ownBlock = some k → w.heap.size ≤ k := fun k e => by have := (hR.lt k e).1; omega
    have zW : V.heap.size ≤ w1.heap.size := hb.size
    clear hb jX
    have HL := Lib.hid (lst_cold hL hn2 h0.1 h0.2)
    clear hL h0
    go_wp2_with (at_builtin; refine wpList_append_own_at _ rfl _ _ 31 rfl V.heap.size 3 i0 (.int .i64 0) 1 8 Try.underlying31 hi0 hz0 hz1 hz2 rfl (by decide) _ _ _ rfl (hR.alloc _) ⟨w1.heap.size, 0, none⟩ 2 2 (#[.int .i64 (-1), .int .i64 0] : Array Value).toList rfl rfl (newsN _ _ _) (ones_i2 _ _) (by unfold maxLen; omega) (by omega) (by simp; omega) ?_; intro v' w9 hown' hgrow _ _; have hown2 : w9.ownsRow V.heap.size 3 1 v' (n + 2) (catC (intC (upF (upF x n (-1)) (n + 1) 0)) (n + 1 + 1)) := (by rw [intC_up, intC_up, List.append_assoc]; exact hown'); have kB := grown_below (bwA jB (Nat.le_refl _) (.cells #[.int .i64 (-1), .int .i64 0] 3)) hgrow hz (Nat.le_refl _); clear hown' hgrow)
    go_ret
    exact ⟨_, _, _, rfl, HL.out, ints_of_row hown2, kB⟩
  · have HL := Lib.hid (lst_plain hL h0)
    have hx := ints_of_row hR
    clear hR hL hb jX
    by_cases h1 : a < 0
    · have hd0 : decide (a < 0) = true := by simp [h1]
      have hd1 : decide (0 ≤ c) = false := by simp; omega
      clear h0 h1
      go_wp2
      go_ret
      exact ⟨_, _, _, rfl, HL.out, hx, jB⟩
    · have hd0 : decide (a < 0) = false := by simp; omega
      clear h0 h1
      go_wp2
      go_ret
      exact ⟨_, _, _, rfl, HL.out, hx, jB⟩

def LsAt (W : World) (bL : Nat) (vs : Nat → Value) (ns : Nat → Nat) (xs : Nat → Nat → Int) : Prop :=
  ∀ k, k < 6 → W.cell? ⟨bL, k, none⟩ = some (vs k) ∧ IntsAt W (vs k) (ns k) (xs k) ∧ 1 ≤ ns k ∧ ns k ≤ 4
theorem LsAt.later {W W' : World} {bL : Nat} {vs : Nat → Value} {ns : Nat → Nat} {xs : Nat → Nat → Int} (h : LsAt W bL vs ns xs) (hb : Below W.heap.size W W') : LsAt W' bL vs ns xs :=
  fun k hk => ⟨cell_later hb (h k hk).1, (h k hk).2.1.later hb, (h k hk).2.2⟩
def dq (ns : Nat → Nat) (m : Nat) : Nat → Nat
  | 0 => m
  | k + 1 => dq ns m k / ns k
def dig (ns : Nat → Nat) (m k : Nat) : Nat := dq ns m k % ns k
theorem dq_le (ns : Nat → Nat) (m : Nat) : ∀ k, dq ns m k ≤ m
  | 0 => Nat.le_refl _
  | k + 1 => Nat.le_trans (Nat.div_le_self _ _) (dq_le ns m k)

set_option maxRecDepth 100000 in
set_option maxHeartbeats 8000000 in
theorem picked_any (bL : Nat) (vs : Nat → Value) (ns : Nat → Nat) (xs : Nat → Nat → Int) (m : Nat) (hm : m ≤ 1000000) (w : World) (hL : LsAt w bL vs ns xs) :
    Calls Try.prog 40 #[.slice (some ⟨bL, 0, none⟩) 6 6, .int .i64 m] w fun e w' => ∃ v, e = .returned v ∧ IntsAt w' v 6 (fun k => xs k (dig ns m k)) ∧ Below w.heap.size w w' := by
  obtain ⟨i0, hi0, hz0, hz1, hz2⟩ := info_parts Try.infoInt
  have HL := Lib.hid hL
  have zb : bL < w.heap.size := World.block_lt_of_cell? _ _ (hL 0 (by decide)).1
  clear hL
  have jR := World.ownsRow_nil w w.heap.size 3 1
  have hF := Below.refl w.heap.size w
  go_enter Try.func40, Try.ntmps40
  go_wp2_with fail
  go_loopw [1, 5, 6] (fun q out i wr => ∃ k : Nat, k ≤ 6 ∧ i = .int .i64 k ∧ q = .int .i64 (dq ns m k) ∧ wr.ownsRow w.heap.size 3 1 out k (catC (intC fun k => xs k (dig ns m k)) k) ∧ Below w.heap.size w wr) (fun _ _ i _ => 6 - (intOf i).toNat)
  case atStart => exact ⟨0, by omega, rfl, rfl, jR, hF⟩
  case round =>
    clear hF jR
    obtain ⟨k, hk, rfl, rfl, hR, hB⟩ := hrel
    by_cases hlt : k < 6
    · have hki : (k : Int) < 6 := by omega
      obtain ⟨c0, ⟨av, cv, hvv, hcv1, hcv2, hcv⟩, hn1, hn4⟩ := HL.out k hlt
      obtain ⟨bv, ov, rfl, hcw⟩ := hcv (by omega)
      have hql := dq_le ns m k
      obtain ⟨q, hq⟩ : ∃ q, dq ns m k = q := ⟨_, rfl⟩
      have hdj : dig ns m k = q % ns k := by unfold dig; rw [hq]
      have hdq : dq ns m (k + 1) = q / ns k := by show dq ns m k / ns k = _; rw [hq]
      rw [hq] at hql ⊢
      obtain ⟨r, hnr⟩ : ∃ r, ns k = r := ⟨_, rfl⟩
      rw [hnr] at hdj hdq hn1 hn4 hcv1 hcw hvv
      have hjr : q % r < r := Nat.mod_lt _ (by omega)
      rw [hvv] at c0
      have HC0 := Lib.hid c0
      have HCJ := Lib.hid (hcw (q % r) hjr)
      have HDQ := Lib.hid hdq
      have HX := Lib.hid (show xs k (q % r) = (fun k => xs k (dig ns m k)) k from by show _ = xs k (dig ns m k); rw [hdj])
      clear hcw hcv hvv hq hdj hdq hnr c0
      have t1 : Int.tmod (q : Int) (r : Int) = ((q % r : Nat) : Int) := by rw [Int.tmod_eq_emod_of_nonneg (by omega)]; rfl
      have HE := Lib.hid (show IntKind.i64.wrap ((q : Int) / (r : Int)) = ((q / r : Nat) : Int) from by
        have h1 : q / r ≤ q := Nat.div_le_self _ _
        have h2 : ((q / r : Nat) : Int) = (q : Int) / (r : Int) := Int.natCast_ediv q r
        have key : ∀ p : Nat, p ≤ q → IntKind.i64.wrap (p : Int) = (p : Int) := fun p hp => IntWalk.i64_in _ (by omega)
        rw [← h2]
        exact key _ h1)
      have hr0 : ¬ r = 0 := by omega
      obtain ⟨z, hz⟩ : ∃ z, xs k (q % r) = z := ⟨_, rfl⟩
      rw [hz] at HCJ HX
      clear hz
      obtain ⟨j, hj⟩ : ∃ j, q % r = j := ⟨_, rfl⟩
      rw [hj] at t1 hjr HCJ
      clear hj
      have hji : (j : Int) < r := by omega
      have hR2 : (World.drew wr).ownsRow w.heap.size 3 1 u5 k (catC (intC fun k => xs k (dig ns m k)) k) := hR
      clear hR
      go_upto_region 5 with fail
      refine wp_region_held_drew (S := (fun w' => Below w.heap.size w w')) (by kernel_rfl) ?_ (fun hH => ?_)
      · (try dsimp only); (exact hB.drew)
      refine tkY 0 (some 13) ?_ ?_ ?_
      rotate_left
      · intro w _; go_simp; (try with_reducible rfl)
      (try simp only [cq])
      refine tkY 1 (some 14) ?_ ?_ ?_
      rotate_left
      · intro w _; go_simp; (try with_reducible rfl)
      (try simp only [cq])
      refine tkY 2 (some 15) ?_ ?_ ?_
      rotate_left
      · intro w _; go_simp; (try with_reducible rfl)
      (try simp only [cq])
      refine tkY 3 (some 16) ?_ ?_ ?_
      rotate_left
      · intro w hS0; (try dsimp only at hS0); have x0 := cell_later hS0 HC0.out; have x1 := cell_later hS0 HCJ.out; have z0 := World.block_lt_of_cell? _ _ x0; have z1 := World.block_lt_of_cell? _ _ x1;go_simp; (try with_reducible rfl)
      (try simp only [cq])
      refine tkY 4 (some 17) ?_ ?_ ?_
      rotate_left
      · intro w hS0; (try dsimp only at hS0); have x0 := cell_later hS0 HC0.out; have x1 := cell_later hS0 HCJ.out; have z0 := World.block_lt_of_cell? _ _ x0; have z1 := World.block_lt_of_cell? _ _ x1;go_simp; (try with_reducible rfl)
      (try simp only [cq])
      refine tkY 5 (some 18) ?_ ?_ ?_
      rotate_left
      · intro w _; go_simp; (try with_reducible rfl)
      (try simp only [cq])
      refine tkY 6 (some 19) ?_ ?_ ?_
      rotate_left
      · intro w _; go_simp; (try with_reducible rfl)
      (try simp only [cq])
      refine tkY 7 (some 20) ?_ ?_ ?_
      rotate_left
      · intro w _; go_simp; (try with_reducible rfl)
      (try simp only [cq])
      refine tkY 8 (some 21) ?_ ?_ ?_
      rotate_left
      · intro w hS0; (try dsimp only at hS0); have x0 := cell_later hS0 HC0.out; have x1 := cell_later hS0 HCJ.out; have z0 := World.block_lt_of_cell? _ _ x0; have z1 := World.block_lt_of_cell? _ _ x1;go_simp; (try with_reducible rfl)
      (try simp only [cq])
      refine tkY 9 (some 22) ?_ ?_ ?_
      rotate_left
      · intro w hS0; (try dsimp only at hS0); have x0 := cell_later hS0 HC0.out; have x1 := cell_later hS0 HCJ.out; have z0 := World.block_lt_of_cell? _ _ x0; have z1 := World.block_lt_of_cell? _ _ x1;go_simp; (try with_reducible rfl)
      (try simp only [cq])
      refine tkY 10 (some 23) ?_ ?_ ?_
      rotate_left
      · intro w hS0; (try dsimp only at hS0); have x0 := cell_later hS0 HC0.out; have x1 := cell_later hS0 HCJ.out; have z0 := World.block_lt_of_cell? _ _ x0; have z1 := World.block_lt_of_cell? _ _ x1;go_simp; (try with_reducible rfl)
      (try simp only [cq])
      refine tkY 11 (some 24) ?_ ?_ ?_
      rotate_left
      · intro w _; go_simp; (try with_reducible rfl)
      (try simp only [cq])
      refine tkY 12 (some 25) ?_ ?_ ?_
      rotate_left
      · intro w hS0; (try dsimp only at hS0); have x0 := cell_later hS0 HC0.out; have x1 := cell_later hS0 HCJ.out; have z0 := World.block_lt_of_cell? _ _ x0; have z1 := World.block_lt_of_cell? _ _ x1;go_simp; (try with_reducible rfl)
      (try simp only [cq])
      refine tkY 13 (some 26) ?_ ?_ ?_
      rotate_left
      · intro w hS0; (try dsimp only at hS0); have x0 := cell_later hS0 HC0.out; have x1 := cell_later hS0 HCJ.out; have z0 := World.block_lt_of_cell? _ _ x0; have z1 := World.block_lt_of_cell? _ _ x1;go_simp; (try with_reducible rfl)
      (try simp only [cq])
      refine wpAnyH_ready (rs := [14]) (by kernel_rfl) (by simp) ?_
      refine arc1 (some 27) fun K hK => ?_
      go_simp
      first | refine oA hK ?_ (fun hH hA => ?_) | refine oD hK ?_ (fun hH hA => ?_)
      · exact bwA hH (Nat.le_refl _) _
      have kN := hA
      clear hA
      obtain ⟨bN, hbN⟩ : ∃ b, Blk.num kN = b := ⟨_, rfl⟩
      simp only [Blk.num] at hbN
      rw [hbN] at kN ⊢
      clear hbN
      replace hR2 : World.ownsRow (Blk.wld kN) w.heap.size 3 1 u5 k (catC (intC fun k => xs k (dig ns m k)) k) := hR2.alloc (.cells #[.int .i64 z] 3)
      simp only [Blk.wld] at hR2
      clear hK K
      (try simp only [cq])
      refine wpAnyH_ready (rs := [15]) (by kernel_rfl) (by simp) ?_
      refine arc1 (some 28) fun K hK => ?_
      rw [if_pos (by rfl)]
      obtain ⟨v', w8, hr, hown, hgrow, _, _⟩ := run_append_own_at (P := Try.prog) _ w.heap.size 31 31 3 i0 (.int .i64 0) 1 8 Try.underlying31 hi0 hz0 hz1 hz2 rfl (by decide) u5 (k) _ hR2 ⟨bN, 0, none⟩ 1 1 (#[.int .i64 z] : Array Value).toList rfl (newsB kN) (ones_i1 z) (by unfold maxLen; omega) (by omega) hH.size
      simp only [Oper.wp, execOp, resolve, invoke, builtin, Sem.run_bind, Sem.run_pure, Result.andThen_ok, List.map_toArray, List.map_cons, List.map_nil]
      change Oper.upon _ _ _ _ _ ((Sem.run Try.prog (Builtin.append_ #[31, 31] 31 #[u5, .slice (some ⟨bN, 0, none⟩) 1 1]) _).andThen _)
      rw [hr]
      have HGG := Lib.hid (grown_below hH hgrow (fun q e => (hR2.lt q e).1) (Nat.le_refl _))
      clear hgrow hr hR2 kN
      simp only [Result.andThen_ok, Oper.upon]
      refine hK.out _ _ ?_ ?_
      · exact HGG.out
      (try clear hH); (try clear hb)
      intro hH
      clear hK K
      (try simp only [cq])
      refine tkY 16 (some 5) ?_ ?_ ?_
      rotate_left
      · intro w _; go_simp; (try with_reducible rfl)
      (try simp only [cq])
      refine wpAnyH_done (by kernel_rfl) ?_ _
      (try dsimp only [Act.put])
      (try simp only [cq])
      have hown2 : w8.ownsRow w.heap.size 3 1 v' (k + 1) (catC (intC fun k => xs k (dig ns m k)) (k + 1)) := by
        have hx := HX.out
        rw [hx] at hown
        exact hown
      have x0 := cell_later hH HC0.out
      have z0 := World.block_lt_of_cell? _ _ x0
      clear hown HCJ HC0 HX t1
      have e3 := HE.out
      go_wp2
      go_roundw
      case rel => exact ⟨k + 1, by omega, by go_num, by rw [HDQ.out, Int.natCast_ediv], hown2, hH⟩
      case measure => simp [intOf]; omega
    · obtain rfl : k = 6 := by omega
      clear hlt hk
      have hx := ints_of_row hR
      clear hR
      go_wp2
      go_ret
      exact ⟨_, rfl, hx, hB⟩
end Go.Proofs.Ytkldjaofgdklbaa

namespace Go.Proofs.Ytkldjaofgdklbaa
open Go.RowKit

theorem Eight.set8 {w : World} {b : Nat} {t : TypeId} (h : Eight w b t) (u0 u1 u2 u3 u4 u5 u6 u7 : Value) : Blk ((((((((w.setCell ⟨b, 0, none⟩ u0).setCell ⟨b, 1, none⟩ u1).setCell ⟨b, 2, none⟩ u2).setCell ⟨b, 3, none⟩ u3).setCell ⟨b, 4, none⟩ u4).setCell ⟨b, 5, none⟩ u5).setCell ⟨b, 6, none⟩ u6).setCell ⟨b, 7, none⟩ u7) b #[u0, u1, u2, u3, u4, u5, u6, u7] t := by
  obtain ⟨x0, x1, x2, x3, x4, x5, x6, x7, h⟩ := h
  have a0 : Blk _ b #[u0, x1, x2, x3, x4, x5, x6, x7] t := h.set 0 u0
  have a1 : Blk _ b #[u0, u1, x2, x3, x4, x5, x6, x7] t := a0.set 1 u1
  have a2 : Blk _ b #[u0, u1, u2, x3, x4, x5, x6, x7] t := a1.set 2 u2
  have a3 : Blk _ b #[u0, u1, u2, u3, x4, x5, x6, x7] t := a2.set 3 u3
  have a4 : Blk _ b #[u0, u1, u2, u3, u4, x5, x6, x7] t := a3.set 4 u4
  have a5 : Blk _ b #[u0, u1, u2, u3, u4, u5, x6, x7] t := a4.set 5 u5
  have a6 : Blk _ b #[u0, u1, u2, u3, u4, u5, u6, x7] t := a5.set 6 u6
  have a7 : Blk _ b #[u0, u1, u2, u3, u4, u5, u6, u7] t := a6.set 7 u7
  exact a7

set_option maxRecDepth 100000 in
set_option maxHeartbeats 8000000 in
theorem wider_first (x : Ic) (t : T4) (w : World) : Calls Try.prog 42 #[.agg #[.int .i64 x.b0, .int .i64 x.b1, .int .i64 x.w0, .int .i64 x.w1, .int .i64 x.q0, .int .i64 x.q1, .int .i64 x.s0, .int .i64 x.s1], .agg #[.int .i64 t.b, .int .i64 t.w, .int .i64 t.q, .int .i64 t.s], .bool true] w fun e w' => e = .returned (.agg #[.int .i64 t.b, .int .i64 t.b, .int .i64 t.w, .int .i64 t.w, .int .i64 t.q, .int .i64 t.q, .int .i64 t.s, .int .i64 t.s]) ∧ Below w.heap.size w w' := by
  have jT := (Blk.new1 w (.cells #[.int .i64 x.b0, .int .i64 x.b1, .int .i64 x.w0, .int .i64 x.w1, .int .i64 x.q0, .int .i64 x.q1, .int .i64 x.s0, .int .i64 x.s1] 28) #[.int .i64 t.b, .int .i64 t.w, .int .i64 t.q, .int .i64 t.s] 57).alloc (.cells #[.int .i64 0, .int .i64 0, .int .i64 0, .int .i64 0, .int .i64 0, .int .i64 0, .int .i64 0, .int .i64 0] 28)
  have jR : Eight (((w.alloc (.cells #[.int .i64 x.b0, .int .i64 x.b1, .int .i64 x.w0, .int .i64 x.w1, .int .i64 x.q0, .int .i64 x.q1, .int .i64 x.s0, .int .i64 x.s1] 28)).alloc (.cells #[.int .i64 t.b, .int .i64 t.w, .int .i64 t.q, .int .i64 t.s] 57)).alloc (.cells #[.int .i64 0, .int .i64 0, .int .i64 0, .int .i64 0, .int .i64 0, .int .i64 0, .int .i64 0, .int .i64 0] 28)) (w.heap.size + 1 + 1) 28 := ⟨_, _, _, _, _, _, _, _, Blk.new2 w (.cells #[.int .i64 x.b0, .int .i64 x.b1, .int .i64 x.w0, .int .i64 x.w1, .int .i64 x.q0, .int .i64 x.q1, .int .i64 x.s0, .int .i64 x.s1] 28) (.cells #[.int .i64 t.b, .int .i64 t.w, .int .i64 t.q, .int .i64 t.s] 57) _ 28⟩
  have jB : Below w.heap.size w (((w.alloc (.cells #[.int .i64 x.b0, .int .i64 x.b1, .int .i64 x.w0, .int .i64 x.w1, .int .i64 x.q0, .int .i64 x.q1, .int .i64 x.s0, .int .i64 x.s1] 28)).alloc (.cells #[.int .i64 t.b, .int .i64 t.w, .int .i64 t.q, .int .i64 t.s] 57)).alloc (.cells #[.int .i64 0, .int .i64 0, .int .i64 0, .int .i64 0, .int .i64 0, .int .i64 0, .int .i64 0, .int .i64 0] 28)) := by (repeat (first | exact Below.refl _ _ | assumption | refine Below.drew ?_ | refine Below.drewN ?_ _ | refine blT ?_ | refine blU ?_))
  go_enter Try.func42, Try.ntmps42
  go_upto_region 2 with fail
  generalize ((w.alloc (.cells #[.int .i64 x.b0, .int .i64 x.b1, .int .i64 x.w0, .int .i64 x.w1, .int .i64 x.q0, .int .i64 x.q1, .int .i64 x.s0, .int .i64 x.s1] 28)).alloc (.cells #[.int .i64 t.b, .int .i64 t.w, .int .i64 t.q, .int .i64 t.s] 57)).alloc (.cells #[.int .i64 0, .int .i64 0, .int .i64 0, .int .i64 0, .int .i64 0, .int .i64 0, .int .i64 0, .int .i64 0] 28) = V at jT jR jB ⊢
  refine wp_region_held_drew (S := (fun w' => Blk w' (w.heap.size + 1) #[.int .i64 t.b, .int .i64 t.w, .int .i64 t.q, .int .i64 t.s] 57 ∧ Eight w' (w.heap.size + 1 + 1) 28 ∧ Below w.heap.size w w')) (by kernel_rfl) ?_ (fun hH => ?_)
  · (try dsimp only); (exact ⟨jT.drew, jR, jB.drew⟩)
  refine tkY 0 (some 11) ?_ ?_ ?_
  rotate_left
  · intro w hS0; (try dsimp only at hS0); obtain ⟨k1, k2, _⟩ := hS0; obtain ⟨a0, a1, a2, a3⟩ := k1.c4; have y1 := k1.lt;go_simp; (try with_reducible rfl)
  (try simp only [cq])
  refine tkY 1 (some 12) ?_ ?_ ?_
  rotate_left
  · intro w hS0; (try dsimp only at hS0); obtain ⟨k1, k2, _⟩ := hS0; obtain ⟨a0, a1, a2, a3⟩ := k1.c4; have y1 := k1.lt;go_simp; (try with_reducible rfl)
  (try simp only [cq])
  refine tkY 3 (some 14) ?_ ?_ ?_
  rotate_left
  · intro w hS0; (try dsimp only at hS0); obtain ⟨k1, k2, _⟩ := hS0; obtain ⟨a0, a1, a2, a3⟩ := k1.c4; have y1 := k1.lt;go_simp; (try with_reducible rfl)
  (try simp only [cq])
  refine tkY 4 (some 15) ?_ ?_ ?_
  rotate_left
  · intro w hS0; (try dsimp only at hS0); obtain ⟨k1, k2, _⟩ := hS0; obtain ⟨a0, a1, a2, a3⟩ := k1.c4; have y1 := k1.lt;go_simp; (try with_reducible rfl)
  (try simp only [cq])
  refine tkY 6 (some 17) ?_ ?_ ?_
  rotate_left
  · intro w hS0; (try dsimp only at hS0); obtain ⟨k1, k2, _⟩ := hS0; obtain ⟨a0, a1, a2, a3⟩ := k1.c4; have y1 := k1.lt;go_simp; (try with_reducible rfl)
  (try simp only [cq])
  refine tkY 7 (some 18) ?_ ?_ ?_
  rotate_left
  · intro w hS0; (try dsimp only at hS0); obtain ⟨k1, k2, _⟩ := hS0; obtain ⟨a0, a1, a2, a3⟩ := k1.c4; have y1 := k1.lt;go_simp; (try with_reducible rfl)
  (try simp only [cq])
  refine tkY 9 (some 20) ?_ ?_ ?_
  rotate_left
  · intro w hS0; (try dsimp only at hS0); obtain ⟨k1, k2, _⟩ := hS0; obtain ⟨a0, a1, a2, a3⟩ := k1.c4; have y1 := k1.lt;go_simp; (try with_reducible rfl)
  (try simp only [cq])
  refine tkY 10 (some 21) ?_ ?_ ?_
  rotate_left
  · intro w hS0; (try dsimp only at hS0); obtain ⟨k1, k2, _⟩ := hS0; obtain ⟨a0, a1, a2, a3⟩ := k1.c4; have y1 := k1.lt;go_simp; (try with_reducible rfl)
  (try simp only [cq])
  refine wpAnyH_ready (rs := [2]) (by kernel_rfl) (by simp) ?_
  refine arc1 (some 13) fun K hK => ?_
  go_simp
  (refine (lone_any _ _).mono ?_; rintro e w' ⟨rfl, hb⟩)
  refine hK.out _ _ ?_ ?_
  · (exact ⟨hH.1.call hb, hH.2.1.call hb, bwS hH.2.2 (Nat.le_refl _) hb⟩)
  (try clear hH); (try clear hb)
  intro hH
  clear hK K
  (try simp only [cq])
  refine wpAnyH_ready (rs := [5]) (by kernel_rfl) (by simp) ?_
  refine arc1 (some 16) fun K hK => ?_
  go_simp
  (refine (lone_any _ _).mono ?_; rintro e w' ⟨rfl, hb⟩)
  refine hK.out _ _ ?_ ?_
  · (exact ⟨hH.1.call hb, hH.2.1.call hb, bwS hH.2.2 (Nat.le_refl _) hb⟩)
  (try clear hH); (try clear hb)
  intro hH
  clear hK K
  (try simp only [cq])
  refine wpAnyH_ready (rs := [8]) (by kernel_rfl) (by simp) ?_
  refine arc1 (some 19) fun K hK => ?_
  go_simp
  (refine (lone_any _ _).mono ?_; rintro e w' ⟨rfl, hb⟩)
  refine hK.out _ _ ?_ ?_
  · (exact ⟨hH.1.call hb, hH.2.1.call hb, bwS hH.2.2 (Nat.le_refl _) hb⟩)
  (try clear hH); (try clear hb)
  intro hH
  clear hK K
  (try simp only [cq])
  refine wpAnyH_ready (rs := [11]) (by kernel_rfl) (by simp) ?_
  refine arc1 (some 22) fun K hK => ?_
  go_simp
  (refine (lone_any _ _).mono ?_; rintro e w' ⟨rfl, hb⟩)
  refine hK.out _ _ ?_ ?_
  · (exact ⟨hH.1.call hb, hH.2.1.call hb, bwS hH.2.2 (Nat.le_refl _) hb⟩)
  (try clear hH); (try clear hb)
  intro hH
  clear hK K
  (try simp only [cq])
  refine tkY 12 (some 23) ?_ ?_ ?_
  rotate_left
  · intro w _; go_simp; (try with_reducible rfl)
  (try simp only [cq])
  refine wpAnyH_ready (rs := [13]) (by kernel_rfl) (by simp) ?_
  refine arc1 none fun K hK => ?_
  obtain ⟨g1, g2, g3⟩ := hH
  have HR := Lib.hid (g2.set8 (.int .i64 t.b) (.int .i64 t.b) (.int .i64 t.w) (.int .i64 t.w) (.int .i64 t.q) (.int .i64 t.q) (.int .i64 t.s) (.int .i64 t.s))
  have y2 := g2.lt
  obtain ⟨x0, x1, x2, x3, x4, x5, x6, x7, k⟩ := id g2
  obtain ⟨r0, r1, r2, r3, r4, r5, r6, r7⟩ := k.c8
  have f0 := k.free 0
  have f1 := k.free 1
  have f2 := k.free 2
  have f3 := k.free 3
  have f4 := k.free 4
  have f5 := k.free 5
  have f6 := k.free 6
  have f7 := k.free 7
  clear k
  go_simp
  refine hK.out _ _ ?_ ?_
  · exact ⟨g1.other8 (by omega) _ _ _ _ _ _ _ _, ⟨_, _, _, _, _, _, _, _, g2.set8 _ _ _ _ _ _ _ _⟩, below_set8 g3 (by omega) _ _ _ _ _ _ _ _⟩
  (try clear hH); (try clear hb)
  intro hH
  clear r0 r1 r2 r3 r4 r5 r6 r7 f0 f1 f2 f3 f4 f5 f6 f7 g1 g2 g3 y2
  clear hK K
  (try simp only [cq])
  refine wpAnyH_done (by kernel_rfl) ?_ _
  (try dsimp only [Act.put])
  (try simp only [cq])
  have hR := HR.out
  have hB := hH.2.2
  clear HR hH jT jR jB
  go_wp2
  obtain ⟨z0, z1, z2, z3, z4, z5, z6, z7⟩ := hR.c8
  exact bodyPost_ret (v := .agg #[.int .i64 t.b, .int .i64 t.b, .int .i64 t.w, .int .i64 t.w, .int .i64 t.q, .int .i64 t.q, .int .i64 t.s, .int .i64 t.s]) (by simp [results, Try.results42, go_sem, z0, z1, z2, z3, z4, z5, z6, z7]) rfl ⟨rfl, hB⟩

def loI (x : Ic) : Nat → Int
  | 0 => x.b0
  | 1 => x.w0
  | 2 => x.q0
  | _ => x.s0
def hiI (x : Ic) : Nat → Int
  | 0 => x.b1
  | 1 => x.w1
  | 2 => x.q1
  | _ => x.s1
def tvI (t : T4) : Nat → Int
  | 0 => t.b
  | 1 => t.w
  | 2 => t.q
  | _ => t.s
def Upd (x : Ic) (t : T4) (C : Array Value) (k : Nat) : Prop :=
  C.size = 8 ∧ ∀ j, j < 4 → C[2 * j]? = some (.int .i64 (if j < k then min (loI x j) (tvI t j) else loI x j)) ∧ C[2 * j + 1]? = some (.int .i64 (if j < k then max (hiI x j) (tvI t j) else hiI x j))
theorem Upd.next {x : Ic} {t : T4} {C : Array Value} {k : Nat} (h : Upd x t C k) (hk : k < 4) : Upd x t ((C.setIfInBounds (2 * k) (.int .i64 (min (loI x k) (tvI t k)))).setIfInBounds (2 * k + 1) (.int .i64 (max (hiI x k) (tvI t k)))) (k + 1) := by
  obtain ⟨hs, h⟩ := h
  refine ⟨by simp [hs], fun j hj => ?_⟩
  obtain ⟨h1, h2⟩ := h j hj
  simp only [Array.getElem?_setIfInBounds, Array.size_setIfInBounds, hs]
  by_cases e : j = k
  · subst e
    rw [if_neg (show ¬ 2 * j + 1 = 2 * j by omega), if_pos rfl, if_pos (show 2 * j < 8 by omega), if_pos rfl, if_pos (show 2 * j + 1 < 8 by omega), if_pos (show j < j + 1 by omega), if_pos (show j < j + 1 by omega)]
    exact ⟨rfl, rfl⟩
  · rw [if_neg (show ¬ 2 * k + 1 = 2 * j by omega), if_neg (show ¬ 2 * k = 2 * j by omega), if_neg (show ¬ 2 * k + 1 = 2 * j + 1 by omega), if_neg (show ¬ 2 * k = 2 * j + 1 by omega), h1, h2]
    by_cases e2 : j < k
    · rw [if_pos e2, if_pos e2, if_pos (show j < k + 1 by omega), if_pos (show j < k + 1 by omega)]
      exact ⟨rfl, rfl⟩
    · rw [if_neg e2, if_neg e2, if_neg (show ¬ j < k + 1 by omega), if_neg (show ¬ j < k + 1 by omega)]
      exact ⟨rfl, rfl⟩
structure SW (t : T4) (w W : World) : Prop where
  ns : Blk W (w.heap.size + 1 + 1 + 1) #[.int .i64 t.b, .int .i64 t.w, .int .i64 t.q, .int .i64 t.s] 3
  ps : Blk W (w.heap.size + 1 + 1 + 1 + 1) #[.pointer (some ⟨w.heap.size, 0, none⟩), .pointer (some ⟨w.heap.size, 2, none⟩), .pointer (some ⟨w.heap.size, 4, none⟩), .pointer (some ⟨w.heap.size, 6, none⟩)] 119
  rs : Eight W (w.heap.size + 1 + 1) 28
  old : Below w.heap.size w W
theorem SW.drew {t : T4} {w W : World} (h : SW t w W) : SW t w W.drew := ⟨h.ns.drew, h.ps.drew, h.rs, h.old.drew⟩
theorem SW.set {t : T4} {w W : World} (h : SW t w W) (j : Nat) (u : Value) : SW t w (W.setCell ⟨w.heap.size, j, none⟩ u) :=
  ⟨h.ns.other ⟨w.heap.size, j, none⟩ u (show w.heap.size + 1 + 1 + 1 ≠ w.heap.size by omega), h.ps.other ⟨w.heap.size, j, none⟩ u (show w.heap.size + 1 + 1 + 1 + 1 ≠ w.heap.size by omega), h.rs.other ⟨w.heap.size, j, none⟩ u (show w.heap.size + 1 + 1 ≠ w.heap.size by omega), h.old.setCell (p := ⟨w.heap.size, j, none⟩) (Nat.le_refl _) u⟩
theorem SW.n {t : T4} {w W : World} (h : SW t w W) {k : Nat} (hk : k < 4) : W.cell? ⟨(w.heap.size + 1 + 1 + 1), k, none⟩ = some (.int .i64 (tvI t k)) := by
  obtain rfl | rfl | rfl | rfl : k = 0 ∨ k = 1 ∨ k = 2 ∨ k = 3 := by omega
  · exact h.ns.cell 0 rfl
  · exact h.ns.cell 1 rfl
  · exact h.ns.cell 2 rfl
  · exact h.ns.cell 3 rfl
theorem SW.p {t : T4} {w W : World} (h : SW t w W) {k : Nat} (hk : k < 4) : W.cell? ⟨(w.heap.size + 1 + 1 + 1 + 1), k, none⟩ = some (.pointer (some ⟨w.heap.size, 2 * k, none⟩)) := by
  obtain rfl | rfl | rfl | rfl : k = 0 ∨ k = 1 ∨ k = 2 ∨ k = 3 := by omega
  · exact h.ps.cell 0 rfl
  · exact h.ps.cell 1 rfl
  · exact h.ps.cell 2 rfl
  · exact h.ps.cell 3 rfl

set_option maxRecDepth 100000 in
set_option maxHeartbeats 8000000 in
theorem wider_more (x : Ic) (t : T4) (w : World) : Calls Try.prog 42 #[.agg #[.int .i64 x.b0, .int .i64 x.b1, .int .i64 x.w0, .int .i64 x.w1, .int .i64 x.q0, .int .i64 x.q1, .int .i64 x.s0, .int .i64 x.s1], .agg #[.int .i64 t.b, .int .i64 t.w, .int .i64 t.q, .int .i64 t.s], .bool false] w fun e w' => e = .returned (.agg #[.int .i64 (min x.b0 t.b), .int .i64 (max x.b1 t.b), .int .i64 (min x.w0 t.w), .int .i64 (max x.w1 t.w), .int .i64 (min x.q0 t.q), .int .i64 (max x.q1 t.q), .int .i64 (min x.s0 t.s), .int .i64 (max x.s1 t.s)]) ∧ Below w.heap.size w w' := by
  have jX := ((Blk.new w #[.int .i64 x.b0, .int .i64 x.b1, .int .i64 x.w0, .int .i64 x.w1, .int .i64 x.q0, .int .i64 x.q1, .int .i64 x.s0, .int .i64 x.s1] 28).alloc (.cells #[.int .i64 t.b, .int .i64 t.w, .int .i64 t.q, .int .i64 t.s] 57)).alloc (.cells #[.int .i64 0, .int .i64 0, .int .i64 0, .int .i64 0, .int .i64 0, .int .i64 0, .int .i64 0, .int .i64 0] 28)
  have jT := (Blk.new1 w (.cells #[.int .i64 x.b0, .int .i64 x.b1, .int .i64 x.w0, .int .i64 x.w1, .int .i64 x.q0, .int .i64 x.q1, .int .i64 x.s0, .int .i64 x.s1] 28) #[.int .i64 t.b, .int .i64 t.w, .int .i64 t.q, .int .i64 t.s] 57).alloc (.cells #[.int .i64 0, .int .i64 0, .int .i64 0, .int .i64 0, .int .i64 0, .int .i64 0, .int .i64 0, .int .i64 0] 28)
  have jR : Eight (((w.alloc (.cells #[.int .i64 x.b0, .int .i64 x.b1, .int .i64 x.w0, .int .i64 x.w1, .int .i64 x.q0, .int .i64 x.q1, .int .i64 x.s0, .int .i64 x.s1] 28)).alloc (.cells #[.int .i64 t.b, .int .i64 t.w, .int .i64 t.q, .int .i64 t.s] 57)).alloc (.cells #[.int .i64 0, .int .i64 0, .int .i64 0, .int .i64 0, .int .i64 0, .int .i64 0, .int .i64 0, .int .i64 0] 28)) (w.heap.size + 1 + 1) 28 := ⟨_, _, _, _, _, _, _, _, Blk.new2 w (.cells #[.int .i64 x.b0, .int .i64 x.b1, .int .i64 x.w0, .int .i64 x.w1, .int .i64 x.q0, .int .i64 x.q1, .int .i64 x.s0, .int .i64 x.s1] 28) (.cells #[.int .i64 t.b, .int .i64 t.w, .int .i64 t.q, .int .i64 t.s] 57) _ 28⟩
  have jB : Below w.heap.size w (((w.alloc (.cells #[.int .i64 x.b0, .int .i64 x.b1, .int .i64 x.w0, .int .i64 x.w1, .int .i64 x.q0, .int .i64 x.q1, .int .i64 x.s0, .int .i64 x.s1] 28)).alloc (.cells #[.int .i64 t.b, .int .i64 t.w, .int .i64 t.q, .int .i64 t.s] 57)).alloc (.cells #[.int .i64 0, .int .i64 0, .int .i64 0, .int .i64 0, .int .i64 0, .int .i64 0, .int .i64 0, .int .i64 0] 28)) := by (repeat (first | exact Below.refl _ _ | assumption | refine Below.drew ?_ | refine Below.drewN ?_ _ | refine blT ?_ | refine blU ?_))
  have hz : (((w.alloc (.cells #[.int .i64 x.b0, .int .i64 x.b1, .int .i64 x.w0, .int .i64 x.w1, .int .i64 x.q0, .int .i64 x.q1, .int .i64 x.s0, .int .i64 x.s1] 28)).alloc (.cells #[.int .i64 t.b, .int .i64 t.w, .int .i64 t.q, .int .i64 t.s] 57)).alloc (.cells #[.int .i64 0, .int .i64 0, .int .i64 0, .int .i64 0, .int .i64 0, .int .i64 0, .int .i64 0, .int .i64 0] 28)).heap.size = w.heap.size + 1 + 1 + 1 := by simp
  go_enter Try.func42, Try.ntmps42
  go_upto_region 3 with fail
  generalize ((w.alloc (.cells #[.int .i64 x.b0, .int .i64 x.b1, .int .i64 x.w0, .int .i64 x.w1, .int .i64 x.q0, .int .i64 x.q1, .int .i64 x.s0, .int .i64 x.s1] 28)).alloc (.cells #[.int .i64 t.b, .int .i64 t.w, .int .i64 t.q, .int .i64 t.s] 57)).alloc (.cells #[.int .i64 0, .int .i64 0, .int .i64 0, .int .i64 0, .int .i64 0, .int .i64 0, .int .i64 0, .int .i64 0] 28) = V at jX jT jR jB hz ⊢
  have HS : Hid (Blk ((V.alloc (.cells #[.int .i64 t.b, .int .i64 t.w, .int .i64 t.q, .int .i64 t.s] 3)).alloc (.cells #[.pointer (some ⟨w.heap.size, 0, none⟩), .pointer (some ⟨w.heap.size, 2, none⟩), .pointer (some ⟨w.heap.size, 4, none⟩), .pointer (some ⟨w.heap.size, 6, none⟩)] 119)) w.heap.size #[.int .i64 x.b0, .int .i64 x.b1, .int .i64 x.w0, .int .i64 x.w1, .int .i64 x.q0, .int .i64 x.q1, .int .i64 x.s0, .int .i64 x.s1] 28 ∧ SW t w ((V.alloc (.cells #[.int .i64 t.b, .int .i64 t.w, .int .i64 t.q, .int .i64 t.s] 3)).alloc (.cells #[.pointer (some ⟨w.heap.size, 0, none⟩), .pointer (some ⟨w.heap.size, 2, none⟩), .pointer (some ⟨w.heap.size, 4, none⟩), .pointer (some ⟨w.heap.size, 6, none⟩)] 119))) := by
    refine Lib.hid ⟨(jX.alloc _).alloc _, ?_, ?_, (jR.alloc _).alloc _, (jB.alloc (by omega) _).alloc (by simp; omega) _⟩
    · have q := (Blk.new V #[.int .i64 t.b, .int .i64 t.w, .int .i64 t.q, .int .i64 t.s] 3).alloc (.cells #[.pointer (some ⟨w.heap.size, 0, none⟩), .pointer (some ⟨w.heap.size, 2, none⟩), .pointer (some ⟨w.heap.size, 4, none⟩), .pointer (some ⟨w.heap.size, 6, none⟩)] 119)
      rw [hz] at q
      exact q
    · have q := Blk.new1 V (.cells #[.int .i64 t.b, .int .i64 t.w, .int .i64 t.q, .int .i64 t.s] 3) #[.pointer (some ⟨w.heap.size, 0, none⟩), .pointer (some ⟨w.heap.size, 2, none⟩), .pointer (some ⟨w.heap.size, 4, none⟩), .pointer (some ⟨w.heap.size, 6, none⟩)] 119
      rw [hz] at q
      exact q
  obtain ⟨a0, a1, a2, a3⟩ := jT.c4
  have y1 := jT.lt
  have y2 := jX.lt
  clear jX jT jR jB
  go_upto_region 5 with fail
  clear a0 a1 a2 a3 y1 y2
  obtain ⟨hX, hS⟩ := HS.out
  clear HS hz
  generalize (V.alloc (.cells #[.int .i64 t.b, .int .i64 t.w, .int .i64 t.q, .int .i64 t.s] 3)).alloc (.cells #[.pointer (some ⟨w.heap.size, 0, none⟩), .pointer (some ⟨w.heap.size, 2, none⟩), .pointer (some ⟨w.heap.size, 4, none⟩), .pointer (some ⟨w.heap.size, 6, none⟩)] 119) = V2 at hX hS ⊢
  have hU : Upd x t #[.int .i64 x.b0, .int .i64 x.b1, .int .i64 x.w0, .int .i64 x.w1, .int .i64 x.q0, .int .i64 x.q1, .int .i64 x.s0, .int .i64 x.s1] 0 := ⟨rfl, fun j hj => by
    obtain rfl | rfl | rfl | rfl : j = 0 ∨ j = 1 ∨ j = 2 ∨ j = 3 := by omega
    all_goals exact ⟨rfl, rfl⟩⟩
  generalize (#[.int .i64 x.b0, .int .i64 x.b1, .int .i64 x.w0, .int .i64 x.w1, .int .i64 x.q0, .int .i64 x.q1, .int .i64 x.s0, .int .i64 x.s1] : Array Value) = C0 at hX hU
  go_wp2_with fail
  go_loopw [9] (fun i wr => ∃ (k : Nat) (C : Array Value), k ≤ 4 ∧ i = .int .i64 k ∧ Blk wr w.heap.size C 28 ∧ Upd x t C k ∧ SW t w wr) (fun i _ => 4 - (intOf i).toNat)
  case atStart => exact ⟨0, C0, by omega, rfl, hX, hU, hS⟩
  case round =>
    clear hX hU hS
    obtain ⟨k, C, hk, rfl, hX, hU, hS⟩ := hrel
    by_cases hlt : k < 4
    · have hki : (k : Int) < 4 := by omega
      have hc := hU.2 k hlt
      rw [if_neg (by omega), if_neg (by omega)] at hc
      have HU := Lib.hid (hU.next hlt)
      have hsz := hU.1
      clear hU
      obtain ⟨tv, htv⟩ : ∃ z, tvI t k = z := ⟨_, rfl⟩
      obtain ⟨lo, hlo⟩ : ∃ z, loI x k = z := ⟨_, rfl⟩
      obtain ⟨hi, hhi⟩ : ∃ z, hiI x k = z := ⟨_, rfl⟩
      have HN : Hid (∀ W, SW t w W → W.cell? ⟨(w.heap.size + 1 + 1 + 1), k, none⟩ = some (.int .i64 tv)) := Lib.hid (fun W h => by rw [← htv]; exact h.n hlt)
      rw [htv, hlo, hhi] at HU
      rw [hlo, hhi] at hc
      clear htv hlo hhi
      have HC := Lib.hid hc
      have kX := hX.drew
      clear hX hc
      go_upto_region 8 with fail
      (
 refine wp_region_held_drew (S := (fun w' => SW t w w')) (by kernel_rfl) ?_ (fun hH => ?_)
 · (try dsimp only); (exact hS.drew)
 refine tkY 0 (some 44) ?_ ?_ ?_
 rotate_left
 · intro w _; go_simp; (try with_reducible rfl)
 (try simp only [cq])
 refine tkY 1 (some 45) ?_ ?_ ?_
 rotate_left
 · intro w _; go_simp; (try with_reducible rfl)
 (try simp only [cq])
 refine tkY 2 (some 46) ?_ ?_ ?_
 rotate_left
 · intro w hS0; (try dsimp only at hS0); have p0 := hS0.p hlt; have n0 := HN.out _ hS0; have z0 := World.block_lt_of_cell? _ _ p0; have z1 := World.block_lt_of_cell? _ _ n0;go_simp; (try with_reducible rfl)
 (try simp only [cq])
 refine tkY 3 (some 47) ?_ ?_ ?_
 rotate_left
 · intro w hS0; (try dsimp only at hS0); have p0 := hS0.p hlt; have n0 := HN.out _ hS0; have z0 := World.block_lt_of_cell? _ _ p0; have z1 := World.block_lt_of_cell? _ _ n0;go_simp; (try with_reducible rfl)
 (try simp only [cq])
 refine tkY 4 (some 48) ?_ ?_ ?_
 rotate_left
 · intro w _; go_simp; (try with_reducible rfl)
 (try simp only [cq])
 refine tkY 5 (some 49) ?_ ?_ ?_
 rotate_left
 · intro w _; go_simp; (try with_reducible rfl)
 (try simp only [cq])
 refine tkY 6 (some 50) ?_ ?_ ?_
 rotate_left
 · intro w hS0; (try dsimp only at hS0); have p0 := hS0.p hlt; have n0 := HN.out _ hS0; have z0 := World.block_lt_of_cell? _ _ p0; have z1 := World.block_lt_of_cell? _ _ n0;go_simp; (try with_reducible rfl)
 (try simp only [cq])
 refine tkY 7 (some 51) ?_ ?_ ?_
 rotate_left
 · intro w hS0; (try dsimp only at hS0); have p0 := hS0.p hlt; have n0 := HN.out _ hS0; have z0 := World.block_lt_of_cell? _ _ p0; have z1 := World.block_lt_of_cell? _ _ n0;go_simp; (try with_reducible rfl)
 (try simp only [cq])
 refine tkY 8 (some 52) ?_ ?_ ?_
 rotate_left
 · intro w _; go_simp; (try with_reducible rfl)
 (try simp only [cq])
 refine tkY 9 (some 53) ?_ ?_ ?_
 rotate_left
 · intro w _; go_simp; (try with_reducible rfl)
 (try simp only [cq])
 refine tkY 10 (some 54) ?_ ?_ ?_
 rotate_left
 · intro w hS0; (try dsimp only at hS0); have p0 := hS0.p hlt; have n0 := HN.out _ hS0; have z0 := World.block_lt_of_cell? _ _ p0; have z1 := World.block_lt_of_cell? _ _ n0;go_simp; (try with_reducible rfl)
 (try simp only [cq])
 refine tkY 11 (some 55) ?_ ?_ ?_
 rotate_left
 · intro w hS0; (try dsimp only at hS0); have p0 := hS0.p hlt; have n0 := HN.out _ hS0; have z0 := World.block_lt_of_cell? _ _ p0; have z1 := World.block_lt_of_cell? _ _ n0;go_simp; (try with_reducible rfl)
 (try simp only [cq])
 refine tkY 12 (some 56) ?_ ?_ ?_
 rotate_left
 · intro w hS0; (try dsimp only at hS0); have p0 := hS0.p hlt; have n0 := HN.out _ hS0; have z0 := World.block_lt_of_cell? _ _ p0; have z1 := World.block_lt_of_cell? _ _ n0;go_simp; (try with_reducible rfl)
 (try simp only [cq])
 refine tkY 13 (some 57) ?_ ?_ ?_
 rotate_left
 · intro w hS0; (try dsimp only at hS0); have p0 := hS0.p hlt; have n0 := HN.out _ hS0; have z0 := World.block_lt_of_cell? _ _ p0; have z1 := World.block_lt_of_cell? _ _ n0;go_simp; (try with_reducible rfl)
 (try simp only [cq])
 refine tkY 15 (some 59) ?_ ?_ ?_
 rotate_left
 · intro w _; go_simp; (try with_reducible rfl)
 (try simp only [cq])
 refine tkY 16 (some 60) ?_ ?_ ?_
 rotate_left
 · intro w _; go_simp; (try with_reducible rfl)
 (try simp only [cq])
 refine tkY 17 (some 61) ?_ ?_ ?_
 rotate_left
 · intro w hS0; (try dsimp only at hS0); have p0 := hS0.p hlt; have n0 := HN.out _ hS0; have z0 := World.block_lt_of_cell? _ _ p0; have z1 := World.block_lt_of_cell? _ _ n0;go_simp; (try with_reducible rfl)
 (try simp only [cq])
 refine tkY 18 (some 62) ?_ ?_ ?_
 rotate_left
 · intro w hS0; (try dsimp only at hS0); have p0 := hS0.p hlt; have n0 := HN.out _ hS0; have z0 := World.block_lt_of_cell? _ _ p0; have z1 := World.block_lt_of_cell? _ _ n0;go_simp; (try with_reducible rfl)
 (try simp only [cq])
 refine tkY 20 (some 64) ?_ ?_ ?_
 rotate_left
 · intro w _; go_simp; (try with_reducible rfl)
 (try simp only [cq])
 refine tkY 21 (some 65) ?_ ?_ ?_
 rotate_left
 · intro w _; go_simp; (try with_reducible rfl)
 (try simp only [cq])
 refine tkY 22 (some 66) ?_ ?_ ?_
 rotate_left
 · intro w hS0; (try dsimp only at hS0); have p0 := hS0.p hlt; have n0 := HN.out _ hS0; have z0 := World.block_lt_of_cell? _ _ p0; have z1 := World.block_lt_of_cell? _ _ n0;go_simp; (try with_reducible rfl)
 (try simp only [cq])
 refine tkY 23 (some 67) ?_ ?_ ?_
 rotate_left
 · intro w hS0; (try dsimp only at hS0); have p0 := hS0.p hlt; have n0 := HN.out _ hS0; have z0 := World.block_lt_of_cell? _ _ p0; have z1 := World.block_lt_of_cell? _ _ n0;go_simp; (try with_reducible rfl)
 (try simp only [cq])
 refine tkY 24 (some 68) ?_ ?_ ?_
 rotate_left
 · intro w hS0; (try dsimp only at hS0); have p0 := hS0.p hlt; have n0 := HN.out _ hS0; have z0 := World.block_lt_of_cell? _ _ p0; have z1 := World.block_lt_of_cell? _ _ n0;go_simp; (try with_reducible rfl)
 (try simp only [cq])
 refine tkY 25 (some 69) ?_ ?_ ?_
 rotate_left
 · intro w hS0; (try dsimp only at hS0); have p0 := hS0.p hlt; have n0 := HN.out _ hS0; have z0 := World.block_lt_of_cell? _ _ p0; have z1 := World.block_lt_of_cell? _ _ n0;go_simp; (try with_reducible rfl)
 (try simp only [cq])
 refine tkY 27 (some 71) ?_ ?_ ?_
 rotate_left
 · intro w _; go_simp; (try with_reducible rfl)
 (try simp only [cq])
 refine tkY 28 (some 72) ?_ ?_ ?_
 rotate_left
 · intro w _; go_simp; (try with_reducible rfl)
 (try simp only [cq])
 refine tkY 29 (some 73) ?_ ?_ ?_
 rotate_left
 · intro w hS0; (try dsimp only at hS0); have p0 := hS0.p hlt; have n0 := HN.out _ hS0; have z0 := World.block_lt_of_cell? _ _ p0; have z1 := World.block_lt_of_cell? _ _ n0;go_simp; (try with_reducible rfl)
 (try simp only [cq])
 refine tkY 30 (some 74) ?_ ?_ ?_
 rotate_left
 · intro w hS0; (try dsimp only at hS0); have p0 := hS0.p hlt; have n0 := HN.out _ hS0; have z0 := World.block_lt_of_cell? _ _ p0; have z1 := World.block_lt_of_cell? _ _ n0;go_simp; (try with_reducible rfl)
 (try simp only [cq])
 refine wpAnyH_ready (rs := [14, 26]) (by kernel_rfl) (by simp) ?_
 refine arc (some 58) (fun K hK => ?_) ?_
 {
 have c0 := kX.cell (2 * k) HC.out.1
 have y1 := kX.lt
 go_simp
 refine hK.out _ _ ?_ ?_
 · (exact hH)
 (try clear hH); (try clear hb)
 intro hH
 clear c0 y1
 clear hK K
 (try simp only [cq])
 refine tkY 19 (some 63) ?_ ?_ ?_
 rotate_left
 · intro w hS0; (try dsimp only at hS0); have p0 := hS0.p hlt; have n0 := HN.out _ hS0; have z0 := World.block_lt_of_cell? _ _ p0; have z1 := World.block_lt_of_cell? _ _ n0;go_simp; (try with_reducible rfl)
 (try simp only [cq])
 refine wpAnyH_ready (rs := [26]) (by kernel_rfl) (by simp) ?_
 refine arc1 (some 70) fun K hK => ?_
 have c1 := kX.cell (2 * k + 1) HC.out.2
 have y1 := kX.lt
 go_simp
 refine hK.out _ _ ?_ ?_
 · (exact hH)
 (try clear hH); (try clear hb)
 intro hH
 clear c1 y1
 clear hK K
 (try simp only [cq])
 refine tkY 31 (some 75) ?_ ?_ ?_
 rotate_left
 · intro w hS0; (try dsimp only at hS0); have p0 := hS0.p hlt; have n0 := HN.out _ hS0; have z0 := World.block_lt_of_cell? _ _ p0; have z1 := World.block_lt_of_cell? _ _ n0;go_simp; (try with_reducible rfl)
 (try simp only [cq])
 refine tkY 32 (some 76) ?_ ?_ ?_
 rotate_left
 · intro w hS0; (try dsimp only at hS0); have p0 := hS0.p hlt; have n0 := HN.out _ hS0; have z0 := World.block_lt_of_cell? _ _ p0; have z1 := World.block_lt_of_cell? _ _ n0;go_simp; (try with_reducible rfl)
 (try simp only [cq])
 refine tkY 33 (some 77) ?_ ?_ ?_
 rotate_left
 · intro w hS0; (try dsimp only at hS0); have p0 := hS0.p hlt; have n0 := HN.out _ hS0; have z0 := World.block_lt_of_cell? _ _ p0; have z1 := World.block_lt_of_cell? _ _ n0;go_simp; (try with_reducible rfl)
 (try simp only [cq])
 refine wpAnyH_ready (rs := [34]) (by kernel_rfl) (by simp) ?_
 refine arc1 none fun K hK => ?_
 have c0 := kX.cell (2 * k) HC.out.1
 have f0 := kX.free (2 * k)
 have y1 := kX.lt
 go_simp
 refine hK.out _ _ ?_ ?_
 · exact hH.set _ _
 (try clear hH); (try clear hb)
 intro hH
 replace kX : Blk (wr.setCell ⟨w.heap.size, 2 * k, none⟩ (.int .i64 (min lo tv))).drew w.heap.size (C.setIfInBounds (2 * k) (.int .i64 (min lo tv))) 28 := kX.set (2 * k) (.int .i64 (min lo tv))
 clear c0 f0 y1
 clear hK K
 (try simp only [cq])
 refine tkY 35 (some 78) ?_ ?_ ?_
 rotate_left
 · intro w hS0; (try dsimp only at hS0); have p0 := hS0.p hlt; have n0 := HN.out _ hS0; have z0 := World.block_lt_of_cell? _ _ p0; have z1 := World.block_lt_of_cell? _ _ n0;go_simp; (try with_reducible rfl)
 (try simp only [cq])
 refine tkY 36 (some 79) ?_ ?_ ?_
 rotate_left
 · intro w hS0; (try dsimp only at hS0); have p0 := hS0.p hlt; have n0 := HN.out _ hS0; have z0 := World.block_lt_of_cell? _ _ p0; have z1 := World.block_lt_of_cell? _ _ n0;go_simp; (try with_reducible rfl)
 (try simp only [cq])
 refine wpAnyH_ready (rs := [37]) (by kernel_rfl) (by simp) ?_
 refine arc1 none fun K hK => ?_
 have c0 := kX.cell (2 * k + 1) (by rw [Array.getElem?_setIfInBounds, if_neg (by omega)]; exact HC.out.2)
 have f0 := kX.free (2 * k + 1)
 have y1 := kX.lt
 go_simp
 refine hK.out _ _ ?_ ?_
 · exact hH.set _ _
 (try clear hH); (try clear hb)
 intro hH
 replace kX : Blk ((wr.setCell ⟨w.heap.size, 2 * k, none⟩ (.int .i64 (min lo tv))).setCell ⟨w.heap.size, 2 * k + 1, none⟩ (.int .i64 (max hi tv))).drew w.heap.size ((C.setIfInBounds (2 * k) (.int .i64 (min lo tv))).setIfInBounds (2 * k + 1) (.int .i64 (max hi tv))) 28 := kX.set (2 * k + 1) (.int .i64 (max hi tv))
 clear c0 f0 y1
 clear hK K
 (try simp only [cq])
 refine wpAnyH_done (by kernel_rfl) ?_ _
 (try dsimp only [Act.put])
 (try simp only [cq])
 replace hS := hH
 clear hH HC HN
 go_wp2
 go_roundw
 case rel => exact ⟨k + 1, _, by omega, by go_num, kX, HU.out, hS⟩
 case measure => simp [intOf]; omega
 }
 refine arc (some 70) (fun K hK => ?_) ?_
 {
 have c1 := kX.cell (2 * k + 1) HC.out.2
 have y1 := kX.lt
 go_simp
 refine hK.out _ _ ?_ ?_
 · (exact hH)
 (try clear hH); (try clear hb)
 intro hH
 clear c1 y1
 clear hK K
 (try simp only [cq])
 refine tkY 31 (some 75) ?_ ?_ ?_
 rotate_left
 · intro w hS0; (try dsimp only at hS0); have p0 := hS0.p hlt; have n0 := HN.out _ hS0; have z0 := World.block_lt_of_cell? _ _ p0; have z1 := World.block_lt_of_cell? _ _ n0;go_simp; (try with_reducible rfl)
 (try simp only [cq])
 refine wpAnyH_ready (rs := [14]) (by kernel_rfl) (by simp) ?_
 refine arc1 (some 58) fun K hK => ?_
 have c0 := kX.cell (2 * k) HC.out.1
 have y1 := kX.lt
 go_simp
 refine hK.out _ _ ?_ ?_
 · (exact hH)
 (try clear hH); (try clear hb)
 intro hH
 clear c0 y1
 clear hK K
 (try simp only [cq])
 refine tkY 19 (some 63) ?_ ?_ ?_
 rotate_left
 · intro w hS0; (try dsimp only at hS0); have p0 := hS0.p hlt; have n0 := HN.out _ hS0; have z0 := World.block_lt_of_cell? _ _ p0; have z1 := World.block_lt_of_cell? _ _ n0;go_simp; (try with_reducible rfl)
 (try simp only [cq])
 refine tkY 32 (some 76) ?_ ?_ ?_
 rotate_left
 · intro w hS0; (try dsimp only at hS0); have p0 := hS0.p hlt; have n0 := HN.out _ hS0; have z0 := World.block_lt_of_cell? _ _ p0; have z1 := World.block_lt_of_cell? _ _ n0;go_simp; (try with_reducible rfl)
 (try simp only [cq])
 refine tkY 33 (some 77) ?_ ?_ ?_
 rotate_left
 · intro w hS0; (try dsimp only at hS0); have p0 := hS0.p hlt; have n0 := HN.out _ hS0; have z0 := World.block_lt_of_cell? _ _ p0; have z1 := World.block_lt_of_cell? _ _ n0;go_simp; (try with_reducible rfl)
 (try simp only [cq])
 refine wpAnyH_ready (rs := [34]) (by kernel_rfl) (by simp) ?_
 refine arc1 none fun K hK => ?_
 have c0 := kX.cell (2 * k) HC.out.1
 have f0 := kX.free (2 * k)
 have y1 := kX.lt
 go_simp
 refine hK.out _ _ ?_ ?_
 · exact hH.set _ _
 (try clear hH); (try clear hb)
 intro hH
 replace kX : Blk (wr.setCell ⟨w.heap.size, 2 * k, none⟩ (.int .i64 (min lo tv))).drew w.heap.size (C.setIfInBounds (2 * k) (.int .i64 (min lo tv))) 28 := kX.set (2 * k) (.int .i64 (min lo tv))
 clear c0 f0 y1
 clear hK K
 (try simp only [cq])
 refine tkY 35 (some 78) ?_ ?_ ?_
 rotate_left
 · intro w hS0; (try dsimp only at hS0); have p0 := hS0.p hlt; have n0 := HN.out _ hS0; have z0 := World.block_lt_of_cell? _ _ p0; have z1 := World.block_lt_of_cell? _ _ n0;go_simp; (try with_reducible rfl)
 (try simp only [cq])
 refine tkY 36 (some 79) ?_ ?_ ?_
 rotate_left
 · intro w hS0; (try dsimp only at hS0); have p0 := hS0.p hlt; have n0 := HN.out _ hS0; have z0 := World.block_lt_of_cell? _ _ p0; have z1 := World.block_lt_of_cell? _ _ n0;go_simp; (try with_reducible rfl)
 (try simp only [cq])
 refine wpAnyH_ready (rs := [37]) (by kernel_rfl) (by simp) ?_
 refine arc1 none fun K hK => ?_
 have c0 := kX.cell (2 * k + 1) (by rw [Array.getElem?_setIfInBounds, if_neg (by omega)]; exact HC.out.2)
 have f0 := kX.free (2 * k + 1)
 have y1 := kX.lt
 go_simp
 refine hK.out _ _ ?_ ?_
 · exact hH.set _ _
 (try clear hH); (try clear hb)
 intro hH
 replace kX : Blk ((wr.setCell ⟨w.heap.size, 2 * k, none⟩ (.int .i64 (min lo tv))).setCell ⟨w.heap.size, 2 * k + 1, none⟩ (.int .i64 (max hi tv))).drew w.heap.size ((C.setIfInBounds (2 * k) (.int .i64 (min lo tv))).setIfInBounds (2 * k + 1) (.int .i64 (max hi tv))) 28 := kX.set (2 * k + 1) (.int .i64 (max hi tv))
 clear c0 f0 y1
 clear hK K
 (try simp only [cq])
 refine wpAnyH_done (by kernel_rfl) ?_ _
 (try dsimp only [Act.put])
 (try simp only [cq])
 replace hS := hH
 clear hH HC HN
 go_wp2
 go_roundw
 case rel => exact ⟨k + 1, _, by omega, by go_num, kX, HU.out, hS⟩
 case measure => simp [intOf]; omega
 }
 exact AllReadyH.nil )
    · obtain rfl : k = 4 := by omega
      clear hlt hk
      have e0 := hU.2 0 (by decide)
      have e1 := hU.2 1 (by decide)
      have e2 := hU.2 2 (by decide)
      have e3 := hU.2 3 (by decide)
      have c0 : wr.cell? ⟨w.heap.size, 0, none⟩ = some (.int .i64 (min x.b0 t.b)) := hX.cell 0 e0.1
      have c1 : wr.cell? ⟨w.heap.size, 1, none⟩ = some (.int .i64 (max x.b1 t.b)) := hX.cell 1 e0.2
      have c2 : wr.cell? ⟨w.heap.size, 2, none⟩ = some (.int .i64 (min x.w0 t.w)) := hX.cell 2 e1.1
      have c3 : wr.cell? ⟨w.heap.size, 3, none⟩ = some (.int .i64 (max x.w1 t.w)) := hX.cell 3 e1.2
      have c4 : wr.cell? ⟨w.heap.size, 4, none⟩ = some (.int .i64 (min x.q0 t.q)) := hX.cell 4 e2.1
      have c5 : wr.cell? ⟨w.heap.size, 5, none⟩ = some (.int .i64 (max x.q1 t.q)) := hX.cell 5 e2.2
      have c6 : wr.cell? ⟨w.heap.size, 6, none⟩ = some (.int .i64 (min x.s0 t.s)) := hX.cell 6 e3.1
      have c7 : wr.cell? ⟨w.heap.size, 7, none⟩ = some (.int .i64 (max x.s1 t.s)) := hX.cell 7 e3.2
      have yX := hX.lt
      clear e0 e1 e2 e3 hX hU
      have HR := Lib.hid (hS.rs.set8 (.int .i64 (min x.b0 t.b)) (.int .i64 (max x.b1 t.b)) (.int .i64 (min x.w0 t.w)) (.int .i64 (max x.w1 t.w)) (.int .i64 (min x.q0 t.q)) (.int .i64 (max x.q1 t.q)) (.int .i64 (min x.s0 t.s)) (.int .i64 (max x.s1 t.s)))
      have HB := Lib.hid (below_set8 hS.old (c := (w.heap.size + 1 + 1)) (by omega) (.int .i64 (min x.b0 t.b)) (.int .i64 (max x.b1 t.b)) (.int .i64 (min x.w0 t.w)) (.int .i64 (max x.w1 t.w)) (.int .i64 (min x.q0 t.q)) (.int .i64 (max x.q1 t.q)) (.int .i64 (min x.s0 t.s)) (.int .i64 (max x.s1 t.s)))
      have y2 := hS.rs.lt
      obtain ⟨x0, x1, x2, x3, x4, x5, x6, x7, kk⟩ := id hS.rs
      obtain ⟨r0, r1, r2, r3, r4, r5, r6, r7⟩ := kk.c8
      have f0 := kk.free 0
      have f1 := kk.free 1
      have f2 := kk.free 2
      have f3 := kk.free 3
      have f4 := kk.free 4
      have f5 := kk.free 5
      have f6 := kk.free 6
      have f7 := kk.free 7
      clear kk hS
      obtain ⟨u0, hu0⟩ : ∃ z, (min x.b0 t.b) = z := ⟨_, rfl⟩
      rw [hu0] at c0 HR HB
      have H0 := Lib.hid hu0
      clear hu0
      obtain ⟨u1, hu1⟩ : ∃ z, (max x.b1 t.b) = z := ⟨_, rfl⟩
      rw [hu1] at c1 HR HB
      have H1 := Lib.hid hu1
      clear hu1
      obtain ⟨u2, hu2⟩ : ∃ z, (min x.w0 t.w) = z := ⟨_, rfl⟩
      rw [hu2] at c2 HR HB
      have H2 := Lib.hid hu2
      clear hu2
      obtain ⟨u3, hu3⟩ : ∃ z, (max x.w1 t.w) = z := ⟨_, rfl⟩
      rw [hu3] at c3 HR HB
      have H3 := Lib.hid hu3
      clear hu3
      obtain ⟨u4, hu4⟩ : ∃ z, (min x.q0 t.q) = z := ⟨_, rfl⟩
      rw [hu4] at c4 HR HB
      have H4 := Lib.hid hu4
      clear hu4
      obtain ⟨u5, hu5⟩ : ∃ z, (max x.q1 t.q) = z := ⟨_, rfl⟩
      rw [hu5] at c5 HR HB
      have H5 := Lib.hid hu5
      clear hu5
      obtain ⟨u6, hu6⟩ : ∃ z, (min x.s0 t.s) = z := ⟨_, rfl⟩
      rw [hu6] at c6 HR HB
      have H6 := Lib.hid hu6
      clear hu6
      obtain ⟨u7, hu7⟩ : ∃ z, (max x.s1 t.s) = z := ⟨_, rfl⟩
      rw [hu7] at c7 HR HB
      have H7 := Lib.hid hu7
      clear hu7
      go_wp2
      obtain ⟨z0, z1, z2, z3, z4, z5, z6, z7⟩ := HR.out.c8
      exact bodyPost_ret (v := .agg #[.int .i64 u0, .int .i64 u1, .int .i64 u2, .int .i64 u3, .int .i64 u4, .int .i64 u5, .int .i64 u6, .int .i64 u7]) (by simp [results, Try.results42, go_sem, z0, z1, z2, z3, z4, z5, z6, z7]) rfl ⟨by rw [H0.out, H1.out, H2.out, H3.out, H4.out, H5.out, H6.out, H7.out], HB.out⟩
end Go.Proofs.Ytkldjaofgdklbaa

namespace Go.Proofs.Ytkldjaofgdklbaa
open Go.RowKit

def prd (ns : Nat → Nat) : Nat → Nat
  | 0 => 1
  | k + 1 => prd ns k * ns k
theorem prd_shift (ns : Nat → Nat) : ∀ k, prd ns (k + 1) = ns 0 * prd (fun i => ns (i + 1)) k
  | 0 => by simp [prd]
  | k + 1 => by rw [prd, prd_shift ns k, Nat.mul_assoc]; rfl
theorem dq_shift (ns : Nat → Nat) (m : Nat) : ∀ k, dq ns m (k + 1) = dq (fun i => ns (i + 1)) (m / ns 0) k
  | 0 => rfl
  | k + 1 => by rw [dq, dq_shift ns m k]; rfl
theorem cover : ∀ (K : Nat) (ns i : Nat → Nat), (∀ k, k < K → i k < ns k) → ∃ m, m < prd ns K ∧ ∀ k, k < K → dig ns m k = i k
  | 0, _, _, _ => ⟨0, by simp [prd], fun k hk => by omega⟩
  | K + 1, ns, i, h => by
    obtain ⟨m, hm, hd⟩ := cover K (fun k => ns (k + 1)) (fun k => i (k + 1)) (fun k hk => h (k + 1) (by omega))
    have h0 := h 0 (by omega)
    have e1 : (i 0 + ns 0 * m) % ns 0 = i 0 := by rw [Nat.add_mul_mod_self_left, Nat.mod_eq_of_lt h0]
    have e2 : (i 0 + ns 0 * m) / ns 0 = m := by rw [Nat.add_mul_div_left _ _ (by omega), Nat.div_eq_of_lt h0, Nat.zero_add]
    refine ⟨i 0 + ns 0 * m, ?_, fun k hk => ?_⟩
    · rw [prd_shift]
      have : ns 0 * (m + 1) ≤ ns 0 * prd (fun k => ns (k + 1)) K := Nat.mul_le_mul (Nat.le_refl _) hm
      rw [Nat.mul_add, Nat.mul_one] at this
      omega
    · match k with
      | 0 => exact e1
      | k + 1 =>
        unfold dig
        rw [dq_shift, e2]
        exact hd k (by omega)
theorem prd_le (ns : Nat → Nat) : ∀ k, (∀ i, i < k → ns i ≤ 4) → prd ns k ≤ 4 ^ k
  | 0, _ => Nat.le_refl _
  | k + 1, h => by
    rw [prd, Nat.pow_succ]
    exact Nat.mul_le_mul (prd_le ns k (fun i hi => h i (by omega))) (h k (by omega))
theorem prd_pos (ns : Nat → Nat) : ∀ k, (∀ i, i < k → 1 ≤ ns i) → 1 ≤ prd ns k
  | 0, _ => Nat.le_refl _
  | k + 1, h => Nat.mul_pos (prd_pos ns k (fun i hi => h i (by omega))) (h k (by omega))
def pk6 {α : Type} (a b c d e f : α) : Nat → α
  | 0 => a
  | 1 => b
  | 2 => c
  | 3 => d
  | 4 => e
  | _ => f
def chT (ns : Nat → Nat) (xs : Nat → Nat → Int) (m : Nat) : T4 := ⟨xs 0 (dig ns m 0), xs 1 (dig ns m 1), xs 2 (dig ns m 2), xs 3 (dig ns m 3)⟩
structure Chs (x : Ic) (d : Dy) (ns : Nat → Nat) (xs : Nat → Nat → Int) : Prop where
  l0 : Lst (Ede x.b0 x.b1) (ns 0) (xs 0)
  l1 : Lst (Ede x.w0 x.w1) (ns 1) (xs 1)
  l2 : Lst (Ede x.q0 x.q1) (ns 2) (xs 2)
  l3 : Lst (Ede x.s0 x.s1) (ns 3) (xs 3)
  l4 : Lst (CldP d.c0 d.c1) (ns 4) (xs 4)
  l5 : Lst (Ede d.f0 d.f1) (ns 5) (xs 5)
theorem Chs.at {x : Ic} {d : Dy} {ns : Nat → Nat} {xs : Nat → Nat → Int} (h : Chs x d ns xs) (m : Nat) : ChU x d (chT ns xs m) (xs 4 (dig ns m 4)) (xs 5 (dig ns m 5)) :=
  ⟨h.l0.all _ (Nat.mod_lt _ h.l0.n1), h.l1.all _ (Nat.mod_lt _ h.l1.n1), h.l2.all _ (Nat.mod_lt _ h.l2.n1), h.l3.all _ (Nat.mod_lt _ h.l3.n1), h.l4.all _ (Nat.mod_lt _ h.l4.n1), h.l5.all _ (Nat.mod_lt _ h.l5.n1)⟩
def SetU (l : Lw) (d : Dy) (ns : Nat → Nat) (xs : Nat → Nat → Int) (m : Nat) (u : T4) : Prop := ∃ k, k < m ∧ DayU l d (chT ns xs k) (xs 4 (dig ns k 4)) (xs 5 (dig ns k 5)) u
theorem Chs.n {x : Ic} {d : Dy} {ns : Nat → Nat} {xs : Nat → Nat → Int} (h : Chs x d ns xs) : ∀ i, i < 6 → 1 ≤ ns i ∧ ns i ≤ 4 := by
  intro i hi
  obtain rfl | rfl | rfl | rfl | rfl | rfl : i = 0 ∨ i = 1 ∨ i = 2 ∨ i = 3 ∨ i = 4 ∨ i = 5 := by omega
  · exact ⟨h.l0.n1, h.l0.n4⟩
  · exact ⟨h.l1.n1, h.l1.n4⟩
  · exact ⟨h.l2.n1, h.l2.n4⟩
  · exact ⟨h.l3.n1, h.l3.n4⟩
  · exact ⟨h.l4.n1, h.l4.n4⟩
  · exact ⟨h.l5.n1, h.l5.n4⟩
theorem all_set {l : Lw} {x : Ic} {d : Dy} {ns : Nat → Nat} {xs : Nat → Nat → Int} (h : Chs x d ns xs) (u : T4) : SetU l d ns xs (prd ns 6) u ↔ AllU l x d u := by
  constructor
  · rintro ⟨k, hk, hu⟩
    exact ⟨_, _, _, h.at k, hu⟩
  · rintro ⟨t, c, f, ⟨e0, e1, e2, e3, e4, e5⟩, hu⟩
    obtain ⟨i0, h0, k0⟩ := h.l0.each _ e0
    obtain ⟨i1, h1, k1⟩ := h.l1.each _ e1
    obtain ⟨i2, h2, k2⟩ := h.l2.each _ e2
    obtain ⟨i3, h3, k3⟩ := h.l3.each _ e3
    obtain ⟨i4, h4, k4⟩ := h.l4.each _ e4
    obtain ⟨i5, h5, k5⟩ := h.l5.each _ e5
    obtain ⟨m, hm, hd⟩ := cover 6 ns (pk6 i0 i1 i2 i3 i4 i5) (fun k hk => by
      obtain rfl | rfl | rfl | rfl | rfl | rfl : k = 0 ∨ k = 1 ∨ k = 2 ∨ k = 3 ∨ k = 4 ∨ k = 5 := by omega
      all_goals assumption)
    have d0 : dig ns m 0 = i0 := hd 0 (by decide)
    have d1 : dig ns m 1 = i1 := hd 1 (by decide)
    have d2 : dig ns m 2 = i2 := hd 2 (by decide)
    have d3 : dig ns m 3 = i3 := hd 3 (by decide)
    have d4 : dig ns m 4 = i4 := hd 4 (by decide)
    have d5 : dig ns m 5 = i5 := hd 5 (by decide)
    refine ⟨m, hm, ?_⟩
    have et : chT ns xs m = t := by
      unfold chT
      rw [d0, d1, d2, d3, k0, k1, k2, k3]
    rw [et, d4, d5, k4, k5]
    exact hu
theorem set_zero (l : Lw) (d : Dy) (ns : Nat → Nat) (xs : Nat → Nat → Int) (u : T4) : ¬ SetU l d ns xs 0 u := fun ⟨k, hk, _⟩ => by omega
theorem set_next {l : Lw} {d : Dy} {ns : Nat → Nat} {xs : Nat → Nat → Int} {m nn : Nat} {v : Nat → T4} (h1 : ∀ i, i < nn → DayU l d (chT ns xs m) (xs 4 (dig ns m 4)) (xs 5 (dig ns m 5)) (v i)) (h2 : ∀ z, DayU l d (chT ns xs m) (xs 4 (dig ns m 4)) (xs 5 (dig ns m 5)) z → ∃ i, i < nn ∧ v i = z) (u : T4) :
    (SetU l d ns xs m u ∨ ∃ i, i < nn ∧ u = v i) ↔ SetU l d ns xs (m + 1) u := by
  constructor
  · rintro (⟨k, hk, hu⟩ | ⟨i, hi, rfl⟩)
    · exact ⟨k, by omega, hu⟩
    · exact ⟨m, by omega, h1 i hi⟩
  · rintro ⟨k, hk, hu⟩
    by_cases e : k = m
    · subst e
      obtain ⟨i, hi, e⟩ := h2 u hu
      exact .inr ⟨i, hi, e.symm⟩
    · exact .inl ⟨k, by omega, hu⟩
def Acc (l : Lw) (d : Dy) (ns : Nat → Nat) (xs : Nat → Nat → Int) (m : Nat) (v : Nat → T4) (i : Nat) (y : Ic) : Prop :=
  (m = 0 ∧ i = 0) ∨ Met (fun u => SetU l d ns xs m u ∨ ∃ k, k < i ∧ u = v k) y
def newI (b : Bool) (y : Ic) (u : T4) : Ic := if b then ⟨u.b, u.b, u.w, u.w, u.q, u.q, u.s, u.s⟩ else addI y u
theorem Acc.next {l : Lw} {d : Dy} {ns : Nat → Nat} {xs : Nat → Nat → Int} {m : Nat} {v : Nat → T4} {i : Nat} {y : Ic} (h : Acc l d ns xs m v i y) (b : Bool) (hb : b = true ↔ m = 0 ∧ i = 0) : Acc l d ns xs m v (i + 1) (newI b y (v i)) := by
  have hs : ∀ u, (∃ k, k < i + 1 ∧ u = v k) ↔ ((∃ k, k < i ∧ u = v k) ∨ u = v i) := fun u => by
    constructor
    · rintro ⟨k, hk, e⟩
      by_cases q : k = i
      · subst q; exact .inr e
      · exact .inl ⟨k, by omega, e⟩
    · rintro (⟨k, hk, e⟩ | e)
      · exact ⟨k, by omega, e⟩
      · exact ⟨i, by omega, e⟩
  right
  cases b with
  | true =>
    obtain ⟨rfl, rfl⟩ := hb.1 rfl
    refine (Met.one (v 0)).congr fun u => ?_
    rw [hs]
    constructor
    · exact fun e => .inr (.inr e)
    · rintro (e | ⟨k, hk, _⟩ | e)
      · exact absurd e (set_zero l d ns xs u)
      · omega
      · exact e
  | false =>
    rcases h with h | h
    · exact absurd (hb.2 h) (by decide)
    · refine (h.add (v i)).congr fun u => ?_
      rw [hs, or_assoc]
theorem Acc.done {l : Lw} {d : Dy} {ns : Nat → Nat} {xs : Nat → Nat → Int} {m nn : Nat} {v : Nat → T4} {y : Ic} (h : Acc l d ns xs m v nn y) (hn : 1 ≤ nn) (h1 : ∀ i, i < nn → DayU l d (chT ns xs m) (xs 4 (dig ns m 4)) (xs 5 (dig ns m 5)) (v i)) (h2 : ∀ z, DayU l d (chT ns xs m) (xs 4 (dig ns m 4)) (xs 5 (dig ns m 5)) z → ∃ i, i < nn ∧ v i = z) (v' : Nat → T4) : Acc l d ns xs (m + 1) v' 0 y := by
  rcases h with ⟨_, h⟩ | h
  · omega
  · refine .inr (h.congr fun u => ?_)
    rw [set_next h1 h2]
    exact ⟨.inl, fun e => e.elim id (fun ⟨k, hk, _⟩ => by omega)⟩
theorem Acc.all {l : Lw} (hl : l.Kit) {x : Ic} (hx : x.Nn) {d : Dy} (hd : d.Ok) {ns : Nat → Nat} {xs : Nat → Nat → Int} (hc : Chs x d ns xs) {v : Nat → T4} {y : Ic} (h : Acc l d ns xs (prd ns 6) v 0 y) : y = stepI l x d := by
  rcases h with ⟨h, _⟩ | h
  · have := prd_pos ns 6 (fun i hi => (hc.n i hi).1)
    omega
  · refine Met.unique (S := AllU l x d) (h.congr fun u => ?_) (ends_met hl hx hd)
    rw [← all_set hc]
    exact ⟨fun e => e.elim id (fun ⟨k, hk, _⟩ => by omega), .inl⟩

def TrsAt (w : World) (v : Value) (n : Nat) (u : Nat → T4) : Prop :=
  ∃ b cap, v = .slice (some ⟨b, 0, none⟩) n cap ∧ n ≤ cap ∧ cap ≤ 9223372036854775807 ∧ ∀ i, i < n → w.cell? ⟨b, i * 4, none⟩ = some (.int .i64 (u i).b) ∧ w.cell? ⟨b, i * 4 + 1, none⟩ = some (.int .i64 (u i).w) ∧ w.cell? ⟨b, i * 4 + 2, none⟩ = some (.int .i64 (u i).q) ∧ w.cell? ⟨b, i * 4 + 3, none⟩ = some (.int .i64 (u i).s)
theorem trs_of_row {W : World} {base : Nat} {t : TypeId} {v : Value} {m : Nat} {u : Nat → T4} (hm : 1 ≤ m) (h : W.ownsRow base t 4 v m (catC (trC u) m)) : TrsAt W v m u := by
  obtain ⟨a, cap, hv, h1, h2, h3⟩ := row_at h (by decide)
  obtain ⟨b, rfl, hc⟩ := h3 hm
  refine ⟨b, cap, hv, h1, h2, fun i hi => ?_⟩
  have q := fun j (hj : j < 4) => (hc i j hi hj).trans (catC_at (trC u) 4 (fun _ => rfl) i j hj m hi)
  have q0 := q 0 (by decide)
  have q1 := q 1 (by decide)
  have q2 := q 2 (by decide)
  have q3 := q 3 (by decide)
  rw [Nat.zero_add] at q0 q1 q2 q3
  exact ⟨q0, q1, q2, q3⟩

theorem grown_set (W : World) (b j : Nat) (v : Value) : W.grownBy (W.setCell ⟨b, j, none⟩ v) (some b) :=
  ⟨rfl, rfl, rfl, by simp, fun k hk hne => Below.heap_setCell W ⟨b, j, none⟩ v k (fun e => hne (by rw [e]))⟩
end Go.Proofs.Ytkldjaofgdklbaa
