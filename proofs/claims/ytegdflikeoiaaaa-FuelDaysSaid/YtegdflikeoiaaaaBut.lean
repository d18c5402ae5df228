/-
  What FuelDays says, as mathematics: days that litres last.
  ColdsOf (sastrugikit): some colds in bounds.
  BurnOf (sastrugikit), of a burn that does not fall with cold; the law's burnt.
-/
import Derived.Test.YtegdflikeoiaaaaTail
import Derived.Test.YtegdflikeoiaaaaLeq
import Derived.Test.YtegdflikeoiaaaaCol
import Derived.Test.YtegdflikeoiaaaaBuo
import Derived.Test.YtegdflikeoiaaaaTko
set_option linter.unusedVariables false
set_option linter.unusedSimpArgs false
namespace Go.Proofs.Ytegdflikeoiaaaa
open Go.RowKit

structure BuR (n : Nat) (U : Nat → Bu) : Prop where
  ok : BuOk n U
  co : ∀ i, i < n → -1000 ≤ (U i).co ∧ (U i).co ≤ 1000
  hs : ∀ i, i + 1 < n → (U i).co < (U (i + 1)).co
  lh : ∀ i, i < n → (U i).lo ≤ (U i).hi
  ls : ∀ i, i + 1 < n → (U i).lo ≤ (U (i + 1)).lo
  us : ∀ i, i + 1 < n → (U i).hi ≤ (U (i + 1)).hi
theorem BuR.lo {n : Nat} {U : Nat → Bu} (h : BuR n U) : ∀ d i, i + d < n → (U i).lo ≤ (U (i + d)).lo
  | 0, i, _ => Int.le_refl _
  | d + 1, i, hi => by
    have := h.lo d i (by omega)
    have := h.ls (i + d) (by omega)
    rw [show i + (d + 1) = i + d + 1 by omega]
    omega
theorem BuR.hi {n : Nat} {U : Nat → Bu} (h : BuR n U) : ∀ d i, i + d < n → (U i).hi ≤ (U (i + d)).hi
  | 0, i, _ => Int.le_refl _
  | d + 1, i, hi => by
    have := h.hi d i (by omega)
    have := h.us (i + d) (by omega)
    rw [show i + (d + 1) = i + d + 1 by omega]
    omega
theorem BuR.lo' {n : Nat} {U : Nat → Bu} (h : BuR n U) {i j : Nat} (hij : i ≤ j) (hj : j < n) : (U i).lo ≤ (U j).lo := by
  have := h.lo (j - i) i (by omega)
  rwa [show i + (j - i) = j by omega] at this
theorem BuR.hi' {n : Nat} {U : Nat → Bu} (h : BuR n U) {i j : Nat} (hij : i ≤ j) (hj : j < n) : (U i).hi ≤ (U j).hi := by
  have := h.hi (j - i) i (by omega)
  rwa [show i + (j - i) = j by omega] at this
theorem BuR.mn {n : Nat} {U : Nat → Bu} (h : BuR n U) (p : Nat) : ∀ d, p + d < n → mnF U p d = (U p).lo
  | 0, _ => rfl
  | d + 1, hd => by
    have a := h.mn p d (by omega)
    have b := h.lo (d + 1) p (by omega)
    show min (mnF U p d) (U (p + d + 1)).lo = _
    rw [a, show p + d + 1 = p + (d + 1) by omega]
    omega
theorem BuR.mx {n : Nat} {U : Nat → Bu} (h : BuR n U) (p : Nat) : ∀ d, p + d < n → mxF U p d = (U (p + d)).hi
  | 0, _ => rfl
  | d + 1, hd => by
    have a := h.mx p d (by omega)
    have b := h.us (p + d) (by omega)
    show max (mxF U p d) (U (p + d + 1)).hi = _
    rw [a, show p + (d + 1) = p + d + 1 by omega]
    omega
theorem plc_ex {n : Nat} {U : Nat → Bu} (t : Int) : ∀ m, m < n → (∀ i, m < i → i < n → t < (U i).co) → ∃ p, Plc n U t p
  | 0, hm, h => ⟨0, hm, .inl rfl, h⟩
  | m + 1, hm, h => by
    by_cases e : (U (m + 1)).co ≤ t
    · exact ⟨m + 1, hm, .inr e, h⟩
    · refine plc_ex t m (by omega) (fun i h1 h2 => ?_)
      rcases Nat.lt_or_ge (m + 1) i with g | g
      · exact h i g h2
      · obtain rfl : i = m + 1 := by omega
        omega
theorem Plc.mono {n : Nat} {U : Nat → Bu} {s t : Int} {p q : Nat} (hs : ∀ i, i + 1 < n → (U i).co < (U (i + 1)).co) (hp : Plc n U s p) (hq : Plc n U t q) (h : s ≤ t) : p ≤ q := by
  by_cases e : p = 0
  · omega
  · have h1 := (hp.iff hs (i := p) (by omega) hp.lt).2 (Nat.le_refl p)
    exact (hq.iff hs (i := p) (by omega) hp.lt).1 (by omega)
theorem BuR.ends {n : Nat} {U : Nat → Bu} (h : BuR n U) {c0 c1 : Int} {p q : Nat} (g0 : c0 ≤ 1000) (g1 : -1000 ≤ c1) (g2 : c0 ≤ c1) (hp : Plc n U c0 p) (hq : Plc n U c1 q) : bnA U n c0 c1 n = (U p).lo ∧ bnB U n c0 c1 n = (U q).hi := by
  obtain ⟨a, b, c⟩ := bn_all h.ok h.hs g0 g1 g2 hp hq
  have := hq.lt
  rw [b, c, h.mn p (q - p) (by omega), h.mx p (q - p) (by omega), show p + (q - p) = q by omega]
  exact ⟨rfl, rfl⟩
theorem BuR.at {n : Nat} {U : Nat → Bu} (h : BuR n U) (h0 : 0 < n) {c0 c1 t : Int} {a : Nat} (g0 : c0 ≤ 1000) (g1 : -1000 ≤ c1) (t0 : c0 ≤ t) (t1 : t ≤ c1) (ha : Plc n U t a) : bnA U n c0 c1 n ≤ (U a).lo ∧ (U a).hi ≤ bnB U n c0 c1 n := by
  obtain ⟨p, hp⟩ := plc_ex (n := n) (U := U) c0 (n - 1) (by omega) (fun i h1 h2 => by omega)
  obtain ⟨q, hq⟩ := plc_ex (n := n) (U := U) c1 (n - 1) (by omega) (fun i h1 h2 => by omega)
  obtain ⟨e1, e2⟩ := h.ends g0 g1 (by omega) hp hq
  rw [e1, e2]
  exact ⟨h.lo' (Plc.mono h.hs hp ha t0) ha.lt, h.hi' (Plc.mono h.hs ha hq t1) hq.lt⟩
theorem BuR.less {n : Nat} {U : Nat → Bu} (h : BuR n U) (h0 : 0 < n) {c0 c1 k : Int} (g0 : -900 ≤ c0) (g1 : c1 ≤ 1000) (g2 : c0 ≤ c1) (k0 : 0 ≤ k) (k1 : k ≤ 99) : bnA U n (c0 - k) (c1 - k) n ≤ bnA U n c0 c1 n ∧ bnB U n (c0 - k) (c1 - k) n ≤ bnB U n c0 c1 n := by
  obtain ⟨p, hp⟩ := plc_ex (n := n) (U := U) c0 (n - 1) (by omega) (fun i h1 h2 => by omega)
  obtain ⟨q, hq⟩ := plc_ex (n := n) (U := U) c1 (n - 1) (by omega) (fun i h1 h2 => by omega)
  obtain ⟨p', hp'⟩ := plc_ex (n := n) (U := U) (c0 - k) (n - 1) (by omega) (fun i h1 h2 => by omega)
  obtain ⟨q', hq'⟩ := plc_ex (n := n) (U := U) (c1 - k) (n - 1) (by omega) (fun i h1 h2 => by omega)
  obtain ⟨e1, e2⟩ := h.ends (by omega) (by omega) g2 hp hq
  obtain ⟨e3, e4⟩ := h.ends (by omega) (by omega) (by omega) hp' hq'
  rw [e1, e2, e3, e4]
  exact ⟨h.lo' (Plc.mono h.hs hp' hp (by omega)) hp.lt, h.hi' (Plc.mono h.hs hq' hq (by omega)) hq.lt⟩
theorem dsum_le {f g : Nat → Int} : ∀ m, (∀ i, i < m → f i ≤ g i) → sumT f m ≤ sumT g m
  | 0, _ => Int.le_refl _
  | m + 1, h => by
    have a := dsum_le m (fun i hi => h i (by omega))
    have b := h m (by omega)
    unfold sumT
    omega
theorem dsum_congr {f g : Nat → Int} (m : Nat) (h : ∀ i, i < m → f i = g i) : sumT f m = sumT g m :=
  Int.le_antisymm (dsum_le m (fun i hi => Int.le_of_eq (h i hi))) (dsum_le m (fun i hi => Int.le_of_eq (h i hi).symm))
theorem DayN.more {m : Nat} {l l' : Int} {f g : Nat → Int} {d d' : Nat} (h : DayN m l f d) (h' : DayN m l' g d') (hl : l ≤ l') (hfg : ∀ i, i < m → g i ≤ f i) : d ≤ d' := by
  rcases Nat.lt_or_ge d' d with hlt | hge
  · have h1 := h.le
    have a := h'.no (by omega)
    have b := h.ok d' hlt
    have c := dsum_le (f := g) (g := f) (d' + 1) (fun i hi => hfg i (by omega))
    omega
  · exact hge
theorem DayN.zero (l : Int) (f : Nat → Int) : DayN 0 l f 0 := ⟨Nat.le_refl _, fun j hj => by omega, fun h => by omega⟩
theorem DayN.step {m : Nat} {l : Int} {f : Nat → Int} {d : Nat} (h : DayN m l f d) {x : Int} (h0 : ∀ i, i < m → 0 ≤ f i) (x0 : 0 ≤ x) :
    sumT (fun i => if i = m then x else f i) (m + 1) = sumT f m + x ∧ DayN (m + 1) l (fun i => if i = m then x else f i) (if 0 ≤ l - (sumT f m + x) then m + 1 else d) := by
  have e : ∀ k, k ≤ m → sumT (fun i => if i = m then x else f i) k = sumT f k := fun k hk => dsum_congr k (fun i hi => if_neg (by omega))
  have e1 : sumT (fun i => if i = m then x else f i) (m + 1) = sumT f m + x := by
    show sumT (fun i => if i = m then x else f i) m + (if m = m then x else f m) = _
    rw [e m (Nat.le_refl _), if_pos rfl]
  refine ⟨e1, ?_⟩
  have hle := h.le
  by_cases g : 0 ≤ l - (sumT f m + x)
  · rw [if_pos g]
    refine ⟨Nat.le_refl _, fun j hj => ?_, fun h => by omega⟩
    rcases Nat.lt_or_ge j m with hjm | hjm
    · rw [e (j + 1) (by omega)]
      have := sumT_mono f m h0 m (Nat.le_refl _) (j + 1) (by omega)
      omega
    · obtain rfl : j = m := by omega
      rw [e1]; omega
  · rw [if_neg g]
    refine ⟨by omega, fun j hj => ?_, fun hd => ?_⟩
    · rw [e (j + 1) (by omega)]
      exact h.ok j hj
    · rcases Nat.lt_or_ge d m with hdm | hdm
      · rw [e (d + 1) (by omega)]
        exact h.no hdm
      · obtain rfl : d = m := by omega
        rw [e1]; omega
end Go.Proofs.Ytegdflikeoiaaaa

namespace Go.Proofs.Ytegdflikeoiaaaa
open Go.RowKit

def CdOk (n : Nat) (C D : Nat → Int) : Prop := ∀ i, i < n → -150 ≤ C i ∧ C i ≤ D i ∧ D i ≤ 350
theorem CdOk.more {j : Nat} {A B : Nat → Int} (h : CdOk j A B) {x y : Int} (h0 : -150 ≤ x) (h1 : x ≤ y) (h2 : y ≤ 350) : CdOk (j + 1) (upF A j x) (upF B j y) := by
  intro i hi
  unfold upF
  by_cases e : i = j
  · rw [if_pos e, if_pos e]; exact ⟨h0, h1, h2⟩
  · rw [if_neg e, if_neg e]; exact h i (by omega)
set_option maxRecDepth 100000 in
set_option maxHeartbeats 2000000 in
theorem colds12_in (bs : Nat) (w : World) (hs : SeedAt bs w) :
    Calls Try.prog 46 #[.pointer (some ⟨bs, 0, none⟩), .int .i64 12] w fun e w' => ∃ v n C D, e = .returned v ∧ n ≤ 12 ∧ CdOk n C D ∧ w'.ownsRow w.heap.size 26 2 v n (catC (spC C D) n) ∧ Drawn bs w w' := by
  have hbs : bs < w.heap.size := hs.choose_spec.lt
  obtain ⟨i0, hi0, hz0, hz1, hz2⟩ := info_parts Try.infoSpan
  have hD := Drawn.refl hs
  have e1 : IntKind.i64.wrap ((12 : Int) + 1) = 13 := by decide
  go_enter Try.func46, Try.ntmps46
  go_wp2_with fail
  refine (below_in 13 bs _ hD.seed (by omega)).mono ?_
  rintro e w1 ⟨c, rfl, c0, c1, hd⟩
  replace hD := hD.trans hd
  have c2 : c ≤ 12 := by omega
  clear hd c1
  obtain ⟨k, rfl⟩ : ∃ k : Nat, c = k := ⟨c.toNat, by omega⟩
  clear c0
  have jR : w1.ownsRow w.heap.size 26 2 (.slice none 0 0) 0 (catC (spC (fun _ => 0) (fun _ => 0)) 0) := World.ownsRow_nil _ _ _ _
  go_wp2_with fail
  go_loopw [5, 6] (fun l i wr => ∃ k j : Nat, ∃ A B, k + j ≤ 12 ∧ CdOk j A B ∧ i = .int .i64 k ∧ wr.ownsRow w.heap.size 26 2 l j (catC (spC A B) j) ∧ Drawn bs w wr) (fun _ i _ => (intOf i).toNat)
  case atStart => exact ⟨k, 0, fun _ => 0, fun _ => 0, by omega, fun i hi => by omega, rfl, jR, hD⟩
  case round =>
    clear jR hD c2
    obtain ⟨k, j, A, B, hkj, hok, rfl, jR, hD⟩ := hrel
    by_cases h0 : k = 0
    · subst h0
      go_wp2
      go_ret
      exact ⟨_, j, A, B, rfl, by omega, hok, jR, hD⟩
    · have e2 : (0 : Int) < k := by omega
      have e3 : IntKind.i64.wrap ((k : Int) - 1) = ((k - 1 : Nat) : Int) := by rw [show (k : Int) - 1 = ((k - 1 : Nat) : Int) by omega]; exact IntWalk.i64_in _ (by omega)
      go_wp2_with fail
      refine (kspan_in (-150) 350 bs _ hD.seed (by omega) (by omega) (by omega)).mono ?_
      rintro e w2 ⟨x, y, rfl, hx0, hx1, hx2, hd⟩
      have hok2 := Lib.hid (hok.more hx0 hx1 hx2)
      clear hok
      replace jR := hd.row jR hbs
      replace hD := hD.trans hd
      clear hd
      have H1 := Lib.hid (cat_up A B j x y)
      have zW := hD.2.size
      have hr : ∀ z, u5.ownBlock = some z → w.heap.size ≤ z := fun z e => (jR.lt z e).1
      go_wp2_with (at_builtin; refine wpList_append_own_at _ rfl _ _ 33 rfl w.heap.size 26 i0 (.agg #[.int .i64 0, .int .i64 0]) 2 16 Try.underlying33 hi0 hz0 hz1 hz2 rfl (by decide) _ _ _ rfl (jR.alloc _) ⟨w2.heap.size, 0, none⟩ 1 1 [.int .i64 x, .int .i64 y] rfl rfl (newsN _ _ _) (one2 _ _) (by unfold maxLen; omega) (by omega) (by simp; omega) ?_; intro v' w9 hown' hgrow _ _; rw [← H1.out] at hown'; have kD := (hD.new (.cells #[.int .i64 x, .int .i64 y] 26)).grown hgrow hr hbs)
      clear hgrow jR hD hr
      go_roundw
      case rel => exact ⟨k - 1, j + 1, upF A j x, upF B j y, by omega, hok2.out, rfl, hown', kD⟩
      case measure => simp [intOf]; omega
end Go.Proofs.Ytegdflikeoiaaaa

namespace Go.Proofs.Ytegdflikeoiaaaa
open Go.RowKit

structure BuS (j : Nat) (B : Nat → Bu) (x : Int) : Prop where
  h : ∀ i, i < j → -100 ≤ (B i).co ∧ (B i).co < x ∧ 0 ≤ (B i).lo ∧ (B i).lo ≤ (B i).hi ∧ (B i).hi ≤ 60
  xb : -100 ≤ x ∧ x ≤ 100 + 80 * (j : Int)
  hs : ∀ i, i + 1 < j → (B i).co < (B (i + 1)).co
  ls : ∀ i, i + 1 < j → (B i).lo ≤ (B (i + 1)).lo
  us : ∀ i, i + 1 < j → (B i).hi ≤ (B (i + 1)).hi
theorem BuS.more {j : Nat} {B : Nat → Bu} {x lo hi : Int} (s : BuS j B x) (h0 : 0 ≤ lo) (h1 : lo ≤ hi) (h2 : hi ≤ 60) (hp : ∀ r, j = r + 1 → (B r).lo ≤ lo ∧ (B r).hi ≤ hi) (x' : Int) (hx : x < x') (hx' : x' ≤ x + 80) : BuS (j + 1) (upB B j ⟨x, lo, hi⟩) x' := by
  have xb := s.xb
  refine ⟨fun i hi => ?_, ⟨by omega, by omega⟩, fun i hi => ?_, fun i hi => ?_, fun i hi => ?_⟩
  · unfold upB
    by_cases e : i = j
    · rw [if_pos e]; exact ⟨xb.1, hx, h0, h1, h2⟩
    · rw [if_neg e]; have := s.h i (by omega); omega
  · unfold upB
    by_cases e : i + 1 = j
    · rw [if_pos e, if_neg (by omega)]; exact (s.h i (by omega)).2.1
    · rw [if_neg e, if_neg (by omega)]; exact s.hs i (by omega)
  · unfold upB
    by_cases e : i + 1 = j
    · rw [if_pos e, if_neg (by omega)]; exact (hp i e.symm).1
    · rw [if_neg e, if_neg (by omega)]; exact s.ls i (by omega)
  · unfold upB
    by_cases e : i + 1 = j
    · rw [if_pos e, if_neg (by omega)]; exact (hp i e.symm).2
    · rw [if_neg e, if_neg (by omega)]; exact s.us i (by omega)
theorem BuS.r {j : Nat} {B : Nat → Bu} {x : Int} (s : BuS j B x) (hj : j ≤ 4) : BuR j B :=
  ⟨fun i hi => by have := s.h i hi; have := s.xb; omega, fun i hi => by have := s.h i hi; have := s.xb; omega, s.hs, fun i hi => (s.h i hi).2.2.2.1, s.ls, s.us⟩
theorem row_bu {W : World} {base g n c : Nat} {B : Nat → Bu} (h : W.ownsRow base 127 3 (.slice (some ⟨g, 0, none⟩) n c) n (catC (buC B) n)) {i : Nat} (hi : i < n) : W.cell? ⟨g, i * 3, none⟩ = some (.int .i64 (B i).co) ∧ W.cell? ⟨g, i * 3 + 1, none⟩ = some (.int .i64 (B i).lo) ∧ W.cell? ⟨g, i * 3 + 2, none⟩ = some (.int .i64 (B i).hi) := by
  refine ⟨?_, ?_, ?_⟩
  · rw [h.cellAt (i * 3) (by omega)]
    exact catC_at (buC B) 3 i 0 (by omega) n (fun _ _ => rfl) hi
  · rw [h.cellAt (i * 3 + 1) (by omega)]
    exact catC_at (buC B) 3 i 1 (by omega) n (fun _ _ => rfl) hi
  · rw [h.cellAt (i * 3 + 2) (by omega)]
    exact catC_at (buC B) 3 i 2 (by omega) n (fun _ _ => rfl) hi
set_option maxRecDepth 100000 in
set_option maxHeartbeats 4000000 in
theorem burnup_in (bs : Nat) (w : World) (hs : SeedAt bs w) :
    Calls Try.prog 45 #[.pointer (some ⟨bs, 0, none⟩), .bool true] w fun e w' => ∃ v n B, e = .returned v ∧ 0 < n ∧ n ≤ 4 ∧ BuR n B ∧ w'.ownsRow w.heap.size 127 3 v n (catC (buC B) n) ∧ Drawn bs w w' := by
  have hbs : bs < w.heap.size := hs.choose_spec.lt
  obtain ⟨i0, hi0, hz0, hz1, hz2⟩ := info_parts Try.infoBurn
  have hD := Drawn.refl hs
  go_enter Try.func45, Try.ntmps45
  go_wp2_with fail
  refine (from_in (-100) 100 bs _ hD.seed (by omega) (by omega) (by omega) (by omega)).mono ?_
  rintro e w1 ⟨x, rfl, hx0, hx1, hd⟩
  replace hD := hD.trans hd
  clear hd
  go_wp2_with fail
  refine (from_in 1 4 bs _ hD.seed (by omega) (by omega) (by omega) (by omega)).mono ?_
  rintro e w1 ⟨c, rfl, c0, c1, hd⟩
  replace hD := hD.trans hd
  have c2 : c ≤ 4 := by omega
  clear hd c1
  obtain ⟨k, rfl⟩ : ∃ k : Nat, c = k := ⟨c.toNat, by omega⟩
  have jR : w1.ownsRow w.heap.size 127 3 (.slice none 0 0) 0 (catC (buC (fun _ => ⟨0, 0, 0⟩)) 0) := World.ownsRow_nil _ _ _ _
  have hS0 : BuS 0 (fun _ => ⟨0, 0, 0⟩) x := ⟨fun i hi => by omega, ⟨hx0, by omega⟩, fun i hi => by omega, fun i hi => by omega, fun i hi => by omega⟩
  go_wp2_with fail
  go_loopw [5, 6, 7] (fun l s6 i wr => ∃ k j : Nat, ∃ B x, k + j ≤ 4 ∧ 1 ≤ k + j ∧ BuS j B x ∧ i = .int .i64 k ∧ s6 = .int .i64 x ∧ wr.ownsRow w.heap.size 127 3 l j (catC (buC B) j) ∧ Drawn bs w wr) (fun _ _ i _ => (intOf i).toNat)
  case atStart => exact ⟨k, 0, fun _ => ⟨0, 0, 0⟩, x, by omega, by omega, hS0, rfl, rfl, jR, hD⟩
  case round =>
    clear jR hD c2 c0 hx0 hx1 hS0
    obtain ⟨k, j, B, x, hkj, hkj1, hS, rfl, rfl, jR, hD⟩ := hrel
    by_cases h0 : k = 0
    · subst h0
      have hR := Lib.hid (hS.r (by omega))
      clear hS
      go_wp2
      go_ret
      exact ⟨_, j, B, rfl, by omega, by omega, hR.out, jR, hD⟩
    · have e2 : (0 : Int) < k := by omega
      have e3 : IntKind.i64.wrap ((k : Int) - 1) = ((k - 1 : Nat) : Int) := by rw [show (k : Int) - 1 = ((k - 1 : Nat) : Int) by omega]; exact IntWalk.i64_in _ (by omega)
      go_wp2_with fail
      refine (kspan_in 0 60 bs _ hD.seed (by omega) (by omega) (by omega)).mono ?_
      rintro e w2 ⟨lo, hi, rfl, hl0, hl1, hl2, hd⟩
      replace jR := hd.row jR hbs
      replace hD := hD.trans hd
      clear hd
      have jX := Blk.new w2 #[.int .i64 x, .int .i64 lo, .int .i64 hi] 127
      have zW := hD.2.size
      have jR0 := jR
      replace jR := jR.alloc (.cells #[.int .i64 x, .int .i64 lo, .int .i64 hi] 127)
      replace hD := hD.new (.cells #[.int .i64 x, .int .i64 lo, .int .i64 hi] 127)
      have xb := hS.xb
      by_cases hj0 : j = 0
      · subst hj0
        clear jR0
        have hok2 := Lib.hid (fun (x' : Int) (g1 : x < x') (g2 : x' ≤ x + 80) => hS.more hl0 hl1 hl2 (fun r hr => by omega) x' g1 g2)
        clear hS
        obtain ⟨al, cl, hl, -, -, -⟩ := row_at jR (by omega)
        subst hl
        have e0 : decide ((0 : Int) < 0) = false := by decide
        go_upto_region 10 with fail
        generalize w2.alloc (.cells #[.int .i64 x, .int .i64 lo, .int .i64 hi] 127) = V at jX jR hD ⊢
        obtain ⟨bA, hbA⟩ : ∃ b, w2.heap.size = b := ⟨_, rfl⟩
        rw [hbA] at jX zW ⊢
        clear hbA
        obtain ⟨c0, c1⟩ : V.cell? ⟨bA, 0, none⟩ = some (.int .i64 x) ∧ V.cell? ⟨bA, 1, none⟩ = some (.int .i64 lo) := ⟨jX.cell 0 rfl, jX.cell 1 rfl⟩
        have c2 : V.cell? ⟨bA, 2, none⟩ = some (.int .i64 hi) := jX.cell 2 rfl
        have zA := jX.lt
        have zV := hD.2.size
        have H1 := Lib.hid (cat_upB B 0 ⟨x, lo, hi⟩)
        have hr : ∀ z, (Value.slice al 0 cl).ownBlock = some z → w.heap.size ≤ z := fun z e => (jR.lt z e).1
        go_wp2_with (at_builtin; refine wpList_append_own_at _ rfl _ _ 73 rfl w.heap.size 127 i0 (.agg #[.int .i64 0, .int .i64 0, .int .i64 0]) 3 24 Try.underlying73 hi0 hz0 hz1 hz2 rfl (by decide) _ _ _ rfl (jR.alloc _) ⟨V.heap.size, 0, none⟩ 1 1 [.int .i64 x, .int .i64 lo, .int .i64 hi] rfl rfl (newsN _ _ _) (one3 _ _ _) (by unfold maxLen; omega) (by omega) (by simp; omega) ?_; intro v' w9 hown' hgrow _ _; rw [← H1.out] at hown'; have kD := (hD.new (.cells #[.int .i64 x, .int .i64 lo, .int .i64 hi] 127)).grown hgrow hr hbs)
        clear hgrow jR hD hr jX c0 c1 c2
        refine (from_in 1 80 bs _ kD.seed (by omega) (by omega) (by omega) (by omega)).mono ?_
        rintro e w10 ⟨y, rfl, hy0, hy1, hd⟩
        replace hown' := hd.row hown' hbs
        replace kD := kD.trans hd
        clear hd
        have e5 : IntKind.i64.wrap (x + y) = x + y := IntWalk.i64_in _ (by omega)
        go_wp2
        go_roundw
        case rel => exact ⟨k - 1, 0 + 1, upB B 0 ⟨x, lo, hi⟩, _, by omega, by omega, hok2.out (x + y) (by omega) (by omega), rfl, rfl, hown', kD⟩
        case measure => simp [intOf]; omega
      · obtain ⟨r, rfl⟩ : ∃ r, j = r + 1 := ⟨j - 1, by omega⟩
        obtain ⟨u, hu⟩ : ∃ z, (B r).lo = z := ⟨_, rfl⟩
        obtain ⟨u2, hu2⟩ : ∃ z, (B r).hi = z := ⟨_, rfl⟩
        have hBr := hS.h r (by omega)
        rw [hu, hu2] at hBr
        have hok2 := Lib.hid (fun (x' : Int) (g1 : x < x') (g2 : x' ≤ x + 80) => hS.more (lo := max lo u) (hi := (if (if lo < hi then hi else lo) < u2 then u2 else if lo < hi then hi else lo)) (by omega) (by omega) (by omega) (fun r' hr => by
          obtain rfl : r' = r := by omega
          rw [hu, hu2]; omega) x' g1 g2)
        clear hS
        obtain ⟨g, cl, hl, -, zG⟩ := jR0.form (by omega)
        subst hl
        clear jR0
        have HC := Lib.hid (fun (W : World) (h : W.ownsRow w.heap.size 127 3 (.slice (some ⟨g, 0, none⟩) (r + 1) cl) (r + 1) (catC (buC B) (r + 1))) => (show W.cell? ⟨g, r * 3 + 1, none⟩ = some (.int .i64 u) ∧ W.cell? ⟨g, r * 3 + 2, none⟩ = some (.int .i64 u2) from by have := row_bu h (Nat.lt_succ_self r); rw [hu, hu2] at this; exact this.2))
        clear hu hu2
        have e0 : decide ((0 : Int) < ((r + 1 : Nat) : Int)) = true := decide_eq_true (by omega)
        have e0' : decide ((0 : Int) < (r : Int) + 1) = true := decide_eq_true (by omega)
        have e6 : IntKind.i64.wrap (r : Int) = (r : Int) := IntWalk.i64_in _ (by omega)
        have e7 : (r : Int) < (r : Int) + 1 := by omega
        have e8 : r < r + 1 := by omega
        have e9 : (0 : Int) < (r : Int) + 1 := by omega
        go_upto_region 9 with fail
        generalize w2.alloc (.cells #[.int .i64 x, .int .i64 lo, .int .i64 hi] 127) = V at jX jR hD ⊢
        obtain ⟨bA, hbA⟩ : ∃ b, w2.heap.size = b := ⟨_, rfl⟩
        rw [hbA] at jX zW zG ⊢
        clear hbA
        (
 refine region_phs (P1 := (fun W => Blk W bA #[.int .i64 x, .int .i64 lo, .int .i64 hi] 127)) (N1 := 27) (P2 := (fun _ => True)) (N2 := 27) (S2 := (fun W => W.ownsRow w.heap.size 127 3 (.slice (some ⟨g, 0, none⟩) (r + 1) cl) (r + 1) (catC (buC B) (r + 1)) ∧ Drawn bs w W)) (by kernel_rfl) ?_ (fun hH => ?_)
 · (try dsimp only); (exact ⟨jX.drew, trivial, jR.drew, hD.trans (Drawn.drew hD.seed)⟩)
 (try dsimp only at hH)
 refine tkX 0 (some 29) ?_ phC (ph0 hH) ?_ ?_
 rotate_left
 · intro w hS0; (try dsimp only at hS0); obtain ⟨rB, _⟩ := hS0; obtain ⟨g1, g2⟩ := HC.out _ rB; have yB := World.block_lt_of_cell? _ _ g1;go_simp; (try with_reducible rfl)
 (try simp only [cq])
 refine tkX 1 (some 30) ?_ phC (ph0 hH) ?_ ?_
 rotate_left
 · intro w hS0; (try dsimp only at hS0); obtain ⟨rB, _⟩ := hS0; obtain ⟨g1, g2⟩ := HC.out _ rB; have yB := World.block_lt_of_cell? _ _ g1;go_simp; (try with_reducible rfl)
 (try simp only [cq])
 refine tkX 2 (some 31) ?_ (phA (by kernel_rfl) (by kernel_rfl)) (ph0 hH) ?_ ?_
 rotate_left
 · intro w hS0; (try dsimp only at hS0); obtain ⟨kX, _, _⟩ := hS0; have c0 := kX.cell 0 rfl; have c1 := kX.cell 1 rfl; have c2 := kX.cell 2 rfl; have yX := kX.lt;go_simp; (try with_reducible rfl)
 (try simp only [cq])
 refine tkX 3 (some 32) ?_ phC (ph0 hH) ?_ ?_
 rotate_left
 · intro w _; go_simp; (try with_reducible rfl)
 (try simp only [cq])
 refine tkX 4 (some 33) ?_ phC (ph0 hH) ?_ ?_
 rotate_left
 · intro w _; go_simp; (try with_reducible rfl)
 (try simp only [cq])
 refine tkX 5 (some 34) ?_ phC (ph0 hH) ?_ ?_
 rotate_left
 · intro w _; go_simp; (try with_reducible rfl)
 (try simp only [cq])
 refine tkX 6 (some 35) ?_ phC (ph0 hH) ?_ ?_
 rotate_left
 · intro w hS0; (try dsimp only at hS0); obtain ⟨rB, _⟩ := hS0; obtain ⟨g1, g2⟩ := HC.out _ rB; have yB := World.block_lt_of_cell? _ _ g1;go_simp; (try with_reducible rfl)
 (try simp only [cq])
 refine tkX 7 (some 36) ?_ phC (ph0 hH) ?_ ?_
 rotate_left
 · intro w hS0; (try dsimp only at hS0); obtain ⟨rB, _⟩ := hS0; obtain ⟨g1, g2⟩ := HC.out _ rB; have yB := World.block_lt_of_cell? _ _ g1;go_simp; (try with_reducible rfl)
 (try simp only [cq])
 refine tkX 8 (some 37) ?_ phC (ph0 hH) ?_ ?_
 rotate_left
 · intro w hS0; (try dsimp only at hS0); obtain ⟨rB, _⟩ := hS0; obtain ⟨g1, g2⟩ := HC.out _ rB; have yB := World.block_lt_of_cell? _ _ g1;go_simp; (try with_reducible rfl)
 (try simp only [cq])
 refine tkX 9 (some 38) ?_ phC (ph0 hH) ?_ ?_
 rotate_left
 · intro w hS0; (try dsimp only at hS0); obtain ⟨rB, _⟩ := hS0; obtain ⟨g1, g2⟩ := HC.out _ rB; have yB := World.block_lt_of_cell? _ _ g1;go_simp; (try with_reducible rfl)
 (try simp only [cq])
 refine tkX 10 (some 39) ?_ phC (ph0 hH) ?_ ?_
 rotate_left
 · intro w hS0; (try dsimp only at hS0); obtain ⟨rB, _⟩ := hS0; obtain ⟨g1, g2⟩ := HC.out _ rB; have yB := World.block_lt_of_cell? _ _ g1;go_simp; (try with_reducible rfl)
 (try simp only [cq])
 refine tkX 11 (some 40) ?_ phC (ph0 hH) ?_ ?_
 rotate_left
 · intro w hS0; (try dsimp only at hS0); obtain ⟨rB, _⟩ := hS0; obtain ⟨g1, g2⟩ := HC.out _ rB; have yB := World.block_lt_of_cell? _ _ g1;go_simp; (try with_reducible rfl)
 (try simp only [cq])
 refine tkX 12 (some 41) ?_ phC (ph0 hH) ?_ ?_
 rotate_left
 · intro w hS0; (try dsimp only at hS0); obtain ⟨rB, _⟩ := hS0; obtain ⟨g1, g2⟩ := HC.out _ rB; have yB := World.block_lt_of_cell? _ _ g1;go_simp; (try with_reducible rfl)
 (try simp only [cq])
 refine tkX 13 (some 42) ?_ (phA (by kernel_rfl) (by kernel_rfl)) (ph0 hH) ?_ ?_
 rotate_left
 · intro w hS0; (try dsimp only at hS0); obtain ⟨kX, _, _⟩ := hS0; have c0 := kX.cell 0 rfl; have c1 := kX.cell 1 rfl; have c2 := kX.cell 2 rfl; have yX := kX.lt;go_simp; (try with_reducible rfl)
 (try simp only [cq])
 refine tkX 14 (some 43) ?_ phC (ph0 hH) ?_ ?_
 rotate_left
 · intro w hS0; (try dsimp only at hS0); obtain ⟨rB, _⟩ := hS0; obtain ⟨g1, g2⟩ := HC.out _ rB; have yB := World.block_lt_of_cell? _ _ g1;go_simp; (try with_reducible rfl)
 (try simp only [cq])
 refine tkX 15 (some 44) ?_ phC (ph0 hH) ?_ ?_
 rotate_left
 · intro w hS0; (try dsimp only at hS0); obtain ⟨rB, _⟩ := hS0; obtain ⟨g1, g2⟩ := HC.out _ rB; have yB := World.block_lt_of_cell? _ _ g1;go_simp; (try with_reducible rfl)
 (try simp only [cq])
 refine tkX 16 (some 45) ?_ (phA (by kernel_rfl) (by kernel_rfl)) (ph0 hH) ?_ ?_
 rotate_left
 · intro w hS0; (try dsimp only at hS0); obtain ⟨kX, _, _⟩ := hS0; have c0 := kX.cell 0 rfl; have c1 := kX.cell 1 rfl; have c2 := kX.cell 2 rfl; have yX := kX.lt;go_simp; (try with_reducible rfl)
 (try simp only [cq])
 refine tkX 17 (some 46) ?_ phC (ph0 hH) ?_ ?_
 rotate_left
 · intro w _; go_simp; (try with_reducible rfl)
 (try simp only [cq])
 refine tkX 18 (some 47) ?_ phC (ph0 hH) ?_ ?_
 rotate_left
 · intro w _; go_simp; (try with_reducible rfl)
 (try simp only [cq])
 refine tkX 19 (some 48) ?_ phC (ph0 hH) ?_ ?_
 rotate_left
 · intro w _; go_simp; (try with_reducible rfl)
 (try simp only [cq])
 refine tkX 20 (some 49) ?_ phC (ph0 hH) ?_ ?_
 rotate_left
 · intro w hS0; (try dsimp only at hS0); obtain ⟨rB, _⟩ := hS0; obtain ⟨g1, g2⟩ := HC.out _ rB; have yB := World.block_lt_of_cell? _ _ g1;go_simp; (try with_reducible rfl)
 (try simp only [cq])
 refine tkX 21 (some 50) ?_ phC (ph0 hH) ?_ ?_
 rotate_left
 · intro w hS0; (try dsimp only at hS0); obtain ⟨rB, _⟩ := hS0; obtain ⟨g1, g2⟩ := HC.out _ rB; have yB := World.block_lt_of_cell? _ _ g1;go_simp; (try with_reducible rfl)
 (try simp only [cq])
 refine tkX 22 (some 51) ?_ phC (ph0 hH) ?_ ?_
 rotate_left
 · intro w hS0; (try dsimp only at hS0); obtain ⟨rB, _⟩ := hS0; obtain ⟨g1, g2⟩ := HC.out _ rB; have yB := World.block_lt_of_cell? _ _ g1;go_simp; (try with_reducible rfl)
 (try simp only [cq])
 refine tkX 23 (some 52) ?_ phC (ph0 hH) ?_ ?_
 rotate_left
 · intro w hS0; (try dsimp only at hS0); obtain ⟨rB, _⟩ := hS0; obtain ⟨g1, g2⟩ := HC.out _ rB; have yB := World.block_lt_of_cell? _ _ g1;go_simp; (try with_reducible rfl)
 (try simp only [cq])
 refine tkX 24 (some 53) ?_ phC (ph0 hH) ?_ ?_
 rotate_left
 · intro w hS0; (try dsimp only at hS0); obtain ⟨rB, _⟩ := hS0; obtain ⟨g1, g2⟩ := HC.out _ rB; have yB := World.block_lt_of_cell? _ _ g1;go_simp; (try with_reducible rfl)
 (try simp only [cq])
 refine tkX 25 (some 54) ?_ phC (ph0 hH) ?_ ?_
 rotate_left
 · intro w _; go_simp; (try with_reducible rfl)
 (try simp only [cq])
 refine tkX 26 (some 55) ?_ phC (ph0 hH) ?_ ?_
 rotate_left
 · intro w hS0; (try dsimp only at hS0); obtain ⟨rB, _⟩ := hS0; obtain ⟨g1, g2⟩ := HC.out _ rB; have yB := World.block_lt_of_cell? _ _ g1;go_simp; (try with_reducible rfl)
 (try simp only [cq])
 refine wpAnyP_ready (rs := [27]) (by kernel_rfl) (by simp) ?_
 refine arcP2 none (fun K hK => ?_) AllReadyP.nil
 obtain ⟨W0, hW0⟩ : ∃ W, Blk.wld hH.1 = W := ⟨_, rfl⟩
 simp only [Blk.wld] at hW0
 rw [hW0] at hH ⊢
 clear hW0
 obtain ⟨kX, _, rB, kD⟩ := hH
 have c0 := kX.cell 0 rfl
 have c1 := kX.cell 1 rfl
 have c2 := kX.cell 2 rfl
 have f1 := kX.free 1
 have f2 := kX.free 2
 have zX := kX.lt
 have HS := Lib.hid ((kX.set 1 (.int .i64 (max lo u))).set 2 (.int .i64 (if (if lo < hi then hi else lo) < u2 then u2 else if lo < hi then hi else lo)))
 have HS2 := Lib.hid (And.intro (row_store (row_store rB (b := bA) (o := 1) (u := .int .i64 (max lo u)) (fun e => by have := Option.some.inj (show some g = some bA from e); omega)) (b := bA) (o := 2) (u := .int .i64 (if (if lo < hi then hi else lo) < u2 then u2 else if lo < hi then hi else lo)) (fun e => by have := Option.some.inj (show some g = some bA from e); omega)) ((kD.set (p := ⟨bA, 1, none⟩) (by show _ ≤ bA; omega) hbs (.int .i64 (max lo u))).set (p := ⟨bA, 2, none⟩) (by show _ ≤ bA; omega) hbs (.int .i64 (if (if lo < hi then hi else lo) < u2 then u2 else if lo < hi then hi else lo))))
 go_simp
 refine hK.out _ _ ?_ ?_
 · (try dsimp only); exact HS2.out
 (try clear hH)
 intro hH
 (try dsimp only at hH)
 clear hK K
 (try simp only [cq])
 refine wpAnyP_done (by kernel_rfl) ?_ _
 (try dsimp only [Act.put])
 (try simp only [cq])
 clear jX jR hD c0 c1 c2 f1 f2 zX kX rB kD
 have jX := HS.out
 obtain ⟨jR, hD⟩ := HS2.out
 clear HS HS2 hH
 obtain ⟨hz, hITE⟩ : ∃ z, (if (if lo < hi then hi else lo) < u2 then u2 else if lo < hi then hi else lo) = z := ⟨_, rfl⟩
 rw [hITE] at jX jR hD hok2 ⊢
 clear hITE
 go_upto_region 10 with fail
 obtain ⟨V, hV⟩ : ∃ W, Blk.wld jX = W := ⟨_, rfl⟩
 simp only [Blk.wld] at hV
 rw [hV] at jX jR hD ⊢
 clear hV
 obtain ⟨c0, c1⟩ : V.cell? ⟨bA, 0, none⟩ = some (.int .i64 x) ∧ V.cell? ⟨bA, 1, none⟩ = some (.int .i64 (max lo u)) := ⟨jX.cell 0 rfl, jX.cell 1 rfl⟩
 have c2 : V.cell? ⟨bA, 2, none⟩ = some (.int .i64 hz) := jX.cell 2 rfl
 have zA := jX.lt
 have zV := hD.2.size
 have H1 := Lib.hid (cat_upB B (r + 1) ⟨x, (max lo u), hz⟩)
 have hr : ∀ z, (Value.slice (some ⟨g, 0, none⟩) (r + 1) cl).ownBlock = some z → w.heap.size ≤ z := fun z e => (jR.lt z e).1
 go_wp2_with (at_builtin; refine wpList_append_own_at _ rfl _ _ 73 rfl w.heap.size 127 i0 (.agg #[.int .i64 0, .int .i64 0, .int .i64 0]) 3 24 Try.underlying73 hi0 hz0 hz1 hz2 rfl (by decide) _ _ _ rfl (jR.alloc _) ⟨V.heap.size, 0, none⟩ 1 1 [.int .i64 x, .int .i64 (max lo u), .int .i64 hz] rfl rfl (newsN _ _ _) (one3 _ _ _) (by unfold maxLen; omega) (by omega) (by simp; omega) ?_; intro v' w9 hown' hgrow _ _; rw [← H1.out] at hown'; have kD := (hD.new (.cells #[.int .i64 x, .int .i64 (max lo u), .int .i64 hz] 127)).grown hgrow hr hbs)
 clear hgrow jR hD hr jX c0 c1 c2
 refine (from_in 1 80 bs _ kD.seed (by omega) (by omega) (by omega) (by omega)).mono ?_
 rintro e w10 ⟨y, rfl, hy0, hy1, hd⟩
 replace hown' := hd.row hown' hbs
 replace kD := kD.trans hd
 clear hd
 have e5 : IntKind.i64.wrap (x + y) = x + y := IntWalk.i64_in _ (by omega)
 go_wp2
 go_roundw
 case rel => exact ⟨k - 1, (r + 1) + 1, upB B (r + 1) ⟨x, (max lo u), hz⟩, _, by omega, by omega, hok2.out (x + y) (by omega) (by omega), rfl, rfl, hown', kD⟩
 case measure => simp [intOf]; omega )
end Go.Proofs.Ytegdflikeoiaaaa
