/-
  days (package fuel): on how many days litres are enough.
-/
import Derived.Test.YtegdflikeoiaaaaTail
import Derived.Test.YtegdflikeoiaaaaBrn
import Derived.Test.YtegdflikeoiaaaaHoff
set_option linter.unusedVariables false
set_option linter.unusedSimpArgs false
namespace Go.Proofs.Ytegdflikeoiaaaa
open Go.RowKit

structure DayN (n : Nat) (l : Int) (f : Nat → Int) (d : Nat) : Prop where
  le : d ≤ n
  ok : ∀ j, j < d → sumT f (j + 1) ≤ l
  no : d < n → l < sumT f (d + 1)
theorem sumT_mono (f : Nat → Int) (n : Nat) (h : ∀ i, i < n → 0 ≤ f i) : ∀ m, m ≤ n → ∀ k, k ≤ m → sumT f k ≤ sumT f m
  | 0, _, k, hk => by rw [Nat.le_zero.1 hk]; exact Int.le_refl _
  | m + 1, hm, k, hk => by
    by_cases e : k = m + 1
    · rw [e]; exact Int.le_refl _
    · have := sumT_mono f n h m (by omega) k (by omega)
      have q := h m (by omega)
      show sumT f k ≤ sumT f m + f m
      omega
theorem DayN.uniq {n : Nat} {l : Int} {f : Nat → Int} {d e : Nat} (h : ∀ i, i < n → 0 ≤ f i) (hd : DayN n l f d) (he : DayN n l f e) : d = e := by
  have key : ∀ a b, DayN n l f a → DayN n l f b → ¬ a < b := by
    intro a b ha hb hab
    have h1 := hb.ok a hab
    have h2 := ha.no (by have := hb.le; omega)
    omega
  have := key d e hd he
  have := key e d he hd
  omega

set_option maxRecDepth 100000 in
theorem clo_hi (n : Nat) (U : Nat → Bu) (c0 c1 : Int) (bp b o cap : Nat) (hn : n ≤ 1000000) (hU : BuOk n U) (w : World) (hv : w.cell? ⟨bp, 0, none⟩ = some (.slice (some ⟨b, o, none⟩) n cap)) (hA : 0 < n → AtC w b o n 3 (buC U)) :
    Calls Try.prog 102 #[.agg #[.int .i64 c0, .int .i64 c1], .pointer (some ⟨bp, 0, none⟩)] w fun e w' => e = .returned (.int .i64 (bnB U n c0 c1 n)) ∧ Below w.heap.size w w' := by
  have HB := Lib.hid (fun (W : World) (h : Below w.heap.size w W) => burnt_any n U c0 c1 b o cap hn hU W (fun h0 => (hA h0).later h))
  have jB : Below w.heap.size w (w.alloc (.cells #[.int .i64 c0, .int .i64 c1] 26)) := by (repeat (first | exact Below.refl _ _ | assumption | refine Below.drew ?_ | refine Below.drewN ?_ _ | refine blT ?_ | refine blU ?_))
  have zv := World.block_lt_of_cell? _ _ hv
  clear hA hU
  obtain ⟨A, hA⟩ : ∃ z, bnA U n c0 c1 n = z := ⟨_, rfl⟩
  obtain ⟨B, hB⟩ : ∃ z, bnB U n c0 c1 n = z := ⟨_, rfl⟩
  rw [hA, hB] at HB
  rw [hB]
  clear hA hB
  go_enter Try.func102, Try.ntmps102
  go_wp2_with fail
  refine (HB.out _ jB).mono ?_
  rintro e w2 ⟨rfl, hb⟩
  have hBB := bwS jB (Nat.le_refl _) hb
  clear hb HB
  go_wp2
  go_ret
  exact ⟨rfl, hBB⟩

set_option maxRecDepth 100000 in
set_option maxHeartbeats 1000000 in
theorem days_hi (n : Nat) (C D f : Nat → Int) (l : Int) (p v : Value) (hl : 0 ≤ l ∧ l ≤ 1000000000) (hf : ∀ i, i < n → 0 ≤ f i ∧ f i ≤ 1000000000) (w : World) (hS : SpansAt w v n C D)
    (HF : ∀ i, i < n → ∀ W, Below w.heap.size w W → Calls Try.prog 102 #[.agg #[.int .i64 (C i), .int .i64 (D i)], p] W fun e w' => e = .returned (.int .i64 (f i)) ∧ Below W.heap.size W w') :
    Calls Try.prog 101 #[.int .i64 l, v, .func (.func 102) #[] #[p]] w fun e w' => ∃ d : Nat, e = .returned (.int .i64 d) ∧ DayN n l f d ∧ Below w.heap.size w w' := by
  obtain ⟨a, cap, rfl, p1, p2, p3⟩ := hS
  have HA := Lib.hid p3
  have HC := Lib.hid HF
  have HN := Lib.hid hf
  clear p3 HF hf
  go_enter Try.func101, Try.ntmps101
  go_wp2_with fail
  go_loopw [0, 11] (fun x i wr => ∃ k : Nat, k ≤ n ∧ i = .int .i64 k ∧ x = .int .i64 (l - sumT f k) ∧ 0 ≤ l - sumT f k ∧ l - sumT f k ≤ 1000000000 ∧ (∀ j, j < k → sumT f (j + 1) ≤ l) ∧ Below w.heap.size w wr) (fun _ i _ => n - (intOf i).toNat)
  case atStart => exact ⟨0, Nat.zero_le _, rfl, by show Value.int .i64 l = .int .i64 (l - 0); rw [Int.sub_zero], by show 0 ≤ l - 0; omega, by show l - 0 ≤ _; omega, fun j h => by omega, Below.refl _ _⟩
  case round =>
    obtain ⟨k, hk, rfl, rfl, hge, hle, hok, hB⟩ := hrel
    have HO := Lib.hid hok
    clear hok
    by_cases hlt : k < n
    · obtain ⟨b, o, ha, hc⟩ := HA.out (by omega)
      subst ha
      have hcA : AtC w b o n 2 (spC C D) := hc
      clear hc
      obtain ⟨x0, x1⟩ := hcA.c2 hlt rfl
      have zb := World.block_lt_of_cell? _ _ x0
      have HK := Lib.hid (HC.out k hlt)
      have hb := HN.out k hlt
      have hs : sumT f (k + 1) = sumT f k + f k := rfl
      have HS1 := Lib.hid hs
      clear hs hcA
      generalize C k = x at x0 HK
      generalize D k = y at x1 HK
      generalize f k = z at hb HK HS1
      obtain ⟨s, hs⟩ : ∃ s, sumT f k = s := ⟨_, rfl⟩
      rw [hs] at hge hle HS1 ⊢
      have HSs := Lib.hid hs
      clear hs
      replace x0 := cell_later hB x0
      replace x1 := cell_later hB x1
      have hltI : (k : Int) < n := by omega
      obtain ⟨m, hm⟩ : ∃ m, l - s = m := ⟨_, rfl⟩
      rw [hm] at hge hle ⊢
      have Hm := Lib.hid hm
      clear hm
      have jB := bwA hB (Nat.le_refl _) (.cells #[.int .i64 x, .int .i64 y] 26)
      go_wp2_with fail
      refine (HK.out _ jB).mono ?_
      rintro e w2 ⟨rfl, hb2⟩
      replace jB := bwS jB (Nat.le_refl _) hb2
      clear hb2 HK hB
      have e1 : IntKind.i64.wrap (m - z) = m - z := IntWalk.i64_in _ (by omega)
      by_cases hz : m - z < 0
      · have hD : DayN n l f k := ⟨hk, HO.out, fun _ => by have := HS1.out; have := Hm.out; omega⟩
        have HD := Lib.hid hD
        clear hD hb
        go_wp2
        go_ret
        exact ⟨k, rfl, HD.out, jB⟩
      · have hO : ∀ j, j < k + 1 → sumT f (j + 1) ≤ l := by
          intro j hj
          by_cases e : j = k
          · subst e; have := HS1.out; have := Hm.out; omega
          · exact HO.out j (by omega)
        have HO2 := Lib.hid hO
        have hv : l - sumT f (k + 1) = m - z := by have := HS1.out; have := Hm.out; omega
        have Hv := Lib.hid hv
        have Hb := Lib.hid (And.intro hge (And.intro hle (And.intro hb.1 hz)))
        clear hO hb hv hge hle
        go_wp2
        go_roundw
        case rel => exact ⟨k + 1, by omega, by go_num, by rw [Hv.out], by rw [Hv.out]; have := Hb.out; omega, by rw [Hv.out]; have := Hb.out; omega, HO2.out, jB⟩
        case measure => simp [intOf]; omega
    · obtain rfl : k = n := by omega
      have HD := Lib.hid (show DayN k l f k from ⟨Nat.le_refl _, HO.out, fun h => by omega⟩)
      clear hge hle
      go_wp2
      go_ret
      exact ⟨k, rfl, HD.out, hB⟩

set_option maxRecDepth 100000 in
theorem clo_lo (n : Nat) (U : Nat → Bu) (c0 c1 : Int) (bp b o cap : Nat) (hn : n ≤ 1000000) (hU : BuOk n U) (w : World) (hv : w.cell? ⟨bp, 0, none⟩ = some (.slice (some ⟨b, o, none⟩) n cap)) (hA : 0 < n → AtC w b o n 3 (buC U)) :
    Calls Try.prog 104 #[.agg #[.int .i64 c0, .int .i64 c1], .pointer (some ⟨bp, 0, none⟩)] w fun e w' => e = .returned (.int .i64 (bnA U n c0 c1 n)) ∧ Below w.heap.size w w' := by
  have HB := Lib.hid (fun (W : World) (h : Below w.heap.size w W) => burnt_any n U c0 c1 b o cap hn hU W (fun h0 => (hA h0).later h))
  have jB : Below w.heap.size w (w.alloc (.cells #[.int .i64 c0, .int .i64 c1] 26)) := by (repeat (first | exact Below.refl _ _ | assumption | refine Below.drew ?_ | refine Below.drewN ?_ _ | refine blT ?_ | refine blU ?_))
  have zv := World.block_lt_of_cell? _ _ hv
  clear hA hU
  obtain ⟨A, hA⟩ : ∃ z, bnA U n c0 c1 n = z := ⟨_, rfl⟩
  obtain ⟨B, hB⟩ : ∃ z, bnB U n c0 c1 n = z := ⟨_, rfl⟩
  rw [hA, hB] at HB
  rw [hA]
  clear hA hB
  go_enter Try.func104, Try.ntmps104
  go_wp2_with fail
  refine (HB.out _ jB).mono ?_
  rintro e w2 ⟨rfl, hb⟩
  have hBB := bwS jB (Nat.le_refl _) hb
  clear hb HB
  go_wp2
  go_ret
  exact ⟨rfl, hBB⟩

set_option maxRecDepth 100000 in
set_option maxHeartbeats 1000000 in
theorem days_lo (n : Nat) (C D f : Nat → Int) (l : Int) (p v : Value) (hl : 0 ≤ l ∧ l ≤ 1000000000) (hf : ∀ i, i < n → 0 ≤ f i ∧ f i ≤ 1000000000) (w : World) (hS : SpansAt w v n C D)
    (HF : ∀ i, i < n → ∀ W, Below w.heap.size w W → Calls Try.prog 104 #[.agg #[.int .i64 (C i), .int .i64 (D i)], p] W fun e w' => e = .returned (.int .i64 (f i)) ∧ Below W.heap.size W w') :
    Calls Try.prog 101 #[.int .i64 l, v, .func (.func 104) #[] #[p]] w fun e w' => ∃ d : Nat, e = .returned (.int .i64 d) ∧ DayN n l f d ∧ Below w.heap.size w w' := by
  obtain ⟨a, cap, rfl, p1, p2, p3⟩ := hS
  have HA := Lib.hid p3
  have HC := Lib.hid HF
  have HN := Lib.hid hf
  clear p3 HF hf
  go_enter Try.func101, Try.ntmps101
  go_wp2_with fail
  go_loopw [0, 11] (fun x i wr => ∃ k : Nat, k ≤ n ∧ i = .int .i64 k ∧ x = .int .i64 (l - sumT f k) ∧ 0 ≤ l - sumT f k ∧ l - sumT f k ≤ 1000000000 ∧ (∀ j, j < k → sumT f (j + 1) ≤ l) ∧ Below w.heap.size w wr) (fun _ i _ => n - (intOf i).toNat)
  case atStart => exact ⟨0, Nat.zero_le _, rfl, by show Value.int .i64 l = .int .i64 (l - 0); rw [Int.sub_zero], by show 0 ≤ l - 0; omega, by show l - 0 ≤ _; omega, fun j h => by omega, Below.refl _ _⟩
  case round =>
    obtain ⟨k, hk, rfl, rfl, hge, hle, hok, hB⟩ := hrel
    have HO := Lib.hid hok
    clear hok
    by_cases hlt : k < n
    · obtain ⟨b, o, ha, hc⟩ := HA.out (by omega)
      subst ha
      have hcA : AtC w b o n 2 (spC C D) := hc
      clear hc
      obtain ⟨x0, x1⟩ := hcA.c2 hlt rfl
      have zb := World.block_lt_of_cell? _ _ x0
      have HK := Lib.hid (HC.out k hlt)
      have hb := HN.out k hlt
      have hs : sumT f (k + 1) = sumT f k + f k := rfl
      have HS1 := Lib.hid hs
      clear hs hcA
      generalize C k = x at x0 HK
      generalize D k = y at x1 HK
      generalize f k = z at hb HK HS1
      obtain ⟨s, hs⟩ : ∃ s, sumT f k = s := ⟨_, rfl⟩
      rw [hs] at hge hle HS1 ⊢
      have HSs := Lib.hid hs
      clear hs
      replace x0 := cell_later hB x0
      replace x1 := cell_later hB x1
      have hltI : (k : Int) < n := by omega
      obtain ⟨m, hm⟩ : ∃ m, l - s = m := ⟨_, rfl⟩
      rw [hm] at hge hle ⊢
      have Hm := Lib.hid hm
      clear hm
      have jB := bwA hB (Nat.le_refl _) (.cells #[.int .i64 x, .int .i64 y] 26)
      go_wp2_with fail
      refine (HK.out _ jB).mono ?_
      rintro e w2 ⟨rfl, hb2⟩
      replace jB := bwS jB (Nat.le_refl _) hb2
      clear hb2 HK hB
      have e1 : IntKind.i64.wrap (m - z) = m - z := IntWalk.i64_in _ (by omega)
      by_cases hz : m - z < 0
      · have hD : DayN n l f k := ⟨hk, HO.out, fun _ => by have := HS1.out; have := Hm.out; omega⟩
        have HD := Lib.hid hD
        clear hD hb
        go_wp2
        go_ret
        exact ⟨k, rfl, HD.out, jB⟩
      · have hO : ∀ j, j < k + 1 → sumT f (j + 1) ≤ l := by
          intro j hj
          by_cases e : j = k
          · subst e; have := HS1.out; have := Hm.out; omega
          · exact HO.out j (by omega)
        have HO2 := Lib.hid hO
        have hv : l - sumT f (k + 1) = m - z := by have := HS1.out; have := Hm.out; omega
        have Hv := Lib.hid hv
        have Hb := Lib.hid (And.intro hge (And.intro hle (And.intro hb.1 hz)))
        clear hO hb hv hge hle
        go_wp2
        go_roundw
        case rel => exact ⟨k + 1, by omega, by go_num, by rw [Hv.out], by rw [Hv.out]; have := Hb.out; omega, by rw [Hv.out]; have := Hb.out; omega, HO2.out, jB⟩
        case measure => simp [intOf]; omega
    · obtain rfl : k = n := by omega
      have HD := Lib.hid (show DayN k l f k from ⟨Nat.le_refl _, HO.out, fun h => by omega⟩)
      clear hge hle
      go_wp2
      go_ret
      exact ⟨k, rfl, HD.out, hB⟩
end Go.Proofs.Ytegdflikeoiaaaa
