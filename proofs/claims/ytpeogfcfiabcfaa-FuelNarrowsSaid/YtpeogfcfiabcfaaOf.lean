/-
  The kit's Of and Inside.
-/
import Derived.Test.YtpeogfcfiabcfaaTail
import Derived.Test.YtpeogfcfiabcfaaNew
set_option linter.unusedVariables false
set_option linter.unusedSimpArgs false
namespace Go.Proofs.Ytpeogfcfiabcfaa
open Go.RowKit

theorem Drawn.cell {bs : Nat} {w v : World} (g : Drawn bs w v) {a : Addr} {x : Value} (h : w.cell? a = some x) (hne : a.block ≠ bs) : v.cell? a = some x := g.2.cell h (by simpa using hne)
theorem Drawn.blk {bs : Nat} {w v : World} (g : Drawn bs w v) {b : Nat} {C : Array Value} {t : TypeId} (h : Blk w b C t) (hne : b ≠ bs) : Blk v b C t := (g.2.block b h.lt (by simpa using hne)).trans h
theorem Drawn.alloc {bs : Nat} {w : World} (h : SeedAt bs w) (o : Obj) : Drawn bs w (w.alloc o) := ⟨Exists.elim h (fun u q => ⟨u, q.alloc o⟩), World.grownBy_alloc w o _⟩
theorem Drawn.drew {bs : Nat} {w : World} (h : SeedAt bs w) : Drawn bs w w.drew := ⟨h, rfl, rfl, rfl, Nat.le_refl _, fun _ _ _ => rfl⟩

set_option maxRecDepth 100000 in
set_option maxHeartbeats 1000000 in
theorem of_in (b o m cap : Nat) (x : Nat → Int) (bs : Nat) (w : World) (hs : SeedAt bs w) (hne : b ≠ bs) (h0 : 0 < m) (hm : m ≤ 1000000) (hc : ∀ i, i < m → w.cell? ⟨b, o + i, none⟩ = some (.int .i64 (x i))) :
    Calls Try.prog 26 #[.pointer (some ⟨bs, 0, none⟩), .slice (some ⟨b, o, none⟩) m cap] w fun e w' => ∃ i, i < m ∧ e = .returned (.int .i64 (x i)) ∧ Drawn bs w w' := by
  have HN := Lib.hid (below_in m bs w hs (by omega))
  have HC := Lib.hid hc
  clear hc
  have hz : ((m : Int) == 0) = false := by simp; omega
  go_enter Try.func26, Try.ntmps26
  go_wp2_with fail
  refine HN.out.mono ?_
  rintro e w1 ⟨v, rfl, v0, v1, hd⟩
  obtain ⟨j, rfl⟩ := Int.eq_ofNat_of_zero_le v0
  have hj : j < m := by omega
  have hx := hd.cell (HC.out j hj) hne
  go_wp2
  go_ret
  exact ⟨j, hj, rfl, hd⟩

theorem of4_in (a b c d lo hi : Int) (bs : Nat) (w : World) (hs : SeedAt bs w) (a1 : lo ≤ a) (a2 : a ≤ hi) (b1 : lo ≤ b) (b2 : b ≤ hi) (c1 : lo ≤ c) (c2 : c ≤ hi) (d1 : lo ≤ d) (d2 : d ≤ hi) :
    Calls Try.prog 26 #[.pointer (some ⟨bs, 0, none⟩), .slice (some ⟨w.heap.size, 0, none⟩) 4 4] (w.alloc (.cells #[.int .i64 a, .int .i64 b, .int .i64 c, .int .i64 d] 3)) fun e w' => ∃ v, e = .returned (.int .i64 v) ∧ lo ≤ v ∧ v ≤ hi ∧ Drawn bs (w.alloc (.cells #[.int .i64 a, .int .i64 b, .int .i64 c, .int .i64 d] 3)) w' := by
  have hlt : bs < w.heap.size := hs.choose_spec.lt
  have hk := Blk.new w #[.int .i64 a, .int .i64 b, .int .i64 c, .int .i64 d] 3
  refine (of_in w.heap.size 0 4 4 (fun i => match i with | 0 => a | 1 => b | 2 => c | _ => d) bs _ (Drawn.alloc hs _).seed (by omega) (by decide) (by decide) (fun i hi => ?_)).mono ?_
  · match i, hi with
    | 0, _ => exact hk.cell _ rfl
    | 1, _ => exact hk.cell _ rfl
    | 2, _ => exact hk.cell _ rfl
    | 3, _ => exact hk.cell _ rfl
  · rintro e w' ⟨i, hi, he, hd⟩
    match i, hi with
    | 0, _ => exact ⟨a, he, a1, a2, hd⟩
    | 1, _ => exact ⟨b, he, b1, b2, hd⟩
    | 2, _ => exact ⟨c, he, c1, c2, hd⟩
    | 3, _ => exact ⟨d, he, d1, d2, hd⟩

set_option maxRecDepth 100000 in
set_option maxHeartbeats 2000000 in
theorem inside_in (lo hi : Int) (bs : Nat) (w : World) (hs : SeedAt bs w) (h1 : -1000000000000 ≤ lo) (h2 : hi ≤ 1000000000000) (h3 : lo ≤ hi) :
    Calls Try.prog 62 #[.pointer (some ⟨bs, 0, none⟩), .agg #[.int .i64 lo, .int .i64 hi]] w fun e w' => ∃ v, e = .returned (.int .i64 v) ∧ lo ≤ v ∧ v ≤ hi ∧ Drawn bs w w' := by
  have HF : Hid (∀ W, SeedAt bs W → Calls Try.prog 29 #[.pointer (some ⟨bs, 0, none⟩), .int .i64 lo, .int .i64 hi] W fun e w' => ∃ v, e = .returned (.int .i64 v) ∧ lo ≤ v ∧ v ≤ hi ∧ Drawn bs W w') := fun W hW =>
    (from_in lo hi bs W hW h1 h2 (by omega) (by omega)).mono fun e w' ⟨v, he, v0, v1, hd⟩ => ⟨v, he, v0, by omega, hd⟩
  have hbs : bs < w.heap.size := hs.choose_spec.lt
  go_enter Try.func62, Try.ntmps62
  go_wp2_with fail
  have hA0 := Drawn.alloc hs (.cells #[.int .i64 lo, .int .i64 hi] 26)
  have hB0 := Blk.new w #[.int .i64 lo, .int .i64 hi] 26
  refine wp_region_held_drew (S := (fun w' => Drawn bs w w' ∧ Blk w' w.heap.size #[.int .i64 lo, .int .i64 hi] 26)) (by kernel_rfl) ?_ (fun hH => ?_)
  · (try dsimp only); (exact ⟨hA0.trans (Drawn.drew hA0.seed), hB0⟩)
  refine tkY 0 (some 5) ?_ ?_ ?_
  rotate_left
  · intro w _; go_simp; (try with_reducible rfl)
  (try simp only [cq])
  refine tkY 1 (some 6) ?_ ?_ ?_
  rotate_left
  · intro w hS0; (try dsimp only at hS0); obtain ⟨_, kS⟩ := hS0; obtain ⟨c0, c1⟩ := kS.c2;go_simp; (try with_reducible rfl)
  (try simp only [cq])
  refine tkY 2 (some 7) ?_ ?_ ?_
  rotate_left
  · intro w hS0; (try dsimp only at hS0); obtain ⟨_, kS⟩ := hS0; obtain ⟨c0, c1⟩ := kS.c2;go_simp; (try with_reducible rfl)
  (try simp only [cq])
  refine tkY 3 (some 8) ?_ ?_ ?_
  rotate_left
  · intro w hS0; (try dsimp only at hS0); obtain ⟨_, kS⟩ := hS0; obtain ⟨c0, c1⟩ := kS.c2;go_simp; (try with_reducible rfl)
  (try simp only [cq])
  refine tkY 4 (some 9) ?_ ?_ ?_
  rotate_left
  · intro w hS0; (try dsimp only at hS0); obtain ⟨_, kS⟩ := hS0; obtain ⟨c0, c1⟩ := kS.c2;go_simp; (try with_reducible rfl)
  (try simp only [cq])
  refine tkY 5 (some 10) ?_ ?_ ?_
  rotate_left
  · intro w _; go_simp; (try with_reducible rfl)
  (try simp only [cq])
  refine tkY 6 (some 11) ?_ ?_ ?_
  rotate_left
  · intro w hS0; (try dsimp only at hS0); obtain ⟨_, kS⟩ := hS0; obtain ⟨c0, c1⟩ := kS.c2;go_simp; (try with_reducible rfl)
  (try simp only [cq])
  refine tkY 7 (some 12) ?_ ?_ ?_
  rotate_left
  · intro w hS0; (try dsimp only at hS0); obtain ⟨_, kS⟩ := hS0; obtain ⟨c0, c1⟩ := kS.c2;go_simp; (try with_reducible rfl)
  (try simp only [cq])
  refine tkY 8 (some 13) ?_ ?_ ?_
  rotate_left
  · intro w hS0; (try dsimp only at hS0); obtain ⟨_, kS⟩ := hS0; obtain ⟨c0, c1⟩ := kS.c2;go_simp; (try with_reducible rfl)
  (try simp only [cq])
  refine tkY 9 (some 14) ?_ ?_ ?_
  rotate_left
  · intro w hS0; (try dsimp only at hS0); obtain ⟨_, kS⟩ := hS0; obtain ⟨c0, c1⟩ := kS.c2;go_simp; (try with_reducible rfl)
  (try simp only [cq])
  refine tkY 11 (some 16) ?_ ?_ ?_
  rotate_left
  · intro w _; go_simp; (try with_reducible rfl)
  (try simp only [cq])
  refine tkY 12 (some 17) ?_ ?_ ?_
  rotate_left
  · intro w hS0; (try dsimp only at hS0); obtain ⟨_, kS⟩ := hS0; obtain ⟨c0, c1⟩ := kS.c2;go_simp; (try with_reducible rfl)
  (try simp only [cq])
  refine tkY 13 (some 18) ?_ ?_ ?_
  rotate_left
  · intro w hS0; (try dsimp only at hS0); obtain ⟨_, kS⟩ := hS0; obtain ⟨c0, c1⟩ := kS.c2;go_simp; (try with_reducible rfl)
  (try simp only [cq])
  refine tkY 14 (some 19) ?_ ?_ ?_
  rotate_left
  · intro w hS0; (try dsimp only at hS0); obtain ⟨_, kS⟩ := hS0; obtain ⟨c0, c1⟩ := kS.c2;go_simp; (try with_reducible rfl)
  (try simp only [cq])
  refine tkY 15 (some 20) ?_ ?_ ?_
  rotate_left
  · intro w hS0; (try dsimp only at hS0); obtain ⟨_, kS⟩ := hS0; obtain ⟨c0, c1⟩ := kS.c2;go_simp; (try with_reducible rfl)
  (try simp only [cq])
  refine wpAnyH_ready (rs := [10]) (by kernel_rfl) (by simp) ?_
  refine arc1 (some 15) fun K hK => ?_
  go_simp
  (refine (HF.out _ hH.1.seed).mono ?_; rintro e w' ⟨v, rfl, v0, v1, hd⟩)
  refine hK.out _ _ ?_ (fun hH => ?_)
  · (exact ⟨hH.1.trans hd, hd.blk hH.2 (by omega)⟩)
  clear hK K
  (try simp only [cq])
  refine wpAnyH_ready (rs := [16]) (by kernel_rfl) (by simp) ?_
  refine arc1 (some 21) fun K hK => ?_
  go_simp
  (refine (HF.out _ hH.1.seed).mono ?_; rintro e w' ⟨v, rfl, v0, v1, hd⟩)
  refine hK.out _ _ ?_ (fun hH => ?_)
  · (exact ⟨hH.1.trans hd, hd.blk hH.2 (by omega)⟩)
  clear hK K
  (try simp only [cq])
  refine wpAnyH_ready (rs := [17]) (by kernel_rfl) (by simp) ?_
  refine arc1 (some 22) fun K hK => ?_
  have hpre := hH
  go_simp
  refine hK.out _ _ ?_ (fun hH => ?_)
  · exact ⟨hH.1.trans (Drawn.alloc hH.1.seed _), hH.2.alloc _⟩
  clear hK K
  (try simp only [cq])
  refine wpAnyH_ready (rs := [18]) (by kernel_rfl) (by simp) ?_
  refine arc1 (some 23) fun K hK => ?_
  go_simp
  (refine (of4_in _ _ _ _ lo hi bs _ hpre.1.seed (by omega) (by omega) (by omega) (by omega) (by omega) (by omega) (by omega) (by omega)).mono ?_; rintro e w' ⟨v, rfl, v0, v1, hd⟩)
  refine hK.out _ _ ?_ (fun hH => ?_)
  · (refine ⟨hH.1.trans hd, hd.blk hH.2 ?_⟩; omega)
  clear hK K
  (try simp only [cq])
  refine tkY 19 (some 4) ?_ ?_ ?_
  rotate_left
  · intro w _; go_simp; (try with_reducible rfl)
  (try simp only [cq])
  refine wpAnyH_done (by kernel_rfl) ?_ _
  (try dsimp only [Act.put])
  (try simp only [cq])
  have hD := hH.1
  clear hH
  go_wp2
  go_ret
  exact ⟨_, rfl, by assumption, by assumption, hD⟩
end Go.Proofs.Ytpeogfcfiabcfaa
