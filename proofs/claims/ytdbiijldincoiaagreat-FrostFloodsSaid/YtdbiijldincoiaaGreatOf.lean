/-
  The kit's Of and Inside.
-/
import Derived.Test.YtdbiijldincoiaaGreatNew
set_option linter.unusedVariables false
set_option linter.unusedSimpArgs false
namespace Go.Proofs.YtdbiijldincoiaaGreat
open Go.RowKit

theorem Drawn.cell {bs : Nat} {w v : World} (g : Drawn bs w v) {a : Addr} {x : Value} (h : w.cell? a = some x) (hne : a.block ≠ bs) : v.cell? a = some x := g.2.cell h (by simpa using hne)
theorem Drawn.blk {bs : Nat} {w v : World} (g : Drawn bs w v) {b : Nat} {C : Array Value} {t : TypeId} (h : Blk w b C t) (hne : b ≠ bs) : Blk v b C t := (g.2.block b h.lt (by simpa using hne)).trans h
theorem Drawn.alloc {bs : Nat} {w : World} (h : SeedAt bs w) (o : Obj) : Drawn bs w (w.alloc o) := ⟨Exists.elim h (fun u q => ⟨u, q.alloc o⟩), World.grownBy_alloc w o _⟩
theorem Drawn.drew {bs : Nat} {w : World} (h : SeedAt bs w) : Drawn bs w w.drew := ⟨h, rfl, rfl, rfl, Nat.le_refl _, fun _ _ _ => rfl⟩

set_option maxRecDepth 100000 in
set_option maxHeartbeats 1000000 in
theorem of_in (b o m cap : Nat) (x : Nat → Int) (bs : Nat) (w : World) (hs : SeedAt bs w) (hne : b ≠ bs) (h0 : 0 < m) (hm : m ≤ 1000000) (hc : ∀ i, i < m → w.cell? ⟨b, o + i, none⟩ = some (.int .i64 (x i))) :
    Calls Tryz.prog 34 #[.pointer (some ⟨bs, 0, none⟩), .slice (some ⟨b, o, none⟩) m cap] w fun e w' => ∃ i, i < m ∧ e = .returned (.int .i64 (x i)) ∧ Drawn bs w w' := by
  have HN := Lib.hid (below_in m bs w hs (by omega))
  have HC := Lib.hid hc
  clear hc
  have hz : ((m : Int) == 0) = false := by simp; omega
  go_enter Tryz.func34, Tryz.ntmps34
  go_wp2_with fail
  refine HN.out.mono ?_
  rintro e w1 ⟨v, rfl, v0, v1, hd⟩
  obtain ⟨j, rfl⟩ := Int.eq_ofNat_of_zero_le v0
  have hj : j < m := by omega
  have hx := hd.cell (HC.out j hj) hne
  go_wp2
  go_ret
  exact ⟨j, hj, rfl, hd⟩

end Go.Proofs.YtdbiijldincoiaaGreat
