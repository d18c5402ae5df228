/-
  What is valid has no error (package bear).
-/
import Derived.Test.YtkkljbbgaogifaaIns
import Derived.Test.YtkkljbbgaogifaaSpeed
set_option linter.unusedVariables false
set_option linter.unusedSimpArgs false
namespace Go.Proofs.Ytkkljbbgaogifaa
open Go.RowKit

theorem firstNZ_zero (x : Nat → Int) : ∀ m i, (∀ k, i ≤ k → k < i + m → x k = 0) → firstNZ x i m = 0
  | 0, _, _ => rfl
  | m + 1, i, h => by
    rw [firstNZ, h i (Nat.le_refl _) (by omega), orE, if_pos rfl]
    exact firstNZ_zero x m (i + 1) (fun k a b => h k (by omega) (by omega))
theorem eN_ok {n lo hi : Int} (h1 : lo ≤ n) (h2 : n ≤ hi) : eN n lo hi = 0 := by unfold eN; rw [if_neg (by omega)]
theorem orE_ok {a b : Int} (h1 : a = 0) (h2 : b = 0) : orE a b = 0 := by rw [h1, h2]; rfl
theorem eO_ok {b : Bool} (h : b = true) : eO b = 0 := by rw [h]; rfl
theorem eF_ok {b : Bool} (h : b = true) : eF b = 0 := by rw [h]; rfl
theorem eS_ok {a b lo hi : Int} (h0 : lo ≤ a) (h1 : a ≤ b) (h2 : b ≤ hi) : eS a b lo hi = 0 := by
  exact orE_ok (orE_ok (eN_ok h0 (by omega)) (eN_ok (by omega) h2)) (eO_ok (by simpa using h1))
theorem eTab_ok {t : Tab} (h : t.Ok) : eTab t.n t.F t.P = 0 := by
  have h1 := h.n1
  have h20 := h.n20
  refine orE_ok (by unfold eSm; rw [if_neg (by omega)]) ?_
  unfold eTs
  rw [if_neg (by omega)]
  refine firstNZ_zero _ _ _ fun k _ hk => ?_
  have hk2 : k < t.n := by omega
  unfold tabErr
  by_cases k0 : k = 0
  · rw [if_pos k0]
    have q := h.each 0 (by omega)
    exact orE_ok (eN_ok q.1 q.2.1) (orE_ok (eO_ok (by rw [h.f0]; rfl)) (orE_ok (eN_ok q.2.2.1 q.2.2.2) (eF_ok (by rw [h.p0]; rfl))))
  · rw [if_neg k0]
    have q := h.each k hk2
    have r := h.next (k - 1) (by omega)
    rw [show k - 1 + 1 = k by omega] at r
    exact orE_ok (eN_ok q.1 q.2.1) (orE_ok (eO_ok (by simpa using r.1)) (orE_ok (eN_ok q.2.2.1 q.2.2.2) (eO_ok (by simpa using r.2))))
theorem ePl_ok {p : Pl} (h : p.Ok) : ePl p = 0 :=
  orE_ok (eS_ok h.s0 h.s01 h.s1) (orE_ok (eTab_ok h.S) (orE_ok (eTab_ok h.C) (orE_ok (eN_ok h.ne0 h.ne1) (orE_ok (eN_ok h.ed0 h.ed1) (orE_ok (eN_ok h.gr0 h.gr1) (orE_ok (eS_ok h.lo0 h.loh h.hi1) (orE_ok (eN_ok h.sh0 h.sh1) (eN_ok h.wi0 h.wi1))))))))
theorem eSps_ok {hi : Int} {n : Nat} {m : Int} {A B : Nat → Int} (hn : (n : Int) ≤ m) (h : ∀ i, i < n → 0 ≤ A i ∧ A i ≤ B i ∧ B i ≤ hi) : eSps hi n m A B = 0 := by
  unfold eSps
  rw [if_neg (by omega)]
  refine firstNZ_zero _ _ _ fun k _ hk => ?_
  have q := h k (by omega)
  exact eS_ok q.1 q.2.1 q.2.2
theorem eRoad_ok {p : Pl} (hp : p.Ok) {ni : Nat} {I0 I1 : Nat → Int} {nc : Nat} {C0 C1 : Nat → Int} (h1 : ni ≤ 1000) (hi : ∀ i, i < ni → 0 ≤ I0 i ∧ I0 i ≤ I1 i ∧ I1 i ≤ 5000) (h2 : nc ≤ 50) (hc : ∀ i, i < nc → 0 ≤ C0 i ∧ C0 i ≤ C1 i ∧ C1 i ≤ 100000) : eRoad p ni I0 I1 nc C0 C1 = 0 :=
  orE_ok (ePl_ok hp) (orE_ok (eSps_ok (by omega) hi) (eSps_ok (by omega) hc))
theorem eLds_ok {n : Nat} {L : Nat → Ld} {places : Nat} (hn : n ≤ 30) (h : ∀ i, i < n → (L i).Ok places) : eLds (100 * (places : Int)) n L = 0 := by
  unfold eLds
  rw [if_neg (by omega)]
  refine firstNZ_zero _ _ _ fun k _ hk => ?_
  have q := h k (by omega)
  refine orE_ok ?_ (orE_ok (eS_ok q.w0 q.w01 q.w1) (eN_ok q.st0 q.st1))
  have h0 := q.me0
  have h1 := q.me1
  unfold eI
  rw [if_neg (by omega)]
theorem holds_valid {p : Pl} (hp : p.Ok) {ni : Nat} {I0 I1 : Nat → Int} {nc : Nat} {C0 C1 : Nat → Int} {n : Nat} {L : Nat → Ld} (h1 : ni ≤ 1000) (hi : ∀ i, i < ni → 0 ≤ I0 i ∧ I0 i ≤ I1 i ∧ I1 i ≤ 5000) (h2 : nc ≤ 50) (hc : ∀ i, i < nc → 0 ≤ C0 i ∧ C0 i ≤ C1 i ∧ C1 i ≤ 100000) (hn : n ≤ 30) (hL : ∀ i, i < n → (L i).Ok ni) (vS vC vI vK vL : Value) (w : World)
    (hS : TabAt w vS p.S) (hC : TabAt w vC p.C) (hI : PairsAt w vI ni I0 I1) (hK : PairsAt w vK nc C0 C1) (hV : LoadsAt w vL n L) :
    Calls Try.prog 35 #[.agg #[.int .i64 p.s0, .int .i64 p.s1, vS, vC, .int .i64 p.ne, .int .i64 p.ed, .int .i64 p.gr, .int .i64 p.lo, .int .i64 p.hi, .int .i64 p.sh, .int .i64 p.wi], vI, vK, vL] w fun e w' => ∃ v, e = .returned (.tuple #[v, .int .i64 0]) ∧ w'.ownsRow w.heap.size 3 1 v n (catC (intC (fun i => verdV p I0 I1 nc C0 C1 n L (L i))) n) ∧ Below w.heap.size w w' :=
  holds_ok p vS vC vI vK vL ni I0 I1 nc C0 C1 n L ⟨hp, fun j hj => by have := hc j hj; omega, hi, ⟨hn, fun i q => by have := hL i q; exact ⟨this.w0, this.w01, this.w1, this.me0, by have := this.me1; omega, this.st0⟩⟩⟩ (fun i q => (hL i q).me1) _ (IntWalk.i64_in _ (by omega)) (eRoad_ok hp h1 hi h2 hc) (eLds_ok hn hL) w hS hC hI hK hV
end Go.Proofs.Ytkkljbbgaogifaa
