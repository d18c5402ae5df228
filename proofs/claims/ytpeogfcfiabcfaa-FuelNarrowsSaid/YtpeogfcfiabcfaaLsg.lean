/-
  Losing (sastrugikit): what accounts lose in a truth.
-/
import Derived.Test.YtpeogfcfiabcfaaTail
import Derived.Test.YtpeogfcfiabcfaaTko
import Derived.Test.YtpeogfcfiabcfaaCon
set_option linter.unusedVariables false
set_option linter.unusedSimpArgs false
namespace Go.Proofs.Ytpeogfcfiabcfaa
open Go.RowKit

def lsn (O C : Nat → Int) (M : Nat → Mv) (X : Nat → Int) : Nat → Nat → Int
  | 0 => fun i => O i - C i
  | k + 1 => upF (upF (lsn O C M X k) (M k).fr.toNat (lsn O C M X k (M k).fr.toNat - X k)) (M k).tt.toNat (upF (lsn O C M X k) (M k).fr.toNat (lsn O C M X k (M k).fr.toNat - X k) (M k).tt.toNat + X k)
theorem lsn_bd {O C : Nat → Int} {M : Nat → Mv} {X : Nat → Int} {m : Nat} (hO : ∀ i, -10000000000 ≤ O i - C i ∧ O i - C i ≤ 10000000000) (hX : ∀ i, i < m → 0 ≤ X i ∧ X i ≤ 10000000000) : ∀ k, k ≤ m → ∀ i, -10000000000 - 20000000000 * (k : Int) ≤ lsn O C M X k i ∧ lsn O C M X k i ≤ 10000000000 + 20000000000 * (k : Int)
  | 0, _, i => by have := hO i; show _ ≤ O i - C i ∧ O i - C i ≤ _; omega
  | k + 1, hk, i => by
    have a := lsn_bd (M := M) hO hX k (by omega)
    have b := hX k (by omega)
    have c := a i
    have d := a (M k).fr.toNat
    have e := a (M k).tt.toNat
    unfold lsn upF
    by_cases h1 : i = (M k).tt.toNat
    · rw [if_pos h1]
      by_cases h2 : (M k).tt.toNat = (M k).fr.toNat
      · rw [if_pos h2]; omega
      · rw [if_neg h2]; omega
    · rw [if_neg h1]
      by_cases h2 : i = (M k).fr.toNat
      · rw [if_pos h2]; omega
      · rw [if_neg h2]; omega
theorem cat_set (X : Nat → Int) (j : Nat) (u : Int) : ∀ n, j < n → (catC (inC X) n).set j (.int .i64 u) = catC (inC (upF X j u)) n
  | 0, h => by omega
  | n + 1, h => by
    have hl := catC_len (inC X) 1 n (fun _ _ => rfl)
    rw [catC, catC]
    rcases Nat.lt_or_ge j n with hj | hj
    · rw [List.set_append_left _ _ (by omega), cat_set X j u n hj]
      unfold inC upF
      simp only [if_neg (show ¬ n = j by omega)]
    · obtain rfl : j = n := by omega
      rw [List.set_append_right _ _ (by omega), hl]
      rw [catC_congr j (C := inC (upF X j u)) (D := inC X) (fun i hi => by unfold inC upF; rw [if_neg (by omega)])]
      unfold inC upF
      simp
def belW3 {B : Nat} {a w : World} (_ : Below B a w) : World := w
set_option maxRecDepth 100000 in
set_option maxHeartbeats 8000000 in
theorem losing_any (n m : Nat) (A : Nat → Ac) (M : Nat → Mv) (O C X : Nat → Int) (vA vM vO vC vX : Value) (h1 : 1 ≤ n) (hn : n ≤ 1000) (hm : m ≤ 1000) (hO : ∀ i, -10000000000 ≤ O i - C i ∧ O i - C i ≤ 10000000000) (hOb : ∀ i, -10000000000 ≤ O i ∧ O i ≤ 10000000000 ∧ -10000000000 ≤ C i ∧ C i ≤ 10000000000) (hX : ∀ i, i < m → 0 ≤ X i ∧ X i ≤ 10000000000)
    (hM : ∀ i, i < m → 0 ≤ (M i).fr ∧ (M i).fr < n ∧ 0 ≤ (M i).tt ∧ (M i).tt < n) (w : World) (hA : AcsAt w vA n A) (hMv : MvsAt w vM m M) (hOv : IntsAt w vO n O) (hCv : IntsAt w vC n C) (hXv : IntsAt w vX m X) :
    Calls Try.prog 50 #[.agg #[vA, vM], .agg #[vO, vC, vX]] w fun e w' => ∃ v, e = .returned v ∧ w'.ownsRow w.heap.size 3 1 v n (catC (inC (lsn O C M X m)) n) ∧ Below w.heap.size w w' := by
  obtain ⟨i0, hi0, hz0, hz1, hz2⟩ := info_parts Try.infoInt
  obtain ⟨aA, cA, rfl, -, -, -⟩ := hA
  obtain ⟨aM, cM, rfl, -, -, gM⟩ := hMv
  obtain ⟨aO, cO, rfl, -, -, gO⟩ := hOv
  obtain ⟨aC, cC, rfl, -, -, gC⟩ := hCv
  obtain ⟨aX, cX, rfl, -, -, gX⟩ := hXv
  obtain ⟨bO, oO, rfl, kO⟩ := gO (by omega)
  obtain ⟨bC, oC, rfl, kC⟩ := gC (by omega)
  have jB := (Blk.new w #[.slice aA n cA, .slice aM m cM] 44).alloc (.cells #[.slice (some ⟨bO, oO, none⟩) n cO, .slice (some ⟨bC, oC, none⟩) n cC, .slice aX m cX] 46)
  have jT := Blk.new1 w (.cells #[.slice aA n cA, .slice aM m cM] 44) #[.slice (some ⟨bO, oO, none⟩) n cO, .slice (some ⟨bC, oC, none⟩) n cC, .slice aX m cX] 46
  have jW : Below w.heap.size w ((w.alloc (.cells #[.slice aA n cA, .slice aM m cM] 44)).alloc (.cells #[.slice (some ⟨bO, oO, none⟩) n cO, .slice (some ⟨bC, oC, none⟩) n cC, .slice aX m cX] 46)) := by (repeat (first | exact Below.refl _ _ | assumption | refine Below.drew ?_ | refine Below.drewN ?_ _ | refine blT ?_ | refine blU ?_))
  go_enter Try.func50, Try.ntmps50
  go_wp2_with fail
  obtain ⟨V, hV⟩ : ∃ V, Blk.wld jB = V := ⟨_, rfl⟩
  simp only [Blk.wld] at hV
  rw [hV] at jB jT jW ⊢
  clear hV
  have kO' : AtC V bO oO n 1 (inC O) := AtC.later (show AtC w bO oO n 1 (inC O) from kO) jW
  have kC' : AtC V bC oC n 1 (inC C) := AtC.later (show AtC w bC oC n 1 (inC C) from kC) jW
  have HT := Lib.hid (fun (W : World) (h : Below V.heap.size V W) => And.intro (jB.call h) (jT.call h))
  have HO := Lib.hid (fun (i : Nat) (hi : i < n) (W : World) (h : Below V.heap.size V W) => And.intro (cell_later h (kO'.c1 hi rfl)) (cell_later h (kC'.c1 hi rfl)))
  have HMX := Lib.hid (And.intro gM gX)
  have HJ := Lib.hid jW
  have zV := jW.size
  clear jB jT jW kO kC kO' kC' gM gX gO gC
  have rL : V.ownsRow V.heap.size 3 1 (.slice none 0 0) 0 (catC (inC (fun i => O i - C i)) 0) := World.ownsRow_nil _ _ _ _
  go_loopw [5, 6] (fun l i wr => ∃ k : Nat, i = .int .i64 k ∧ k ≤ n ∧ wr.ownsRow V.heap.size 3 1 l k (catC (inC (fun i => O i - C i)) k) ∧ Below V.heap.size V wr) (fun _ i _ => n - (intOf i).toNat)
  case atStart => exact ⟨0, rfl, Nat.zero_le _, rL, Below.refl _ _⟩
  case round =>
    clear rL
    obtain ⟨k, rfl, hk, rL, hB⟩ := hrel
    obtain ⟨aL, cL, hvL, -, -, -⟩ := row_at rL (by omega)
    subst hvL
    obtain ⟨jB, jT⟩ := HT.out _ hB
    obtain ⟨t0, t1⟩ := jB.c2
    by_cases hlt : k < n
    · have hltI : (k : Int) < n := by omega
      have hob := hOb k
      obtain ⟨x, hx⟩ : ∃ z, O k = z := ⟨_, rfl⟩
      obtain ⟨y, hy⟩ : ∃ z, C k = z := ⟨_, rfl⟩
      have HCat := Lib.hid (show catC (inC (fun i => O i - C i)) k ++ [.int .i64 (x - y)] = catC (inC (fun i => O i - C i)) (k + 1) from by rw [catC, ← hx, ← hy]; rfl)
      have HV := Lib.hid (fun (W : World) (h : Below V.heap.size V W) => And.intro (HT.out W h) (HO.out k hlt W h))
      rw [hx, hy] at HV hob
      clear hx hy
      have e1 : IntKind.i64.wrap (x - y) = x - y := IntWalk.i64_in _ (by omega)
      go_upto_region 5 with fail
      clear t0 t1 jB jT
      (
 refine wp_region_held_drew (S := (fun wx => Below V.heap.size V wx)) (by kernel_rfl) ?_ (fun hH => ?_)
 · (try dsimp only); (exact hB.drew)
 refine tkY 0 (some 15) ?_ ?_ ?_
 rotate_left
 · intro w _; go_simp; (try with_reducible rfl)
 (try simp only [cq])
 refine tkY 1 (some 16) ?_ ?_ ?_
 rotate_left
 · intro w hS0; (try dsimp only at hS0); obtain ⟨⟨kB, kT⟩, q0, q1⟩ := HV.out _ hS0; have c0 := kT.cell 0 rfl; have c1 := kT.cell 1 rfl; have y1 := kT.lt; have y2 := World.block_lt_of_cell? _ _ q0; have y3 := World.block_lt_of_cell? _ _ q1;go_simp; (try with_reducible rfl)
 (try simp only [cq])
 refine tkY 2 (some 17) ?_ ?_ ?_
 rotate_left
 · intro w hS0; (try dsimp only at hS0); obtain ⟨⟨kB, kT⟩, q0, q1⟩ := HV.out _ hS0; have c0 := kT.cell 0 rfl; have c1 := kT.cell 1 rfl; have y1 := kT.lt; have y2 := World.block_lt_of_cell? _ _ q0; have y3 := World.block_lt_of_cell? _ _ q1;go_simp; (try with_reducible rfl)
 (try simp only [cq])
 refine tkY 3 (some 18) ?_ ?_ ?_
 rotate_left
 · intro w _; go_simp; (try with_reducible rfl)
 (try simp only [cq])
 refine tkY 4 (some 19) ?_ ?_ ?_
 rotate_left
 · intro w hS0; (try dsimp only at hS0); obtain ⟨⟨kB, kT⟩, q0, q1⟩ := HV.out _ hS0; have c0 := kT.cell 0 rfl; have c1 := kT.cell 1 rfl; have y1 := kT.lt; have y2 := World.block_lt_of_cell? _ _ q0; have y3 := World.block_lt_of_cell? _ _ q1;go_simp; (try with_reducible rfl)
 (try simp only [cq])
 refine tkY 5 (some 20) ?_ ?_ ?_
 rotate_left
 · intro w hS0; (try dsimp only at hS0); obtain ⟨⟨kB, kT⟩, q0, q1⟩ := HV.out _ hS0; have c0 := kT.cell 0 rfl; have c1 := kT.cell 1 rfl; have y1 := kT.lt; have y2 := World.block_lt_of_cell? _ _ q0; have y3 := World.block_lt_of_cell? _ _ q1;go_simp; (try with_reducible rfl)
 (try simp only [cq])
 refine tkY 6 (some 21) ?_ ?_ ?_
 rotate_left
 · intro w hS0; (try dsimp only at hS0); obtain ⟨⟨kB, kT⟩, q0, q1⟩ := HV.out _ hS0; have c0 := kT.cell 0 rfl; have c1 := kT.cell 1 rfl; have y1 := kT.lt; have y2 := World.block_lt_of_cell? _ _ q0; have y3 := World.block_lt_of_cell? _ _ q1;go_simp; (try with_reducible rfl)
 (try simp only [cq])
 refine tkY 7 (some 22) ?_ ?_ ?_
 rotate_left
 · intro w hS0; (try dsimp only at hS0); obtain ⟨⟨kB, kT⟩, q0, q1⟩ := HV.out _ hS0; have c0 := kT.cell 0 rfl; have c1 := kT.cell 1 rfl; have y1 := kT.lt; have y2 := World.block_lt_of_cell? _ _ q0; have y3 := World.block_lt_of_cell? _ _ q1;go_simp; (try with_reducible rfl)
 (try simp only [cq])
 refine tkY 8 (some 23) ?_ ?_ ?_
 rotate_left
 · intro w _; go_simp; (try with_reducible rfl)
 (try simp only [cq])
 refine tkY 9 (some 24) ?_ ?_ ?_
 rotate_left
 · intro w hS0; (try dsimp only at hS0); obtain ⟨⟨kB, kT⟩, q0, q1⟩ := HV.out _ hS0; have c0 := kT.cell 0 rfl; have c1 := kT.cell 1 rfl; have y1 := kT.lt; have y2 := World.block_lt_of_cell? _ _ q0; have y3 := World.block_lt_of_cell? _ _ q1;go_simp; (try with_reducible rfl)
 (try simp only [cq])
 refine tkY 10 (some 25) ?_ ?_ ?_
 rotate_left
 · intro w hS0; (try dsimp only at hS0); obtain ⟨⟨kB, kT⟩, q0, q1⟩ := HV.out _ hS0; have c0 := kT.cell 0 rfl; have c1 := kT.cell 1 rfl; have y1 := kT.lt; have y2 := World.block_lt_of_cell? _ _ q0; have y3 := World.block_lt_of_cell? _ _ q1;go_simp; (try with_reducible rfl)
 (try simp only [cq])
 refine tkY 11 (some 26) ?_ ?_ ?_
 rotate_left
 · intro w _; go_simp; (try with_reducible rfl)
 (try simp only [cq])
 refine wpAnyH_ready (rs := [12]) (by kernel_rfl) (by simp) ?_
 refine arc1 (some 27) fun K hK => ?_
 go_simp
 first | refine oA hK ?_ (fun hH hA => ?_) | refine oD hK ?_ (fun hH hA => ?_)
 · exact hH.alloc hH.size _
 obtain ⟨bN, hbA⟩ : ∃ b, Blk.num hA = b := ⟨_, rfl⟩
 obtain ⟨Vn, hV⟩ : ∃ V, Blk.wld hA = V := ⟨_, rfl⟩
 simp only [Blk.num] at hbA
 simp only [Blk.wld] at hV
 first | replace rL := awR hV rL | replace rL := awR3 hV rL
 rw [hV] at hH hA ⊢
 rw [hbA] at hA ⊢
 clear hV hbA
 have kN := hA
 clear hA
 clear hK K
 (try simp only [cq])
 refine wpAnyH_ready (rs := [13]) (by kernel_rfl) (by simp) ?_
 refine arc1 (some 28) fun K hK => ?_
 rw [if_pos (by rfl)]
 obtain ⟨gN, cN, w8, hr, hown, hgrow, hat, hlt'⟩ := run_append_lies (P := Try.prog) _ 22 22 V.heap.size 3 i0 (.int .i64 0) 1 8 Try.underlying22 hi0 hz0 hz1 hz2 rfl (by decide) (.slice aL k cL) k _ rL ⟨bN, 0, none⟩ 1 1 [.int .i64 (x - y)] rfl (news_one kN) (one1 _) (by omega) (by unfold maxLen; omega) (by omega) hH.size _ rfl
 simp only [Oper.wp, execOp, resolve, invoke, builtin, Sem.run_bind, Sem.run_pure, Result.andThen_ok, List.map_toArray, List.map_cons, List.map_nil]
 change Oper.upon _ _ _ _ _ ((Sem.run Try.prog (Builtin.append_ #[22, 22] 22 #[.slice aL k cL, .slice (some ⟨bN, 0, none⟩) 1 1]) _).andThen _)
 rw [hr]
 have HG := Lib.hid (hH.grown hgrow hH.size (fun z e => (rL.lt z e).1))
 rw [HCat.out] at hown
 clear hgrow hat hlt' hr kN rL
 simp only [Result.andThen_ok, Oper.upon]
 refine hK.out _ _ ?_ (fun hH => ?_)
 · exact HG.out
 clear hK K
 (try simp only [cq])
 refine tkY 14 (some 5) ?_ ?_ ?_
 rotate_left
 · intro w _; go_simp; (try with_reducible rfl)
 (try simp only [cq])
 refine wpAnyH_done (by kernel_rfl) ?_ _
 (try dsimp only [Act.put])
 (try simp only [cq])
 have hB2 := hH
 clear hH hB HG
 go_wp2
 go_roundw
 case rel => exact ⟨k + 1, by go_num, by omega, hown, hB2⟩
 case measure => simp [intOf]; omega )
    · obtain rfl : k = n := by omega
      obtain ⟨g, cL', hg, zg, -⟩ := rL.form (by omega)
      simp only [Value.slice.injEq] at hg
      obtain ⟨rfl, -, rfl⟩ := hg
      go_wp2_with fail
      clear t0 t1 jB jT
      go_loopw [7] (fun i wr => ∃ j : Nat, i = .int .i64 j ∧ j ≤ m ∧ wr.ownsRow V.heap.size 3 1 (.slice (some ⟨g, 0, none⟩) k cL) k (catC (inC (lsn O C M X j)) k) ∧ Below V.heap.size V wr) (fun i _ => m - (intOf i).toNat)
      case atStart => exact ⟨0, rfl, Nat.zero_le _, rL, hB⟩
      case round =>
        clear rL hB
        obtain ⟨j, rfl, hj, rL, hB⟩ := hrel
        obtain ⟨jB, jT⟩ := HT.out _ hB
        obtain ⟨t0, t1⟩ := jB.c2
        by_cases hlt2 : j < m
        · have hltI : (j : Int) < m := by omega
          obtain ⟨bM, oM, e1, kM⟩ := HMX.out.1 (by omega)
          obtain ⟨bX, oX, e2, kX⟩ := HMX.out.2 (by omega)
          subst e1 e2
          have hMj := hM j hlt2
          obtain ⟨f, hf⟩ : ∃ f : Nat, (M j).fr = f := ⟨(M j).fr.toNat, by omega⟩
          obtain ⟨tt, htt⟩ : ∃ f : Nat, (M j).tt = f := ⟨(M j).tt.toNat, by omega⟩
          have hfk : f < k := by omega
          have htk : tt < k := by omega
          have hfI : (f : Int) < k := by omega
          have htI : (tt : Int) < k := by omega
          have hXj := hX j hlt2
          have lbd := lsn_bd (M := M) hO hX j (by omega)
          have hls : lsn O C M X (j + 1) = upF (upF (lsn O C M X j) f (lsn O C M X j f - X j)) tt (upF (lsn O C M X j) f (lsn O C M X j f - X j) tt + X j) := by
            show upF (upF (lsn O C M X j) (M j).fr.toNat (lsn O C M X j (M j).fr.toNat - X j)) (M j).tt.toNat (upF (lsn O C M X j) (M j).fr.toNat (lsn O C M X j (M j).fr.toNat - X j) (M j).tt.toNat + X j) = _
            rw [hf, htt, Int.toNat_natCast, Int.toNat_natCast]
          have HV := Lib.hid (fun (W : World) (h : Below V.heap.size V W) => And.intro (HT.out W h) (show W.cell? ⟨bM, oM + j * 4, none⟩ = some (.int .i64 (f : Int)) ∧ W.cell? ⟨bM, oM + j * 4 + 1, none⟩ = some (.int .i64 (tt : Int)) ∧ W.cell? ⟨bX, oX + j, none⟩ = some (.int .i64 (X j)) from by
            have q1 := (AtC.later (show AtC w bM oM m 4 (mvC M) from kM) (HJ.out.trans (h.mono zV))).c4 hlt2 rfl
            have q2 := (AtC.later (show AtC w bX oX m 1 (inC X) from kX) (HJ.out.trans (h.mono zV))).c1 hlt2 rfl
            rw [hf, htt] at q1
            exact ⟨q1.1, q1.2.1, q2⟩))
          obtain ⟨x, hx⟩ : ∃ z, X j = z := ⟨_, rfl⟩
          rw [hx] at HV hXj hls
          obtain ⟨L0, hL0⟩ : ∃ z, lsn O C M X j = z := ⟨_, rfl⟩
          rw [hL0] at hls rL lbd
          have hb1 := lbd f
          obtain ⟨a, ha⟩ : ∃ z, L0 f = z := ⟨_, rfl⟩
          rw [ha] at hls hb1
          have HE9 := Lib.hid ha
          obtain ⟨b, hb⟩ : ∃ z, upF L0 f (a - x) tt = z := ⟨_, rfl⟩
          have hb2 : -10000000000 - 20000000000 * (j : Int) - 10000000000 ≤ b ∧ b ≤ 10000000000 + 20000000000 * (j : Int) := by
            rw [← hb]
            unfold upF
            by_cases e : tt = f
            · rw [if_pos e]; omega
            · rw [if_neg e]; have := lbd tt; omega
          rw [hb] at hls
          have HE10 := Lib.hid hb
          have HLS := Lib.hid hls
          have e1 : IntKind.i64.wrap (a - x) = a - x := IntWalk.i64_in _ (by omega)
          have e2 : IntKind.i64.wrap (b + x) = b + x := IntWalk.i64_in _ (by omega)
          clear hls hx hL0 ha hb lbd hb1 hb2 hXj hMj kM kX hf htt
          go_upto_region 9 with fail
          (try clear t0 t1 jB jT)
          have XE9 := Lib.hid (fun (W : World) (h : W.ownsRow V.heap.size 3 1 (.slice (some ⟨g, 0, none⟩) k cL) k (catC (inC (L0)) k)) => (show W.cell? ⟨g, f, none⟩ = some (.int .i64 a) from by have q := row_int h (i := f) (by omega); rw [HE9.out] at q; exact q))
          refine region_phs (P1 := (fun W => W.ownsRow V.heap.size 3 1 (.slice (some ⟨g, 0, none⟩) k cL) k (catC (inC (L0)) k))) (N1 := 23) (P2 := (fun _ => True)) (N2 := 23) (S2 := (fun W => Below V.heap.size V W)) (by kernel_rfl) ?_ (fun hH => ?_)
          · (try dsimp only); (exact ⟨rL.drew, trivial, hB.drew⟩)
          (try dsimp only at hH)
          refine tkX 0 (some 36) ?_ phC (ph0 hH) ?_ ?_
          rotate_left
          · intro w _; go_simp; (try with_reducible rfl)
          (try simp only [cq])
          refine tkX 1 (some 37) ?_ phC (ph0 hH) ?_ ?_
          rotate_left
          · intro w hS0; (try dsimp only at hS0); obtain ⟨⟨jB, jT⟩, m0, m1, v0⟩ := HV.out _ hS0; obtain ⟨b0, b1⟩ := jB.c2; have b2 := jT.cell 2 rfl; have y1 := jB.lt; have y2 := jT.lt; have y3 := World.block_lt_of_cell? _ _ m0; have y4 := World.block_lt_of_cell? _ _ v0;go_simp; (try with_reducible rfl)
          (try simp only [cq])
          refine tkX 2 (some 38) ?_ phC (ph0 hH) ?_ ?_
          rotate_left
          · intro w hS0; (try dsimp only at hS0); obtain ⟨⟨jB, jT⟩, m0, m1, v0⟩ := HV.out _ hS0; obtain ⟨b0, b1⟩ := jB.c2; have b2 := jT.cell 2 rfl; have y1 := jB.lt; have y2 := jT.lt; have y3 := World.block_lt_of_cell? _ _ m0; have y4 := World.block_lt_of_cell? _ _ v0;go_simp; (try with_reducible rfl)
          (try simp only [cq])
          refine tkX 3 (some 39) ?_ phC (ph0 hH) ?_ ?_
          rotate_left
          · intro w _; go_simp; (try with_reducible rfl)
          (try simp only [cq])
          refine tkX 4 (some 40) ?_ phC (ph0 hH) ?_ ?_
          rotate_left
          · intro w hS0; (try dsimp only at hS0); obtain ⟨⟨jB, jT⟩, m0, m1, v0⟩ := HV.out _ hS0; obtain ⟨b0, b1⟩ := jB.c2; have b2 := jT.cell 2 rfl; have y1 := jB.lt; have y2 := jT.lt; have y3 := World.block_lt_of_cell? _ _ m0; have y4 := World.block_lt_of_cell? _ _ v0;go_simp; (try with_reducible rfl)
          (try simp only [cq])
          refine tkX 5 (some 41) ?_ phC (ph0 hH) ?_ ?_
          rotate_left
          · intro w hS0; (try dsimp only at hS0); obtain ⟨⟨jB, jT⟩, m0, m1, v0⟩ := HV.out _ hS0; obtain ⟨b0, b1⟩ := jB.c2; have b2 := jT.cell 2 rfl; have y1 := jB.lt; have y2 := jT.lt; have y3 := World.block_lt_of_cell? _ _ m0; have y4 := World.block_lt_of_cell? _ _ v0;go_simp; (try with_reducible rfl)
          (try simp only [cq])
          refine tkX 6 (some 42) ?_ phC (ph0 hH) ?_ ?_
          rotate_left
          · intro w hS0; (try dsimp only at hS0); obtain ⟨⟨jB, jT⟩, m0, m1, v0⟩ := HV.out _ hS0; obtain ⟨b0, b1⟩ := jB.c2; have b2 := jT.cell 2 rfl; have y1 := jB.lt; have y2 := jT.lt; have y3 := World.block_lt_of_cell? _ _ m0; have y4 := World.block_lt_of_cell? _ _ v0;go_simp; (try with_reducible rfl)
          (try simp only [cq])
          refine tkX 7 (some 43) ?_ phC (ph0 hH) ?_ ?_
          rotate_left
          · intro w _; go_simp; (try with_reducible rfl)
          (try simp only [cq])
          refine tkX 8 (some 44) ?_ phC (ph0 hH) ?_ ?_
          rotate_left
          · intro w hS0; (try dsimp only at hS0); obtain ⟨⟨jB, jT⟩, m0, m1, v0⟩ := HV.out _ hS0; obtain ⟨b0, b1⟩ := jB.c2; have b2 := jT.cell 2 rfl; have y1 := jB.lt; have y2 := jT.lt; have y3 := World.block_lt_of_cell? _ _ m0; have y4 := World.block_lt_of_cell? _ _ v0;go_simp; (try with_reducible rfl)
          (try simp only [cq])
          refine tkX 9 (some 45) ?_ phC (ph0 hH) ?_ ?_
          rotate_left
          · intro w hS0; (try dsimp only at hS0); obtain ⟨⟨jB, jT⟩, m0, m1, v0⟩ := HV.out _ hS0; obtain ⟨b0, b1⟩ := jB.c2; have b2 := jT.cell 2 rfl; have y1 := jB.lt; have y2 := jT.lt; have y3 := World.block_lt_of_cell? _ _ m0; have y4 := World.block_lt_of_cell? _ _ v0;go_simp; (try with_reducible rfl)
          (try simp only [cq])
          refine tkX 10 (some 46) ?_ phC (ph0 hH) ?_ ?_
          rotate_left
          · intro w _; go_simp; (try with_reducible rfl)
          (try simp only [cq])
          refine tkX 11 (some 47) ?_ phC (ph0 hH) ?_ ?_
          rotate_left
          · intro w hS0; (try dsimp only at hS0); obtain ⟨⟨jB, jT⟩, m0, m1, v0⟩ := HV.out _ hS0; obtain ⟨b0, b1⟩ := jB.c2; have b2 := jT.cell 2 rfl; have y1 := jB.lt; have y2 := jT.lt; have y3 := World.block_lt_of_cell? _ _ m0; have y4 := World.block_lt_of_cell? _ _ v0;go_simp; (try with_reducible rfl)
          (try simp only [cq])
          refine tkX 12 (some 48) ?_ phC (ph0 hH) ?_ ?_
          rotate_left
          · intro w hS0; (try dsimp only at hS0); obtain ⟨⟨jB, jT⟩, m0, m1, v0⟩ := HV.out _ hS0; obtain ⟨b0, b1⟩ := jB.c2; have b2 := jT.cell 2 rfl; have y1 := jB.lt; have y2 := jT.lt; have y3 := World.block_lt_of_cell? _ _ m0; have y4 := World.block_lt_of_cell? _ _ v0;go_simp; (try with_reducible rfl)
          (try simp only [cq])
          refine tkX 13 (some 49) ?_ phC (ph0 hH) ?_ ?_
          rotate_left
          · intro w hS0; (try dsimp only at hS0); obtain ⟨⟨jB, jT⟩, m0, m1, v0⟩ := HV.out _ hS0; obtain ⟨b0, b1⟩ := jB.c2; have b2 := jT.cell 2 rfl; have y1 := jB.lt; have y2 := jT.lt; have y3 := World.block_lt_of_cell? _ _ m0; have y4 := World.block_lt_of_cell? _ _ v0;go_simp; (try with_reducible rfl)
          (try simp only [cq])
          refine tkX 14 (some 50) ?_ phC (ph0 hH) ?_ ?_
          rotate_left
          · intro w hS0; (try dsimp only at hS0); obtain ⟨⟨jB, jT⟩, m0, m1, v0⟩ := HV.out _ hS0; obtain ⟨b0, b1⟩ := jB.c2; have b2 := jT.cell 2 rfl; have y1 := jB.lt; have y2 := jT.lt; have y3 := World.block_lt_of_cell? _ _ m0; have y4 := World.block_lt_of_cell? _ _ v0;go_simp; (try with_reducible rfl)
          (try simp only [cq])
          refine tkX 15 (some 51) ?_ (phA (by kernel_rfl) (by kernel_rfl)) (ph0 hH) ?_ ?_
          rotate_left
          · intro w hS0; (try dsimp only at hS0); obtain ⟨rA, _, kB⟩ := hS0; have cA := XE9.out _ rA; have yA := World.block_lt_of_cell? _ _ cA;go_simp; (try with_reducible rfl)
          (try simp only [cq])
          refine tkX 16 (some 52) ?_ phC (ph0 hH) ?_ ?_
          rotate_left
          · intro w hS0; (try dsimp only at hS0); obtain ⟨⟨jB, jT⟩, m0, m1, v0⟩ := HV.out _ hS0; obtain ⟨b0, b1⟩ := jB.c2; have b2 := jT.cell 2 rfl; have y1 := jB.lt; have y2 := jT.lt; have y3 := World.block_lt_of_cell? _ _ m0; have y4 := World.block_lt_of_cell? _ _ v0;go_simp; (try with_reducible rfl)
          (try simp only [cq])
          refine tkX 17 (some 53) ?_ phC (ph0 hH) ?_ ?_
          rotate_left
          · intro w hS0; (try dsimp only at hS0); obtain ⟨⟨jB, jT⟩, m0, m1, v0⟩ := HV.out _ hS0; obtain ⟨b0, b1⟩ := jB.c2; have b2 := jT.cell 2 rfl; have y1 := jB.lt; have y2 := jT.lt; have y3 := World.block_lt_of_cell? _ _ m0; have y4 := World.block_lt_of_cell? _ _ v0;go_simp; (try with_reducible rfl)
          (try simp only [cq])
          refine tkX 18 (some 54) ?_ phC (ph0 hH) ?_ ?_
          rotate_left
          · intro w _; go_simp; (try with_reducible rfl)
          (try simp only [cq])
          refine tkX 19 (some 55) ?_ phC (ph0 hH) ?_ ?_
          rotate_left
          · intro w hS0; (try dsimp only at hS0); obtain ⟨⟨jB, jT⟩, m0, m1, v0⟩ := HV.out _ hS0; obtain ⟨b0, b1⟩ := jB.c2; have b2 := jT.cell 2 rfl; have y1 := jB.lt; have y2 := jT.lt; have y3 := World.block_lt_of_cell? _ _ m0; have y4 := World.block_lt_of_cell? _ _ v0;go_simp; (try with_reducible rfl)
          (try simp only [cq])
          refine tkX 20 (some 56) ?_ phC (ph0 hH) ?_ ?_
          rotate_left
          · intro w hS0; (try dsimp only at hS0); obtain ⟨⟨jB, jT⟩, m0, m1, v0⟩ := HV.out _ hS0; obtain ⟨b0, b1⟩ := jB.c2; have b2 := jT.cell 2 rfl; have y1 := jB.lt; have y2 := jT.lt; have y3 := World.block_lt_of_cell? _ _ m0; have y4 := World.block_lt_of_cell? _ _ v0;go_simp; (try with_reducible rfl)
          (try simp only [cq])
          refine tkX 21 (some 57) ?_ phC (ph0 hH) ?_ ?_
          rotate_left
          · intro w _; go_simp; (try with_reducible rfl)
          (try simp only [cq])
          refine tkX 22 (some 58) ?_ phC (ph0 hH) ?_ ?_
          rotate_left
          · intro w hS0; (try dsimp only at hS0); obtain ⟨⟨jB, jT⟩, m0, m1, v0⟩ := HV.out _ hS0; obtain ⟨b0, b1⟩ := jB.c2; have b2 := jT.cell 2 rfl; have y1 := jB.lt; have y2 := jT.lt; have y3 := World.block_lt_of_cell? _ _ m0; have y4 := World.block_lt_of_cell? _ _ v0;go_simp; (try with_reducible rfl)
          (try simp only [cq])
          refine wpAnyP_ready (rs := [23]) (by kernel_rfl) (by simp) ?_
          refine arcP2 none (fun K hK => ?_) AllReadyP.nil
          obtain ⟨W0, hW0⟩ : ∃ W, belW3 hH.2.2 = W := ⟨_, rfl⟩
          simp only [belW3] at hW0
          rw [hW0] at hH ⊢
          clear hW0
          obtain ⟨rA, _, kB⟩ := hH
          have cA := XE9.out _ rA
          have fA := rA.frozenAt f
          have yA := World.block_lt_of_cell? _ _ cA
          have HS := Lib.hid (rA.stored f (.int .i64 (a - x))).1
          have HB9 := Lib.hid (kB.setCell (p := ⟨g, f, none⟩) zg (.int .i64 (a - x)))
          clear rA kB
          go_simp
          refine hK.out _ _ ?_ ?_
          · (try dsimp only); exact HB9.out
          (try clear hH)
          intro hH
          (try dsimp only at hH)
          clear hK K
          (try simp only [cq])
          refine wpAnyP_done (by kernel_rfl) ?_ _
          (try dsimp only [Act.put])
          (try simp only [cq])
          clear cA fA yA hB rL XE9 HE9
          have rL := HS.out
          have hB := hH
          clear HS HB9 hH
          rw [cat_set (L0) f (a - x) k (by omega)] at rL
          obtain ⟨W1, hW1⟩ : ∃ W, belW3 hB = W := ⟨_, rfl⟩
          simp only [belW3] at hW1
          rw [hW1] at hB rL ⊢
          clear hW1
          go_upto_region 10 with fail
          (try clear t0 t1 jB jT)
          have XE10 := Lib.hid (fun (W : World) (h : W.ownsRow V.heap.size 3 1 (.slice (some ⟨g, 0, none⟩) k cL) k (catC (inC (upF L0 f (a - x))) k)) => (show W.cell? ⟨g, tt, none⟩ = some (.int .i64 b) from by have q := row_int h (i := tt) (by omega); rw [HE10.out] at q; exact q))
          refine region_phs (P1 := (fun W => W.ownsRow V.heap.size 3 1 (.slice (some ⟨g, 0, none⟩) k cL) k (catC (inC (upF L0 f (a - x))) k))) (N1 := 23) (P2 := (fun _ => True)) (N2 := 23) (S2 := (fun W => Below V.heap.size V W)) (by kernel_rfl) ?_ (fun hH => ?_)
          · (try dsimp only); (exact ⟨rL.drew, trivial, hB.drew⟩)
          (try dsimp only at hH)
          refine tkX 0 (some 59) ?_ phC (ph0 hH) ?_ ?_
          rotate_left
          · intro w _; go_simp; (try with_reducible rfl)
          (try simp only [cq])
          refine tkX 1 (some 60) ?_ phC (ph0 hH) ?_ ?_
          rotate_left
          · intro w hS0; (try dsimp only at hS0); obtain ⟨⟨jB, jT⟩, m0, m1, v0⟩ := HV.out _ hS0; obtain ⟨b0, b1⟩ := jB.c2; have b2 := jT.cell 2 rfl; have y1 := jB.lt; have y2 := jT.lt; have y3 := World.block_lt_of_cell? _ _ m0; have y4 := World.block_lt_of_cell? _ _ v0;go_simp; (try with_reducible rfl)
          (try simp only [cq])
          refine tkX 2 (some 61) ?_ phC (ph0 hH) ?_ ?_
          rotate_left
          · intro w hS0; (try dsimp only at hS0); obtain ⟨⟨jB, jT⟩, m0, m1, v0⟩ := HV.out _ hS0; obtain ⟨b0, b1⟩ := jB.c2; have b2 := jT.cell 2 rfl; have y1 := jB.lt; have y2 := jT.lt; have y3 := World.block_lt_of_cell? _ _ m0; have y4 := World.block_lt_of_cell? _ _ v0;go_simp; (try with_reducible rfl)
          (try simp only [cq])
          refine tkX 3 (some 62) ?_ phC (ph0 hH) ?_ ?_
          rotate_left
          · intro w _; go_simp; (try with_reducible rfl)
          (try simp only [cq])
          refine tkX 4 (some 63) ?_ phC (ph0 hH) ?_ ?_
          rotate_left
          · intro w hS0; (try dsimp only at hS0); obtain ⟨⟨jB, jT⟩, m0, m1, v0⟩ := HV.out _ hS0; obtain ⟨b0, b1⟩ := jB.c2; have b2 := jT.cell 2 rfl; have y1 := jB.lt; have y2 := jT.lt; have y3 := World.block_lt_of_cell? _ _ m0; have y4 := World.block_lt_of_cell? _ _ v0;go_simp; (try with_reducible rfl)
          (try simp only [cq])
          refine tkX 5 (some 64) ?_ phC (ph0 hH) ?_ ?_
          rotate_left
          · intro w hS0; (try dsimp only at hS0); obtain ⟨⟨jB, jT⟩, m0, m1, v0⟩ := HV.out _ hS0; obtain ⟨b0, b1⟩ := jB.c2; have b2 := jT.cell 2 rfl; have y1 := jB.lt; have y2 := jT.lt; have y3 := World.block_lt_of_cell? _ _ m0; have y4 := World.block_lt_of_cell? _ _ v0;go_simp; (try with_reducible rfl)
          (try simp only [cq])
          refine tkX 6 (some 65) ?_ phC (ph0 hH) ?_ ?_
          rotate_left
          · intro w hS0; (try dsimp only at hS0); obtain ⟨⟨jB, jT⟩, m0, m1, v0⟩ := HV.out _ hS0; obtain ⟨b0, b1⟩ := jB.c2; have b2 := jT.cell 2 rfl; have y1 := jB.lt; have y2 := jT.lt; have y3 := World.block_lt_of_cell? _ _ m0; have y4 := World.block_lt_of_cell? _ _ v0;go_simp; (try with_reducible rfl)
          (try simp only [cq])
          refine tkX 7 (some 66) ?_ phC (ph0 hH) ?_ ?_
          rotate_left
          · intro w _; go_simp; (try with_reducible rfl)
          (try simp only [cq])
          refine tkX 8 (some 67) ?_ phC (ph0 hH) ?_ ?_
          rotate_left
          · intro w hS0; (try dsimp only at hS0); obtain ⟨⟨jB, jT⟩, m0, m1, v0⟩ := HV.out _ hS0; obtain ⟨b0, b1⟩ := jB.c2; have b2 := jT.cell 2 rfl; have y1 := jB.lt; have y2 := jT.lt; have y3 := World.block_lt_of_cell? _ _ m0; have y4 := World.block_lt_of_cell? _ _ v0;go_simp; (try with_reducible rfl)
          (try simp only [cq])
          refine tkX 9 (some 68) ?_ phC (ph0 hH) ?_ ?_
          rotate_left
          · intro w hS0; (try dsimp only at hS0); obtain ⟨⟨jB, jT⟩, m0, m1, v0⟩ := HV.out _ hS0; obtain ⟨b0, b1⟩ := jB.c2; have b2 := jT.cell 2 rfl; have y1 := jB.lt; have y2 := jT.lt; have y3 := World.block_lt_of_cell? _ _ m0; have y4 := World.block_lt_of_cell? _ _ v0;go_simp; (try with_reducible rfl)
          (try simp only [cq])
          refine tkX 10 (some 69) ?_ phC (ph0 hH) ?_ ?_
          rotate_left
          · intro w _; go_simp; (try with_reducible rfl)
          (try simp only [cq])
          refine tkX 11 (some 70) ?_ phC (ph0 hH) ?_ ?_
          rotate_left
          · intro w hS0; (try dsimp only at hS0); obtain ⟨⟨jB, jT⟩, m0, m1, v0⟩ := HV.out _ hS0; obtain ⟨b0, b1⟩ := jB.c2; have b2 := jT.cell 2 rfl; have y1 := jB.lt; have y2 := jT.lt; have y3 := World.block_lt_of_cell? _ _ m0; have y4 := World.block_lt_of_cell? _ _ v0;go_simp; (try with_reducible rfl)
          (try simp only [cq])
          refine tkX 12 (some 71) ?_ phC (ph0 hH) ?_ ?_
          rotate_left
          · intro w hS0; (try dsimp only at hS0); obtain ⟨⟨jB, jT⟩, m0, m1, v0⟩ := HV.out _ hS0; obtain ⟨b0, b1⟩ := jB.c2; have b2 := jT.cell 2 rfl; have y1 := jB.lt; have y2 := jT.lt; have y3 := World.block_lt_of_cell? _ _ m0; have y4 := World.block_lt_of_cell? _ _ v0;go_simp; (try with_reducible rfl)
          (try simp only [cq])
          refine tkX 13 (some 72) ?_ phC (ph0 hH) ?_ ?_
          rotate_left
          · intro w hS0; (try dsimp only at hS0); obtain ⟨⟨jB, jT⟩, m0, m1, v0⟩ := HV.out _ hS0; obtain ⟨b0, b1⟩ := jB.c2; have b2 := jT.cell 2 rfl; have y1 := jB.lt; have y2 := jT.lt; have y3 := World.block_lt_of_cell? _ _ m0; have y4 := World.block_lt_of_cell? _ _ v0;go_simp; (try with_reducible rfl)
          (try simp only [cq])
          refine tkX 14 (some 73) ?_ phC (ph0 hH) ?_ ?_
          rotate_left
          · intro w hS0; (try dsimp only at hS0); obtain ⟨⟨jB, jT⟩, m0, m1, v0⟩ := HV.out _ hS0; obtain ⟨b0, b1⟩ := jB.c2; have b2 := jT.cell 2 rfl; have y1 := jB.lt; have y2 := jT.lt; have y3 := World.block_lt_of_cell? _ _ m0; have y4 := World.block_lt_of_cell? _ _ v0;go_simp; (try with_reducible rfl)
          (try simp only [cq])
          refine tkX 15 (some 74) ?_ (phA (by kernel_rfl) (by kernel_rfl)) (ph0 hH) ?_ ?_
          rotate_left
          · intro w hS0; (try dsimp only at hS0); obtain ⟨rA, _, kB⟩ := hS0; have cA := XE10.out _ rA; have yA := World.block_lt_of_cell? _ _ cA;go_simp; (try with_reducible rfl)
          (try simp only [cq])
          refine tkX 16 (some 75) ?_ phC (ph0 hH) ?_ ?_
          rotate_left
          · intro w hS0; (try dsimp only at hS0); obtain ⟨⟨jB, jT⟩, m0, m1, v0⟩ := HV.out _ hS0; obtain ⟨b0, b1⟩ := jB.c2; have b2 := jT.cell 2 rfl; have y1 := jB.lt; have y2 := jT.lt; have y3 := World.block_lt_of_cell? _ _ m0; have y4 := World.block_lt_of_cell? _ _ v0;go_simp; (try with_reducible rfl)
          (try simp only [cq])
          refine tkX 17 (some 76) ?_ phC (ph0 hH) ?_ ?_
          rotate_left
          · intro w hS0; (try dsimp only at hS0); obtain ⟨⟨jB, jT⟩, m0, m1, v0⟩ := HV.out _ hS0; obtain ⟨b0, b1⟩ := jB.c2; have b2 := jT.cell 2 rfl; have y1 := jB.lt; have y2 := jT.lt; have y3 := World.block_lt_of_cell? _ _ m0; have y4 := World.block_lt_of_cell? _ _ v0;go_simp; (try with_reducible rfl)
          (try simp only [cq])
          refine tkX 18 (some 77) ?_ phC (ph0 hH) ?_ ?_
          rotate_left
          · intro w _; go_simp; (try with_reducible rfl)
          (try simp only [cq])
          refine tkX 19 (some 78) ?_ phC (ph0 hH) ?_ ?_
          rotate_left
          · intro w hS0; (try dsimp only at hS0); obtain ⟨⟨jB, jT⟩, m0, m1, v0⟩ := HV.out _ hS0; obtain ⟨b0, b1⟩ := jB.c2; have b2 := jT.cell 2 rfl; have y1 := jB.lt; have y2 := jT.lt; have y3 := World.block_lt_of_cell? _ _ m0; have y4 := World.block_lt_of_cell? _ _ v0;go_simp; (try with_reducible rfl)
          (try simp only [cq])
          refine tkX 20 (some 79) ?_ phC (ph0 hH) ?_ ?_
          rotate_left
          · intro w hS0; (try dsimp only at hS0); obtain ⟨⟨jB, jT⟩, m0, m1, v0⟩ := HV.out _ hS0; obtain ⟨b0, b1⟩ := jB.c2; have b2 := jT.cell 2 rfl; have y1 := jB.lt; have y2 := jT.lt; have y3 := World.block_lt_of_cell? _ _ m0; have y4 := World.block_lt_of_cell? _ _ v0;go_simp; (try with_reducible rfl)
          (try simp only [cq])
          refine tkX 21 (some 80) ?_ phC (ph0 hH) ?_ ?_
          rotate_left
          · intro w _; go_simp; (try with_reducible rfl)
          (try simp only [cq])
          refine tkX 22 (some 81) ?_ phC (ph0 hH) ?_ ?_
          rotate_left
          · intro w hS0; (try dsimp only at hS0); obtain ⟨⟨jB, jT⟩, m0, m1, v0⟩ := HV.out _ hS0; obtain ⟨b0, b1⟩ := jB.c2; have b2 := jT.cell 2 rfl; have y1 := jB.lt; have y2 := jT.lt; have y3 := World.block_lt_of_cell? _ _ m0; have y4 := World.block_lt_of_cell? _ _ v0;go_simp; (try with_reducible rfl)
          (try simp only [cq])
          refine wpAnyP_ready (rs := [23]) (by kernel_rfl) (by simp) ?_
          refine arcP2 none (fun K hK => ?_) AllReadyP.nil
          obtain ⟨W0, hW0⟩ : ∃ W, belW3 hH.2.2 = W := ⟨_, rfl⟩
          simp only [belW3] at hW0
          rw [hW0] at hH ⊢
          clear hW0
          obtain ⟨rA, _, kB⟩ := hH
          have cA := XE10.out _ rA
          have fA := rA.frozenAt tt
          have yA := World.block_lt_of_cell? _ _ cA
          have HS := Lib.hid (rA.stored tt (.int .i64 (b + x))).1
          have HB9 := Lib.hid (kB.setCell (p := ⟨g, tt, none⟩) zg (.int .i64 (b + x)))
          clear rA kB
          go_simp
          refine hK.out _ _ ?_ ?_
          · (try dsimp only); exact HB9.out
          (try clear hH)
          intro hH
          (try dsimp only at hH)
          clear hK K
          (try simp only [cq])
          refine wpAnyP_done (by kernel_rfl) ?_ _
          (try dsimp only [Act.put])
          (try simp only [cq])
          clear cA fA yA hB rL XE10 HE10
          have rL := HS.out
          have hB := hH
          clear HS HB9 hH
          rw [cat_set (upF L0 f (a - x)) tt (b + x) k (by omega)] at rL
          obtain ⟨W1, hW1⟩ : ∃ W, belW3 hB = W := ⟨_, rfl⟩
          simp only [belW3] at hW1
          rw [hW1] at hB rL ⊢
          clear hW1
          go_wp2
          go_roundw
          case rel => exact ⟨j + 1, by go_num, by omega, by rw [HLS.out]; exact rL, hB⟩
          case measure => simp [intOf]; omega
        · obtain rfl : j = m := by omega
          go_wp2
          go_ret
          exact ⟨_, rfl, ownsRow_base rL zV, HJ.out.trans (hB.mono zV)⟩
end Go.Proofs.Ytpeogfcfiabcfaa
