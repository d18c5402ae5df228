/-
  knownOf (package fuel) at a book that has a truth: what is known of each flow.
-/
import Derived.Test.YtpeogfcfiabcfaaTail
import Derived.Test.YtpeogfcfiabcfaaKnS
set_option linter.unusedVariables false
set_option linter.unusedSimpArgs false
namespace Go.Proofs.Ytpeogfcfiabcfaa
open Go.RowKit Go.Shelf
attribute [local go_sem] Oper.semAt_some

theorem sets_any (m : Int) (w : World) :
    Calls Try.prog 126 #[.int .i64 m] w fun e w' => e = .returned (.func (.func 149) #[] #[.pointer (some ⟨w.heap.size, 0, none⟩)]) ∧ w.alloc (.cells #[.int .i64 m] 3) = w' := by
  go_enter Try.func126, Try.ntmps126
  go_wp2
  go_ret
  exact ⟨rfl, rfl⟩

theorem newsM (W : World) (o : Obj) (l : List Value) (t : TypeId) : ∀ (j : Nat) (u : Value), l[j]? = some u → ((W.alloc o).alloc (.cells l.toArray t)).cell? ((⟨W.heap.size + 1, 0, none⟩ : Addr).add j) = some u := by
  have h := newsN (W.alloc o) l t
  rwa [show (W.alloc o).heap.size = W.heap.size + 1 by simp] at h
theorem cell_put {W : World} {l b : Nat} {o : Obj} {v : Value} (h : W.cell? ⟨b, 0, none⟩ = some v) (hne : b ≠ l) : (W.putObj l o).cell? ⟨b, 0, none⟩ = some v := by
  refine (World.cell?_of_block (a := ⟨b, 0, none⟩) (World.putObj_heap_other ?_)).trans h
  first | exact hne | exact hne.symm
def CutS (E : Nat → Fl) (N M : Nat) : Prop := ∀ s, s < M → iLo E N (bS s) ≤ oHi E N (bS s) ∧ oLo E N (bS s) ≤ iHi E N (bS s)

set_option maxRecDepth 100000 in
set_option maxHeartbeats 4000000 in
theorem known_ok (n : Nat) (A : Nat → Ac) (m : Nat) (M : Nat → Mv) (vA vM : Value) (w : World) (hn : n ≤ 8) (hm : m ≤ 30) (hM0 : ∀ i, i < m → 0 ≤ (M i).fr ∧ 0 ≤ (M i).tt) (hA : AcsAt w vA n A) (hM : MvsAt w vM m M) (hs : NmOk n A) (hR : eRows n A m M = 0)
    (hE : FlOk (flE n A m M) (flN n m)) (hC : CutS (flE n A m M) (flN n m) (2 ^ (n + 1))) :
    Calls Try.prog 88 #[.agg #[vA, vM]] w fun e w' => ∃ bk cap, e = .returned (.tuple #[.slice (some ⟨bk, 0, none⟩) (flN n m) cap, .int .i64 0]) ∧ flN n m ≤ cap ∧ cap ≤ 9223372036854775807 ∧ w.heap.size ≤ bk ∧
      KnAt w' bk (flN n m) (knA (flE n A m M) (flN n m) (2 ^ (n + 1))).1 (knA (flE n A m M) (flN n m) (2 ^ (n + 1))).2 ∧ Below w.heap.size w w' := by
  have HR := Lib.hid (fun (W : World) (h : Below w.heap.size w W) => rows_any n A m M vA vM W (hA.later h) (hM.later h) hs)
  rw [hR] at HR
  have HF := Lib.hid (fun (W : World) (h : Below w.heap.size w W) => flows_any n A m M vA vM W hn hm hM0 (hA.later h) (hM.later h))
  obtain ⟨aA, cA, rfl, h1, h2, h3⟩ := hA
  obtain ⟨aM, cM, rfl, g1, g2, g3⟩ := hM
  clear h3 g3 hR hs hM0
  have hN : flN n m ≤ 60 := hE.1
  have hN1 : 1 ≤ flN n m := by unfold flN; omega
  obtain ⟨N, hNN⟩ : ∃ N, flN n m = N := ⟨_, rfl⟩
  obtain ⟨E, hEE⟩ : ∃ E, flE n A m M = E := ⟨_, rfl⟩
  rw [hNN, hEE] at HF hE hC ⊢
  rw [hNN] at hN hN1
  clear hNN hEE
  have HE := Lib.hid hE
  have HC := Lib.hid hC
  clear hE hC
  have jX := ((Blk.new w #[.slice aA n cA, .slice aM m cM] 44).alloc (.cells #[.slice none 0 0] 33)).alloc (.cells #[.int .i64 0] 35)
  have jR := (Blk.new1 w (.cells #[.slice aA n cA, .slice aM m cM] 44) #[.slice none 0 0] 33).alloc (.cells #[.int .i64 0] 35)
  have jE := Blk.new2 w (.cells #[.slice aA n cA, .slice aM m cM] 44) (.cells #[.slice none 0 0] 33) #[.int .i64 0] 35
  have jB : Below w.heap.size w (((w.alloc (.cells #[.slice aA n cA, .slice aM m cM] 44)).alloc (.cells #[.slice none 0 0] 33)).alloc (.cells #[.int .i64 0] 35)) := by (repeat (first | exact Below.refl _ _ | assumption | refine Below.drew ?_ | refine Below.drewN ?_ _ | refine blT ?_ | refine blU ?_))
  refine (callsIn_wide (n := 5)).1 ?_
  refine callsIn_of_wp_marks Try.func88 rfl trivial ?_ rfl
  simp only [Try.ntmps88, List.size_toArray, List.length_cons, List.length_nil, Nat.reduceAdd, Nat.reduceSub, Array.replicate_succ, Array.replicate_zero, List.push_toArray, List.append_toArray, List.nil_append, List.cons_append]
  gi_wp2_with fail
  refine ⟨trivial, ?_⟩
  refine (callsIn_wide.2 (HR.out _ jB)).mono ?_
  rintro e w1 ⟨rfl, hb⟩
  replace jX := jX.call hb
  replace jR := jR.call hb
  replace jE := jE.call hb
  replace jB := bwS jB (Nat.le_refl _) hb
  clear hb HR
  obtain ⟨x0, x1⟩ := jX.c2
  have zX := jX.lt
  gi_wp2_with fail
  refine ⟨trivial, ?_⟩
  refine (callsIn_wide.2 (HF.out _ jB)).mono ?_
  rintro e w2 ⟨vF, rfl, hrow, hb⟩
  replace hrow := ownsRow_base hrow jB.size
  replace jX := jX.call hb
  replace jR := jR.call hb
  replace jE := jE.call hb
  replace jB := bwS jB (Nat.le_refl _) hb
  clear hb HF x0 x1 zX
  obtain ⟨bf, capf, CF, rfl, hbf, hcf1, hcf2, jF, hCF⟩ := blk_of_row hrow (by omega)
  have HFL : Hid (∀ i j u, i < N → (flC E i)[j]? = some u → CF[i * 4 + j]? = some u) := by
    intro i j u hi hu
    have hj : j < 4 := by
      have := (List.getElem?_eq_some_iff.1 hu).1
      simpa [flC] using this
    rw [hCF (i * 4 + j) (by omega)]
    exact (catC_at (flC E) 4 i j hj N (fun _ _ => rfl) hi).trans hu
  clear hCF hrow
  gi_wp2_with fail
  obtain ⟨i0, hi0, hz0, hz1, hz2⟩ := info_parts Try.infoSpan
  have j5 := (Blk.new w2 #[.slice (some ⟨bf, 0, none⟩) N capf] 142).alloc (.cells #[.slice none 0 0] 33)
  have j6 := Blk.new1 w2 (.cells #[.slice (some ⟨bf, 0, none⟩) N capf] 142) #[.slice none 0 0] 33
  have hB7 : ((w2.alloc (.cells #[.slice (some ⟨bf, 0, none⟩) N capf] 142)).alloc (.cells #[.slice none 0 0] 33)).heap.size = w2.heap.size + 1 + 1 := by simp
  have zE2 := jE.lt
  replace jX := (jX.alloc (.cells #[.slice (some ⟨bf, 0, none⟩) N capf] 142)).alloc (.cells #[.slice none 0 0] 33)
  replace jR := (jR.alloc (.cells #[.slice (some ⟨bf, 0, none⟩) N capf] 142)).alloc (.cells #[.slice none 0 0] 33)
  replace jE := (jE.alloc (.cells #[.slice (some ⟨bf, 0, none⟩) N capf] 142)).alloc (.cells #[.slice none 0 0] 33)
  have zbf2 := jF.lt
  have zw2 := jB.size
  replace jF := (jF.alloc (.cells #[.slice (some ⟨bf, 0, none⟩) N capf] 142)).alloc (.cells #[.slice none 0 0] 33)
  replace jB : Below w.heap.size w ((w2.alloc (.cells #[.slice (some ⟨bf, 0, none⟩) N capf] 142)).alloc (.cells #[.slice none 0 0] 33)) := bwA (bwA jB (Nat.le_refl _) _) (Nat.le_refl _) _
  generalize (w2.alloc (.cells #[.slice (some ⟨bf, 0, none⟩) N capf] 142)).alloc (.cells #[.slice none 0 0] 33) = W3 at j5 j6 hB7 jX jR jE jF jB ⊢
  obtain ⟨b5, hb5⟩ : ∃ b, w2.heap.size = b := ⟨_, rfl⟩
  rw [hb5] at j5 j6 hB7 zbf2 zw2 zE2 ⊢
  clear hb5
  obtain ⟨B7, hB7'⟩ : ∃ b, W3.heap.size = b := ⟨_, rfl⟩
  have z7 : B7 = b5 + 1 + 1 := by omega
  have HB7 := Lib.hid hB7'
  clear hB7 hB7'
  have z70 : B7 ≤ W3.heap.size := by have := HB7.out; omega
  have zw7 : w.heap.size + 1 + 1 < B7 := by have := jE.lt; have := HB7.out; omega
  have jrow := World.ownsRow_nil W3 B7 26 2
  have hkeep : ∀ b, b < B7 → b ≠ b5 + 1 → W3.heap[b]? = W3.heap[b]? := fun _ _ _ => rfl
  gi_loopw [22] (fun i wr => ∃ (k : Nat) (v : Value), k ≤ N ∧ i = .int .i64 k ∧ Blk wr (b5 + 1) #[v] 33 ∧ wr.ownsRow B7 26 2 v k (catC (spC (fun i => (E i).l) (fun i => (E i).h)) k) ∧ (∀ b, b < B7 → b ≠ b5 + 1 → wr.heap[b]? = W3.heap[b]?) ∧ Below w.heap.size w wr ∧ B7 ≤ wr.heap.size) (fun i _ => N - (intOf i).toNat)
  case atStart => exact ⟨0, _, Nat.zero_le _, rfl, j6, jrow, hkeep, jB, z70⟩
  case round =>
    clear j6 jrow hkeep z70
    obtain ⟨k, v, hk, rfl, j6, jrow, hkeep, jBr, z7r⟩ := hrel
    by_cases hlt : k < N
    · have kF : Blk wr bf CF 145 := (hkeep bf (by omega) (by omega)).trans jF
      have k5 : Blk wr b5 _ _ := (hkeep b5 (by omega) (by omega)).trans j5
      have a0 := kF.cell _ (HFL.out k 0 _ hlt rfl)
      have a1 := kF.cell _ (HFL.out k 1 _ hlt rfl)
      have a2 := kF.cell _ (HFL.out k 2 _ hlt rfl)
      have a3 := kF.cell _ (HFL.out k 3 _ hlt rfl)
      simp only [Nat.add_zero] at a0
      have zF := kF.lt
      have H1 := Lib.hid (show catC (spC (fun i => (E i).l) (fun i => (E i).h)) (k + 1) = catC (spC (fun i => (E i).l) (fun i => (E i).h)) k ++ [.int .i64 (E k).l, .int .i64 (E k).h] from rfl)
      obtain ⟨f, hf⟩ : ∃ f, E k = f := ⟨_, rfl⟩
      rw [hf] at a0 a1 a2 a3 H1
      clear hf
      have cb := j6.cell1
      have zb := j6.lt
      have hr : ∀ z, v.ownBlock = some z → B7 ≤ z := fun z e => (jrow.lt z e).1
      have c5 := k5.cell1
      have z5 := k5.lt
      have kA := Blk.new wr #[.int .i64 f.a, .int .i64 f.b, .int .i64 f.l, .int .i64 f.h] 145
      gi_wp2_with (gi_at_builtin; refine wpListIn_append_own _ rfl _ _ 33 rfl B7 26 i0 (.agg #[.int .i64 0, .int .i64 0]) 2 16 Try.underlying33 hi0 hz0 hz1 hz2 rfl (by decide) _ _ _ rfl ((jrow.alloc _).alloc _) ⟨wr.heap.size + 1, 0, none⟩ 1 1 [.int .i64 f.l, .int .i64 f.h] rfl rfl (newsM wr _ _ _) (one2 _ _) (by unfold maxLen; omega) (by omega) (by simp; omega) ?_; intro v' w4 hown' hgrow _; obtain ⟨g', cap', rfl⟩ := ownsRow_succ hown'; have kb6 : Blk w4 (b5 + 1) #[v] 33 := ((j6.alloc _).alloc _).grown3 hgrow (fun q e => by have := hr q e; omega); have cb4 := kb6.cell1; have fb4 := kb6.free 0; have zb4 := kb6.lt)
      have hA : Below B7 wr ((wr.alloc (.cells #[.int .i64 f.a, .int .i64 f.b, .int .i64 f.l, .int .i64 f.h] 145)).alloc (.cells #[.int .i64 f.l, .int .i64 f.h] 26)) := bwA ((Below.refl _ wr).alloc z7r _) z7r _
      have hG : Below B7 wr w4 := grown_below hA hgrow hr z7r
      have e1 : ∀ b, b < B7 → b ≠ b5 + 1 → (w4.setCell ⟨b5 + 1, 0, none⟩ (.slice (some ⟨g', 0, none⟩) (k + 1) cap')).heap[b]? = W3.heap[b]? := fun b h1 h2 => ((Below.heap_setCell w4 ⟨b5 + 1, 0, none⟩ _ b h2).trans (hG.block b h1)).trans (hkeep b h1 h2)
      have e2 := kb6.set 0 (.slice (some ⟨g', 0, none⟩) (k + 1) cap')
      rw [← H1.out] at hown'
      have e3 := ownsRow_setCell_below hown' (a := ⟨b5 + 1, 0, none⟩) (by simp; omega) (.slice (some ⟨g', 0, none⟩) (k + 1) cap')
      have e4 : Below w.heap.size w (w4.setCell ⟨b5 + 1, 0, none⟩ (.slice (some ⟨g', 0, none⟩) (k + 1) cap')) := (jBr.trans (hG.mono (by omega))).setCell (by simp; omega) _
      have e5 : B7 ≤ (w4.setCell ⟨b5 + 1, 0, none⟩ (.slice (some ⟨g', 0, none⟩) (k + 1) cap')).heap.size := by have := hG.size; simp; omega
      go_roundw
      case rel => exact ⟨k + 1, _, by omega, by go_num, e2, e3, e1, e4, e5⟩
      case measure => simp [intOf]; omega
    · have ek : N = k := by omega
      subst ek
      have kX : Blk wr w.heap.size _ _ := (hkeep _ (by omega) (by omega)).trans jX
      have kR : Blk wr (w.heap.size + 1) _ _ := (hkeep _ (by omega) (by omega)).trans jR
      have kE : Blk wr (w.heap.size + 1 + 1) _ _ := (hkeep _ (by omega) (by omega)).trans jE
      have k5 : Blk wr b5 _ _ := (hkeep b5 (by omega) (by omega)).trans j5
      have kF : Blk wr bf CF 145 := (hkeep bf (by omega) (by omega)).trans jF
      clear jX jR jE j5 jF hkeep jB
      obtain ⟨bk, capk, CK, rfl, hbk, hck1, hck2, jK, hCK⟩ := blk_of_row jrow (by omega)
      have hK0 : KnAt wr bk N (knA E N 0).1 (knA E N 0).2 := by
        refine ⟨CK, jK, fun i hi => ?_⟩
        have q0 := (hCK (i * 2 + 0) (by omega)).trans (catC_at (spC (fun i => (E i).l) (fun i => (E i).h)) 2 i 0 (by decide) N (fun _ _ => rfl) hi)
        have q1 := (hCK (i * 2 + 1) (by omega)).trans (catC_at (spC (fun i => (E i).l) (fun i => (E i).h)) 2 i 1 (by decide) N (fun _ _ => rfl) hi)
        exact ⟨q0, q1⟩
      clear jrow hCK jK
      obtain ⟨x0, x1⟩ := kX.c2
      have zX := kX.lt
      gi_wp2_with fail
      refine ⟨trivial, ?_⟩
      refine (callsIn_wide.2 (sets_any _ wr)).mono ?_
      rintro e w4 ⟨rfl, hw4⟩
      have qR := kR.alloc (.cells #[.int .i64 ((n : Int) + 1)] 3)
      have qE := kE.alloc (.cells #[.int .i64 ((n : Int) + 1)] 3)
      have q5 := k5.alloc (.cells #[.int .i64 ((n : Int) + 1)] 3)
      have q6 := j6.alloc (.cells #[.int .i64 ((n : Int) + 1)] 3)
      have qF := kF.alloc (.cells #[.int .i64 ((n : Int) + 1)] 3)
      have qK := hK0.alloc (.cells #[.int .i64 ((n : Int) + 1)] 3)
      have qC : Blk (wr.alloc (.cells #[.int .i64 ((n : Int) + 1)] 3)) wr.heap.size #[.int .i64 ((n + 1 : Nat) : Int)] 3 := Blk.new wr #[.int .i64 ((n : Int) + 1)] 3
      have qB := bwA jBr (Nat.le_refl _) (.cells #[.int .i64 ((n : Int) + 1)] 3)
      have zc : wr.heap.size < w4.heap.size := by rw [← hw4]; simp
      rw [hw4] at qR qE q5 q6 qF qK qC qB
      obtain ⟨bc, hbc⟩ : ∃ b, wr.heap.size = b := ⟨_, rfl⟩
      rw [hbc] at qC zc
      clear hw4 kR kE k5 j6 kF hK0 jBr x0 x1 zX kX
      gi_wp2_with fail
      refine range_raw rfl (by omega) (gf := 149) (lb := #[.pointer (some ⟨bc, 0, none⟩)]) rfl trivial (enters_of Try.func149 (by kernel_rfl) rfl) (fun fn hfn rec hrec => ?_)
      have e1 : ((w4.alloc (.deferred (some []))).alloc (.loop (rec .ready none))).heap[w4.heap.size + 1]? = some (.loop (rec .ready none)) := by
        have := World.alloc_heap_new (w4.alloc (.deferred (some []))) (.loop (rec .ready none))
        simpa using this
      have e2 : ((w4.alloc (.deferred (some []))).alloc (.loop (rec .ready none))).heap[w4.heap.size]? = some (.deferred (some [])) := (Below.heap_alloc _ _ _ (by simp)).trans (World.alloc_heap_new w4 _)
      have e3 : Below w4.heap.size w4 ((w4.alloc (.deferred (some []))).alloc (.loop (rec .ready none))) := by (repeat (first | exact Below.refl _ _ | assumption | refine Below.drew ?_ | refine Below.drewN ?_ _ | refine blT ?_ | refine blU ?_))
      obtain ⟨W1, hW1⟩ : ∃ W, (w4.alloc (.deferred (some []))).alloc (.loop (rec .ready none)) = W := ⟨_, rfl⟩
      rw [hW1] at e1 e2 e3 ⊢
      clear hW1
      have hJ0 : KnS w b5 (b5 + 1) bk bf capk capf bc (n + 1) w4.heap.size (w4.heap.size + 1) (.loop (rec .ready none)) (.deferred (some [])) N E (knA E N 0).1 (knA E N 0).2 W1 := ⟨bwS qB (Nat.le_refl _) e3, qR.call e3, qE.call e3, q5.call e3, q6.call e3, ⟨CF, qF.call e3, HFL.out⟩, qK.later e3, qC.call e3, e1, e2⟩
      have hd4 : w.heap.size ≤ w4.heap.size := qB.size
      clear e1 e2 e3 qR qE q5 q6 qF qK qC qB HFL CF HB7
      refine (sets1_in 4 (w4.heap.size + 1) bc (n + 1) (by omega) (fun k W => KnS w b5 (b5 + 1) bk bf capk capf bc (n + 1) w4.heap.size (w4.heap.size + 1) (.loop (rec .ready none)) (.deferred (some [])) N E (knA E N k).1 (knA E N k).2 W) ?hJb ?hJc ?hY W1 hJ0).mono ?post
      case hJb => exact fun k W W' h hb => h.call hb
      case hJc => exact fun k W h => h.cnt.cell1
      case hY =>
        intro k V bh hk hJ hH
        refine round_raw (R := fun W' => KnS w b5 (b5 + 1) bk bf capk capf bc (n + 1) w4.heap.size (w4.heap.size + 1) (.loop (rec .ready none)) (.deferred (some [])) N E (knA E N (k + 1)).1 (knA E N (k + 1)).2 W') trivial hrec hJ.loop rfl ?_
        have hcut := HC.out k hk
        clear hJ0 HC hrec
        have hk1 : k < 1048576 := by
          have : 2 ^ (n + 1) ≤ 2 ^ 9 := Nat.pow_le_pow_right (by decide) (by omega)
          simp at this
          omega
        unfold setV
        gi_wp2
        have zl := (Array.getElem?_eq_some_iff.1 hJ.loop).1
        have g1 := (Below.heap_alloc V (.cells #[.func (.func 151) #[] #[.pointer (some ⟨bh, 0, none⟩)], .func (.func 152) #[] #[.pointer (some ⟨bh, 0, none⟩)]] 151) _ zl).trans hJ.loop
        refine ⟨g1, ?_⟩
        have kA := hJ.call ((Below.refl _ V).alloc (Nat.le_refl _) (.cells #[.func (.func 151) #[] #[.pointer (some ⟨bh, 0, none⟩)], .func (.func 152) #[] #[.pointer (some ⟨bh, 0, none⟩)]] 151))
        have kP := kA.put (by omega) (fun C t h => by cases h) (by omega) (.loop (rec .busy none))
        have jS : Blk ((V.alloc (.cells #[.func (.func 151) #[] #[.pointer (some ⟨bh, 0, none⟩)], .func (.func 152) #[] #[.pointer (some ⟨bh, 0, none⟩)]] 151)).putObj (w4.heap.size + 1) (.loop (rec .busy none))) V.heap.size #[.func (.func 151) #[] #[.pointer (some ⟨bh, 0, none⟩)], .func (.func 152) #[] #[.pointer (some ⟨bh, 0, none⟩)]] 151 := (World.putObj_heap_other (by omega)).trans (Blk.new V _ _)
        have jH : HasAt ((V.alloc (.cells #[.func (.func 151) #[] #[.pointer (some ⟨bh, 0, none⟩)], .func (.func 152) #[] #[.pointer (some ⟨bh, 0, none⟩)]] 151)).putObj (w4.heap.size + 1) (.loop (rec .busy none))) bh k := by
          obtain ⟨bm, q1, q2⟩ := hH
          have mv : ∀ {b : Nat} {D : Array Value} {t : TypeId}, Blk V b D t → Blk ((V.alloc (.cells #[.func (.func 151) #[] #[.pointer (some ⟨bh, 0, none⟩)], .func (.func 152) #[] #[.pointer (some ⟨bh, 0, none⟩)]] 151)).putObj (w4.heap.size + 1) (.loop (rec .busy none))) b D t := by
            intro b D t hD
            refine (World.putObj_heap_other (fun e => ?_)).trans (hD.alloc _)
            have h3 := hJ.loop
            have h4 : V.heap[b]? = some (.cells D t (0, 0)) := hD
            first | rw [e] at h4 | rw [← e] at h4
            rw [h4] at h3
            simp at h3
          exact ⟨bm, mv q1, mv q2⟩
        clear hH hJ kA g1
        have hJ := kP
        clear kP
        obtain ⟨b9, hb9⟩ : ∃ b, V.heap.size = b := ⟨_, rfl⟩
        rw [hb9] at jS ⊢
        clear hb9
        generalize (V.alloc (.cells #[.func (.func 151) #[] #[.pointer (some ⟨bh, 0, none⟩)], .func (.func 152) #[] #[.pointer (some ⟨bh, 0, none⟩)]] 151)).putObj (w4.heap.size + 1) (.loop (rec .busy none)) = V2 at jS jH hJ ⊢
        obtain ⟨B9, hB9⟩ : ∃ b, V2.heap.size = b := ⟨_, rfl⟩
        have HB9 := Lib.hid hB9
        have z9 : B9 ≤ V2.heap.size := by omega
        have z90 : w.heap.size ≤ B9 := by have := hJ.old.size; omega
        have kB : Below B9 V2 V2 := by rw [← hB9]; exact Below.refl _ _
        clear hB9 zl
        have hEs := HE.out.sum (bS k) N (Nat.le_refl _)
        have K1 := Lib.hid (fun (W : World) (h : Below B9 V2 W) => sum_into E N k bh HE.out hk1 _ W (((hJ.at hcf1 hcf2).later (by rw [← HB9.out] at h; exact h))) (jH.later (by rw [← HB9.out] at h; exact h)))
        have K2 := Lib.hid (fun (W : World) (h : Below B9 V2 W) => sum_outof E N k bh HE.out hk1 _ W (((hJ.at hcf1 hcf2).later (by rw [← HB9.out] at h; exact h))) (jH.later (by rw [← HB9.out] at h; exact h)))
        have L0 := Lib.hid (fun (W : World) (h : Below B9 V2 W) => (hJ.c5.call (by rw [← HB9.out] at h; exact h)).cell1)
        have L1 := Lib.hid (fun (W : World) (h : Below B9 V2 W) => (jS.call (by rw [← HB9.out] at h; exact h)).c2)
        have z5 := hJ.c5.lt
        have zS := jS.lt
        obtain ⟨i1, hi1⟩ : ∃ q, iLo E N (bS k) = q := ⟨_, rfl⟩
        obtain ⟨i2, hi2⟩ : ∃ q, iHi E N (bS k) = q := ⟨_, rfl⟩
        obtain ⟨o1, ho1⟩ : ∃ q, oLo E N (bS k) = q := ⟨_, rfl⟩
        obtain ⟨o2, ho2⟩ : ∃ q, oHi E N (bS k) = q := ⟨_, rfl⟩
        rw [hi1, hi2, ho1, ho2] at hEs
        rw [hi1, hi2] at K1
        rw [ho1, ho2] at K2
        rw [hi1, hi2, ho1, ho2] at hcut
        have HQ := Lib.hid (And.intro hi1 (And.intro hi2 (And.intro ho1 ho2)))
        clear hi1 hi2 ho1 ho2
        gi_wp2_with fail
        (
 let S9 : World → Prop := (fun w' => Below B9 V2 w')
 refine region_round (S := S9) (by kernel_rfl) (by kernel_rfl) (fun ⟨_, _, h⟩ => by cases h.1) ?_ (fun hH => ?_)
 · (try dsimp only); (exact kB.drew)
 apply share0_2 (fun (bI bO : Nat) (W : World) => S9 W ∧ Blk W bI #[.int .i64 0, .int .i64 0] 26 ∧ Blk W bO #[.int .i64 0, .int .i64 0] 26 ∧ (B9 ≤ bI) ∧ (B9 ≤ bO) ∧ (bI ≠ bO))
 {
 intro X2_01
 apply share0_2 (fun (bI bO : Nat) (W : World) => S9 W ∧ Blk W bI #[.int .i64 0, .int .i64 0] 26 ∧ Blk W bO #[.int .i64 0, .int .i64 0] 26 ∧ (B9 ≤ bI) ∧ (B9 ≤ bO) ∧ (bI ≠ bO))
 {
 intro X1_01
 apply share0_1 (fun (bI : Nat) (W : World) => S9 W ∧ Blk W bI #[.int .i64 0, .int .i64 0] 26 ∧ (B9 ≤ bI))
 {
 intro X2_0
 apply share0_1 (fun (bO : Nat) (W : World) => S9 W ∧ Blk W bO #[.int .i64 0, .int .i64 0] 26 ∧ (B9 ≤ bO))
 {
 intro X2_1
 apply share0_2 (fun (bI bO : Nat) (W : World) => S9 W ∧ Blk W bI #[.int .i64 0, .int .i64 0] 26 ∧ Blk W bO #[.int .i64 0, .int .i64 0] 26 ∧ (B9 ≤ bI) ∧ (B9 ≤ bO) ∧ (bI ≠ bO))
 {
 intro X0_01
 apply share0_1 (fun (bI : Nat) (W : World) => S9 W ∧ Blk W bI #[.int .i64 0, .int .i64 0] 26 ∧ (B9 ≤ bI))
 {
 intro X1_0
 apply share0_1 (fun (bO : Nat) (W : World) => S9 W ∧ Blk W bO #[.int .i64 0, .int .i64 0] 26 ∧ (B9 ≤ bO))
 {
 intro X1_1
 apply share0_1 (fun (bI : Nat) (W : World) => S9 W ∧ Blk W bI #[.int .i64 0, .int .i64 0] 26 ∧ (B9 ≤ bI))
 {
 intro X0_0
 apply share0_1 (fun (bO : Nat) (W : World) => S9 W ∧ Blk W bO #[.int .i64 0, .int .i64 0] 26 ∧ (B9 ≤ bO))
 {
 intro X0_1
 refine tkY 0 (some 38) ?_ ?_ ?_
 rotate_left
 · intro w hS0; (try dsimp only at hS0); have p0 := L0.out _ hS0; obtain ⟨p1, p2⟩ := L1.out _ hS0; have y5 := World.block_lt_of_cell? _ _ p0; have y6 := World.block_lt_of_cell? _ _ p1;go_simp; (try with_reducible rfl)
 (try simp only [cq])
 refine tkY 1 (some 39) ?_ ?_ ?_
 rotate_left
 · intro w hS0; (try dsimp only at hS0); have p0 := L0.out _ hS0; obtain ⟨p1, p2⟩ := L1.out _ hS0; have y5 := World.block_lt_of_cell? _ _ p0; have y6 := World.block_lt_of_cell? _ _ p1;go_simp; (try with_reducible rfl)
 (try simp only [cq])
 refine tkY 2 (some 40) ?_ ?_ ?_
 rotate_left
 · intro w hS0; (try dsimp only at hS0); have p0 := L0.out _ hS0; obtain ⟨p1, p2⟩ := L1.out _ hS0; have y5 := World.block_lt_of_cell? _ _ p0; have y6 := World.block_lt_of_cell? _ _ p1;go_simp; (try with_reducible rfl)
 (try simp only [cq])
 refine tkY 4 (some 42) ?_ ?_ ?_
 rotate_left
 · intro w hS0; (try dsimp only at hS0); have p0 := L0.out _ hS0; obtain ⟨p1, p2⟩ := L1.out _ hS0; have y5 := World.block_lt_of_cell? _ _ p0; have y6 := World.block_lt_of_cell? _ _ p1;go_simp; (try with_reducible rfl)
 (try simp only [cq])
 refine tkY 5 (some 43) ?_ ?_ ?_
 rotate_left
 · intro w hS0; (try dsimp only at hS0); have p0 := L0.out _ hS0; obtain ⟨p1, p2⟩ := L1.out _ hS0; have y5 := World.block_lt_of_cell? _ _ p0; have y6 := World.block_lt_of_cell? _ _ p1;go_simp; (try with_reducible rfl)
 (try simp only [cq])
 refine tkY 6 (some 44) ?_ ?_ ?_
 rotate_left
 · intro w hS0; (try dsimp only at hS0); have p0 := L0.out _ hS0; obtain ⟨p1, p2⟩ := L1.out _ hS0; have y5 := World.block_lt_of_cell? _ _ p0; have y6 := World.block_lt_of_cell? _ _ p1;go_simp; (try with_reducible rfl)
 (try simp only [cq])
 refine wpAnyH_ready (rs := [3, 8, 9]) (by kernel_rfl) (by simp) ?_
 refine arc (some 41) (fun K hK => ?_) ?_
 {
 go_simp
 (refine (K1.out _ hH).mono ?_; rintro e w' ⟨rfl, hb⟩)
 refine hK.out _ _ ?_ ?_
 · (exact hH.trans (hb.mono (Nat.le_trans z9 hH.size)))
 (try clear hH); (try clear hb)
 intro hH
 clear hK K
 (try simp only [cq])
 refine wpAnyH_ready (rs := [7, 8, 9]) (by kernel_rfl) (by simp) ?_
 refine arc (some 45) (fun K hK => ?_) ?_
 {
 go_simp
 (refine (K2.out _ hH).mono ?_; rintro e w' ⟨rfl, hb⟩)
 refine hK.out _ _ ?_ ?_
 · (exact hH.trans (hb.mono (Nat.le_trans z9 hH.size)))
 (try clear hH); (try clear hb)
 intro hH
 clear hK K
 (try simp only [cq])
 refine wpAnyH_ready (rs := [8, 9]) (by kernel_rfl) (by simp) ?_
 refine arc (some 10) (fun K hK => ?_) ?_
 {
 (have hNbI1 := Nat.le_trans z9 hH.size; (try simp only [World.drew] at hNbI1))
 go_simp
 first | refine oA hK ?_ (fun hH hA => ?_) | refine oD hK ?_ (fun hH hA => ?_)
 · exact hH.alloc (Nat.le_trans z9 hH.size) _
 clear hK K
 (try simp only [cq])
 obtain ⟨bI, hbA⟩ : ∃ b, Blk.num hA = b := ⟨_, rfl⟩
 obtain ⟨W, hW⟩ : ∃ V, Blk.wld hA = V := ⟨_, rfl⟩
 simp only [Blk.num] at hbA
 simp only [Blk.wld] at hW
 rw [hW] at hH hA ⊢
 rw [hbA] at hA ⊢
 replace hNbI1 : B9 ≤ bI := (by rw [← hbA]; exact hNbI1)
 clear hW hbA
 have hAbI := hA
 clear hA
 exact X2_0 bI W ⟨hH, hAbI, hNbI1⟩
 }
 refine arc (some 11) (fun K hK => ?_) ?_
 {
 (have hNbO1 := Nat.le_trans z9 hH.size; (try simp only [World.drew] at hNbO1))
 go_simp
 first | refine oA hK ?_ (fun hH hA => ?_) | refine oD hK ?_ (fun hH hA => ?_)
 · exact hH.alloc (Nat.le_trans z9 hH.size) _
 clear hK K
 (try simp only [cq])
 obtain ⟨bO, hbA⟩ : ∃ b, Blk.num hA = b := ⟨_, rfl⟩
 obtain ⟨W, hW⟩ : ∃ V, Blk.wld hA = V := ⟨_, rfl⟩
 simp only [Blk.num] at hbA
 simp only [Blk.wld] at hW
 rw [hW] at hH hA ⊢
 rw [hbA] at hA ⊢
 replace hNbO1 : B9 ≤ bO := (by rw [← hbA]; exact hNbO1)
 clear hW hbA
 have hAbO := hA
 clear hA
 exact X2_1 bO W ⟨hH, hAbO, hNbO1⟩
 }
 exact AllReadyH.nil
 }
 refine arc (some 10) (fun K hK => ?_) ?_
 {
 (have hNbI1 := Nat.le_trans z9 hH.size; (try simp only [World.drew] at hNbI1))
 go_simp
 first | refine oA hK ?_ (fun hH hA => ?_) | refine oD hK ?_ (fun hH hA => ?_)
 · exact hH.alloc (Nat.le_trans z9 hH.size) _
 clear hK K
 (try simp only [cq])
 obtain ⟨bI, hbA⟩ : ∃ b, Blk.num hA = b := ⟨_, rfl⟩
 obtain ⟨W, hW⟩ : ∃ V, Blk.wld hA = V := ⟨_, rfl⟩
 simp only [Blk.num] at hbA
 simp only [Blk.wld] at hW
 rw [hW] at hH hA ⊢
 rw [hbA] at hA ⊢
 replace hNbI1 : B9 ≤ bI := (by rw [← hbA]; exact hNbI1)
 clear hW hbA
 have hAbI := hA
 clear hA
 exact X1_0 bI W ⟨hH, hAbI, hNbI1⟩
 }
 refine arc (some 11) (fun K hK => ?_) ?_
 {
 (have hNbO1 := Nat.le_trans z9 hH.size; (try simp only [World.drew] at hNbO1))
 go_simp
 first | refine oA hK ?_ (fun hH hA => ?_) | refine oD hK ?_ (fun hH hA => ?_)
 · exact hH.alloc (Nat.le_trans z9 hH.size) _
 clear hK K
 (try simp only [cq])
 obtain ⟨bO, hbA⟩ : ∃ b, Blk.num hA = b := ⟨_, rfl⟩
 obtain ⟨W, hW⟩ : ∃ V, Blk.wld hA = V := ⟨_, rfl⟩
 simp only [Blk.num] at hbA
 simp only [Blk.wld] at hW
 rw [hW] at hH hA ⊢
 rw [hbA] at hA ⊢
 replace hNbO1 : B9 ≤ bO := (by rw [← hbA]; exact hNbO1)
 clear hW hbA
 have hAbO := hA
 clear hA
 exact X1_1 bO W ⟨hH, hAbO, hNbO1⟩
 }
 exact AllReadyH.nil
 }
 refine arc (some 10) (fun K hK => ?_) ?_
 {
 (have hNbI1 := Nat.le_trans z9 hH.size; (try simp only [World.drew] at hNbI1))
 go_simp
 first | refine oA hK ?_ (fun hH hA => ?_) | refine oD hK ?_ (fun hH hA => ?_)
 · exact hH.alloc (Nat.le_trans z9 hH.size) _
 clear hK K
 (try simp only [cq])
 obtain ⟨bI, hbA⟩ : ∃ b, Blk.num hA = b := ⟨_, rfl⟩
 obtain ⟨W, hW⟩ : ∃ V, Blk.wld hA = V := ⟨_, rfl⟩
 simp only [Blk.num] at hbA
 simp only [Blk.wld] at hW
 rw [hW] at hH hA ⊢
 rw [hbA] at hA ⊢
 replace hNbI1 : B9 ≤ bI := (by rw [← hbA]; exact hNbI1)
 clear hW hbA
 have hAbI := hA
 clear hA
 exact X0_0 bI W ⟨hH, hAbI, hNbI1⟩
 }
 refine arc (some 11) (fun K hK => ?_) ?_
 {
 (have hNbO1 := Nat.le_trans z9 hH.size; (try simp only [World.drew] at hNbO1))
 go_simp
 first | refine oA hK ?_ (fun hH hA => ?_) | refine oD hK ?_ (fun hH hA => ?_)
 · exact hH.alloc (Nat.le_trans z9 hH.size) _
 clear hK K
 (try simp only [cq])
 obtain ⟨bO, hbA⟩ : ∃ b, Blk.num hA = b := ⟨_, rfl⟩
 obtain ⟨W, hW⟩ : ∃ V, Blk.wld hA = V := ⟨_, rfl⟩
 simp only [Blk.num] at hbA
 simp only [Blk.wld] at hW
 rw [hW] at hH hA ⊢
 rw [hbA] at hA ⊢
 replace hNbO1 : B9 ≤ bO := (by rw [← hbA]; exact hNbO1)
 clear hW hbA
 have hAbO := hA
 clear hA
 exact X0_1 bO W ⟨hH, hAbO, hNbO1⟩
 }
 exact AllReadyH.nil
 }
 {
 intro bO W hall
 obtain ⟨hH, hAbO, hNbO1⟩ := hall
 (try dsimp only at hH)
 refine wpAnyH_ready (rs := [3, 8]) (by kernel_rfl) (by simp) ?_
 refine arc (some 41) (fun K hK => ?_) ?_
 {
 go_simp
 (refine (K1.out _ hH).mono ?_; rintro e w' ⟨rfl, hb⟩)
 (replace hAbO := hAbO.call hb)
 refine hK.out _ _ ?_ ?_
 · (exact hH.trans (hb.mono (Nat.le_trans z9 hH.size)))
 (try clear hH); (try clear hb)
 intro hH
 clear hK K
 (try simp only [cq])
 exact X1_1 bO w' ⟨hH, hAbO, hNbO1⟩
 }
 refine arc (some 10) (fun K hK => ?_) ?_
 {
 (have hNbI1 := Nat.le_trans z9 hH.size; (try simp only [World.drew] at hNbI1))
 have zzbO := hAbO.lt
 go_simp
 first | refine oA hK ?_ (fun hH hA => ?_) | refine oD hK ?_ (fun hH hA => ?_)
 · exact hH.alloc (Nat.le_trans z9 hH.size) _
 clear hK K
 (try simp only [cq])
 obtain ⟨bI, hbA⟩ : ∃ b, Blk.num hA = b := ⟨_, rfl⟩
 obtain ⟨W, hW⟩ : ∃ V, Blk.wld hA = V := ⟨_, rfl⟩
 simp only [Blk.num] at hbA
 simp only [Blk.wld] at hW
 first | replace hAbO := awB hW hAbO | replace hAbO := awD hW hAbO
 rw [hW] at hH hA ⊢
 rw [hbA] at hA ⊢
 replace hNbI1 : B9 ≤ bI := (by rw [← hbA]; exact hNbI1)
 have hPbIbO : bI ≠ bO := (by (try simp only [World.drew] at zzbO hbA); omega)
 clear hW hbA zzbO
 have hAbI := hA
 clear hA
 exact X0_01 bI bO W ⟨hH, hAbI, hAbO, hNbI1, hNbO1, hPbIbO⟩
 }
 exact AllReadyH.nil
 }
 }
 {
 intro bI W hall
 obtain ⟨hH, hAbI, hNbI1⟩ := hall
 (try dsimp only at hH)
 refine wpAnyH_ready (rs := [3, 9]) (by kernel_rfl) (by simp) ?_
 refine arc (some 41) (fun K hK => ?_) ?_
 {
 go_simp
 (refine (K1.out _ hH).mono ?_; rintro e w' ⟨rfl, hb⟩)
 (replace hAbI := hAbI.call hb)
 refine hK.out _ _ ?_ ?_
 · (exact hH.trans (hb.mono (Nat.le_trans z9 hH.size)))
 (try clear hH); (try clear hb)
 intro hH
 clear hK K
 (try simp only [cq])
 exact X1_0 bI w' ⟨hH, hAbI, hNbI1⟩
 }
 refine arc (some 11) (fun K hK => ?_) ?_
 {
 (have hNbO1 := Nat.le_trans z9 hH.size; (try simp only [World.drew] at hNbO1))
 have zzbI := hAbI.lt
 go_simp
 first | refine oA hK ?_ (fun hH hA => ?_) | refine oD hK ?_ (fun hH hA => ?_)
 · exact hH.alloc (Nat.le_trans z9 hH.size) _
 clear hK K
 (try simp only [cq])
 obtain ⟨bO, hbA⟩ : ∃ b, Blk.num hA = b := ⟨_, rfl⟩
 obtain ⟨W, hW⟩ : ∃ V, Blk.wld hA = V := ⟨_, rfl⟩
 simp only [Blk.num] at hbA
 simp only [Blk.wld] at hW
 first | replace hAbI := awB hW hAbI | replace hAbI := awD hW hAbI
 rw [hW] at hH hA ⊢
 rw [hbA] at hA ⊢
 replace hNbO1 : B9 ≤ bO := (by rw [← hbA]; exact hNbO1)
 have hPbIbO : bI ≠ bO := (by (try simp only [World.drew] at zzbI hbA); omega)
 clear hW hbA zzbI
 have hAbO := hA
 clear hA
 exact X0_01 bI bO W ⟨hH, hAbI, hAbO, hNbI1, hNbO1, hPbIbO⟩
 }
 exact AllReadyH.nil
 }
 }
 {
 intro bO W hall
 obtain ⟨hH, hAbO, hNbO1⟩ := hall
 (try dsimp only at hH)
 refine wpAnyH_ready (rs := [7, 8]) (by kernel_rfl) (by simp) ?_
 refine arc (some 45) (fun K hK => ?_) ?_
 {
 go_simp
 (refine (K2.out _ hH).mono ?_; rintro e w' ⟨rfl, hb⟩)
 (replace hAbO := hAbO.call hb)
 refine hK.out _ _ ?_ ?_
 · (exact hH.trans (hb.mono (Nat.le_trans z9 hH.size)))
 (try clear hH); (try clear hb)
 intro hH
 clear hK K
 (try simp only [cq])
 exact X2_1 bO w' ⟨hH, hAbO, hNbO1⟩
 }
 refine arc (some 10) (fun K hK => ?_) ?_
 {
 (have hNbI1 := Nat.le_trans z9 hH.size; (try simp only [World.drew] at hNbI1))
 have zzbO := hAbO.lt
 go_simp
 first | refine oA hK ?_ (fun hH hA => ?_) | refine oD hK ?_ (fun hH hA => ?_)
 · exact hH.alloc (Nat.le_trans z9 hH.size) _
 clear hK K
 (try simp only [cq])
 obtain ⟨bI, hbA⟩ : ∃ b, Blk.num hA = b := ⟨_, rfl⟩
 obtain ⟨W, hW⟩ : ∃ V, Blk.wld hA = V := ⟨_, rfl⟩
 simp only [Blk.num] at hbA
 simp only [Blk.wld] at hW
 first | replace hAbO := awB hW hAbO | replace hAbO := awD hW hAbO
 rw [hW] at hH hA ⊢
 rw [hbA] at hA ⊢
 replace hNbI1 : B9 ≤ bI := (by rw [← hbA]; exact hNbI1)
 have hPbIbO : bI ≠ bO := (by (try simp only [World.drew] at zzbO hbA); omega)
 clear hW hbA zzbO
 have hAbI := hA
 clear hA
 exact X1_01 bI bO W ⟨hH, hAbI, hAbO, hNbI1, hNbO1, hPbIbO⟩
 }
 exact AllReadyH.nil
 }
 }
 {
 intro bI W hall
 obtain ⟨hH, hAbI, hNbI1⟩ := hall
 (try dsimp only at hH)
 refine wpAnyH_ready (rs := [7, 9]) (by kernel_rfl) (by simp) ?_
 refine arc (some 45) (fun K hK => ?_) ?_
 {
 go_simp
 (refine (K2.out _ hH).mono ?_; rintro e w' ⟨rfl, hb⟩)
 (replace hAbI := hAbI.call hb)
 refine hK.out _ _ ?_ ?_
 · (exact hH.trans (hb.mono (Nat.le_trans z9 hH.size)))
 (try clear hH); (try clear hb)
 intro hH
 clear hK K
 (try simp only [cq])
 exact X2_0 bI w' ⟨hH, hAbI, hNbI1⟩
 }
 refine arc (some 11) (fun K hK => ?_) ?_
 {
 (have hNbO1 := Nat.le_trans z9 hH.size; (try simp only [World.drew] at hNbO1))
 have zzbI := hAbI.lt
 go_simp
 first | refine oA hK ?_ (fun hH hA => ?_) | refine oD hK ?_ (fun hH hA => ?_)
 · exact hH.alloc (Nat.le_trans z9 hH.size) _
 clear hK K
 (try simp only [cq])
 obtain ⟨bO, hbA⟩ : ∃ b, Blk.num hA = b := ⟨_, rfl⟩
 obtain ⟨W, hW⟩ : ∃ V, Blk.wld hA = V := ⟨_, rfl⟩
 simp only [Blk.num] at hbA
 simp only [Blk.wld] at hW
 first | replace hAbI := awB hW hAbI | replace hAbI := awD hW hAbI
 rw [hW] at hH hA ⊢
 rw [hbA] at hA ⊢
 replace hNbO1 : B9 ≤ bO := (by rw [← hbA]; exact hNbO1)
 have hPbIbO : bI ≠ bO := (by (try simp only [World.drew] at zzbI hbA); omega)
 clear hW hbA zzbI
 have hAbO := hA
 clear hA
 exact X1_01 bI bO W ⟨hH, hAbI, hAbO, hNbI1, hNbO1, hPbIbO⟩
 }
 exact AllReadyH.nil
 }
 }
 {
 intro bI bO W hall
 obtain ⟨hH, hAbI, hAbO, hNbI1, hNbO1, hPbIbO⟩ := hall
 (try dsimp only at hH)
 refine wpAnyH_ready (rs := [3]) (by kernel_rfl) (by simp) ?_
 refine arc1 (some 41) fun K hK => ?_
 go_simp
 (refine (K1.out _ hH).mono ?_; rintro e w' ⟨rfl, hb⟩)
 (replace hAbI := hAbI.call hb)
 (replace hAbO := hAbO.call hb)
 refine hK.out _ _ ?_ ?_
 · (exact hH.trans (hb.mono (Nat.le_trans z9 hH.size)))
 (try clear hH); (try clear hb)
 intro hH
 clear hK K
 (try simp only [cq])
 exact X1_01 bI bO w' ⟨hH, hAbI, hAbO, hNbI1, hNbO1, hPbIbO⟩
 }
 }
 {
 intro bO W hall
 obtain ⟨hH, hAbO, hNbO1⟩ := hall
 (try dsimp only at hH)
 refine wpAnyH_ready (rs := [8]) (by kernel_rfl) (by simp) ?_
 refine arc1 (some 10) fun K hK => ?_
 (have hNbI1 := Nat.le_trans z9 hH.size; (try simp only [World.drew] at hNbI1))
 have zzbO := hAbO.lt
 go_simp
 first | refine oA hK ?_ (fun hH hA => ?_) | refine oD hK ?_ (fun hH hA => ?_)
 · exact hH.alloc (Nat.le_trans z9 hH.size) _
 clear hK K
 (try simp only [cq])
 obtain ⟨bI, hbA⟩ : ∃ b, Blk.num hA = b := ⟨_, rfl⟩
 obtain ⟨W, hW⟩ : ∃ V, Blk.wld hA = V := ⟨_, rfl⟩
 simp only [Blk.num] at hbA
 simp only [Blk.wld] at hW
 first | replace hAbO := awB hW hAbO | replace hAbO := awD hW hAbO
 rw [hW] at hH hA ⊢
 rw [hbA] at hA ⊢
 replace hNbI1 : B9 ≤ bI := (by rw [← hbA]; exact hNbI1)
 have hPbIbO : bI ≠ bO := (by (try simp only [World.drew] at zzbO hbA); omega)
 clear hW hbA zzbO
 have hAbI := hA
 clear hA
 exact X2_01 bI bO W ⟨hH, hAbI, hAbO, hNbI1, hNbO1, hPbIbO⟩
 }
 }
 {
 intro bI W hall
 obtain ⟨hH, hAbI, hNbI1⟩ := hall
 (try dsimp only at hH)
 refine wpAnyH_ready (rs := [9]) (by kernel_rfl) (by simp) ?_
 refine arc1 (some 11) fun K hK => ?_
 (have hNbO1 := Nat.le_trans z9 hH.size; (try simp only [World.drew] at hNbO1))
 have zzbI := hAbI.lt
 go_simp
 first | refine oA hK ?_ (fun hH hA => ?_) | refine oD hK ?_ (fun hH hA => ?_)
 · exact hH.alloc (Nat.le_trans z9 hH.size) _
 clear hK K
 (try simp only [cq])
 obtain ⟨bO, hbA⟩ : ∃ b, Blk.num hA = b := ⟨_, rfl⟩
 obtain ⟨W, hW⟩ : ∃ V, Blk.wld hA = V := ⟨_, rfl⟩
 simp only [Blk.num] at hbA
 simp only [Blk.wld] at hW
 first | replace hAbI := awB hW hAbI | replace hAbI := awD hW hAbI
 rw [hW] at hH hA ⊢
 rw [hbA] at hA ⊢
 replace hNbO1 : B9 ≤ bO := (by rw [← hbA]; exact hNbO1)
 have hPbIbO : bI ≠ bO := (by (try simp only [World.drew] at zzbI hbA); omega)
 clear hW hbA zzbI
 have hAbO := hA
 clear hA
 exact X2_01 bI bO W ⟨hH, hAbI, hAbO, hNbI1, hNbO1, hPbIbO⟩
 }
 }
 {
 intro bI bO W hall
 obtain ⟨hH, hAbI, hAbO, hNbI1, hNbO1, hPbIbO⟩ := hall
 (try dsimp only at hH)
 refine wpAnyH_ready (rs := [7]) (by kernel_rfl) (by simp) ?_
 refine arc1 (some 45) fun K hK => ?_
 go_simp
 (refine (K2.out _ hH).mono ?_; rintro e w' ⟨rfl, hb⟩)
 (replace hAbI := hAbI.call hb)
 (replace hAbO := hAbO.call hb)
 refine hK.out _ _ ?_ ?_
 · (exact hH.trans (hb.mono (Nat.le_trans z9 hH.size)))
 (try clear hH); (try clear hb)
 intro hH
 clear hK K
 (try simp only [cq])
 exact X2_01 bI bO w' ⟨hH, hAbI, hAbO, hNbI1, hNbO1, hPbIbO⟩
 }
 }
 {
 intro bI bO W hall
 obtain ⟨hH, hAbI, hAbO, hNbI1, hNbO1, hPbIbO⟩ := hall
 (try dsimp only at hH)
 refine wpAnyH_ready (rs := [10]) (by kernel_rfl) (by simp) ?_
 refine arc1 none fun K hK => ?_
 have f0 := hAbI.free 0
 have f1 := hAbI.free 1
 obtain ⟨r0, r1⟩ := hAbI.c2
 have zI := hAbI.lt
 have KI := Lib.hid ((hAbI.set 0 (.int .i64 i1)).set 1 (.int .i64 i2))
 have KO := Lib.hid ((hAbO.setOther (c := bI) (Ne.symm hPbIbO) 0 (.int .i64 i1)).setOther (c := bI) (Ne.symm hPbIbO) 1 (.int .i64 i2))
 have KB := Lib.hid ((hH.setCell (p := ⟨bI, 0, none⟩) hNbI1 (.int .i64 i1)).setCell (p := ⟨bI, 1, none⟩) hNbI1 (.int .i64 i2))
 go_simp
 refine hK.out _ _ ?_ ?_
 · exact KB.out
 (try clear hH); (try clear hb)
 intro hH
 clear hK K
 (try simp only [cq])
 refine wpAnyH_ready (rs := [11]) (by kernel_rfl) (by simp) ?_
 refine arc1 none fun K hK => ?_
 clear f0 f1 r0 r1 zI hAbI hAbO KB
 obtain ⟨r0, r1⟩ := KO.out.c2
 have f0 := KO.out.free 0
 have f1 := KO.out.free 1
 have zI := KO.out.lt
 have KO2 := Lib.hid ((KO.out.set 0 (.int .i64 o1)).set 1 (.int .i64 o2))
 have KI2 := Lib.hid ((KI.out.setOther (c := bO) hPbIbO 0 (.int .i64 o1)).setOther (c := bO) hPbIbO 1 (.int .i64 o2))
 have KB2 := Lib.hid ((hH.setCell (p := ⟨bO, 0, none⟩) hNbO1 (.int .i64 o1)).setCell (p := ⟨bO, 1, none⟩) hNbO1 (.int .i64 o2))
 go_simp
 refine hK.out _ _ ?_ ?_
 · exact KB2.out
 (try clear hH); (try clear hb)
 intro hH
 clear hK K
 (try simp only [cq])
 refine wpAnyH_done (by kernel_rfl) ?_ _
 (try dsimp only [Act.put])
 (try simp only [cq])
 clear f0 f1 r0 r1 zI KI KO hH K1 K2 L0 L1
 have jI := KI2.out
 have jO := KO2.out
 have jB2 := KB2.out
 clear KI2 KO2 KB2
 obtain ⟨U, hU⟩ : ∃ U, Blk.wld jI = U := ⟨_, rfl⟩
 simp only [Blk.wld] at hU
 rw [hU] at jI jO jB2 ⊢
 clear hU
 have hJk := hJ.kn
 have hV2 : Below V2.heap.size V2 U := by rw [HB9.out]; exact jB2
 replace hJ := hJ.call hV2
 replace jS := jS.call hV2
 replace jH := jH.later hV2
 have zbk : bk < B9 := by have := hJk.lt; have := HB9.out; omega
 clear hV2 jB2 HB9 kB z9 z5 zS hJk
 obtain ⟨p0, p1⟩ := jI.c2
 obtain ⟨p2, p3⟩ := jO.c2
 obtain ⟨s0, s1⟩ := jS.c2
 have c5 := hJ.c5.cell1
 have c6 := hJ.c6.cell1
 have zI := jI.lt
 have zO := jO.lt
 have zS := jS.lt
 have z5 := hJ.c5.lt
 have z6 := hJ.c6.lt
 have q1 : decide (i1 ≤ o2) = true := decide_eq_true hcut.1
 have q2 : decide (o1 ≤ i2) = true := decide_eq_true hcut.2
 clear hcut
 gi_wp2_with fail
 refine ⟨trivial, ?_⟩
 refine (CallsIn.inRound _ (callsIn_wide.2 (clash_yes U))).mono ?_
 rintro e w' ⟨rfl, rfl⟩
 gi_wp2_with fail
 refine ⟨trivial, ?_⟩
 refine (CallsIn.inRound _ (callsIn_wide.2 (narrow_into E N k bh bk capk _ _ i1 i2 o1 o2 (by omega) (by omega) HE.out hk1 hck1 _ U (fun W g => hJ.flsG hcf1 hcf2 g) (fun W g => jH.grown hJ.kn g) hJ.kn))).mono ?_
 rintro e w' ⟨⟨r, rfl⟩, hK, hG⟩
 replace jH := jH.grown hJ.kn hG
 have jS2 : Blk w' b9 _ _ := (hG.block b9 jS.lt (by have := hJ.kn.ne jS (by decide); simp; omega)).trans jS
 have jI2 : Blk w' bI _ _ := (hG.block bI jI.lt (by simp; omega)).trans jI
 have jO2 : Blk w' bO _ _ := (hG.block bO jO.lt (by simp; omega)).trans jO
 replace hJ := hJ.nar (by omega) (fun C h => by cases h) (fun C h => by cases h) hG hK
 clear hG hK jS jI jO p0 p1 p2 p3 s0 s1 c5 c6 zI zO zS z5 z6 q1 q2
 obtain ⟨p0, p1⟩ := jI2.c2
 obtain ⟨p2, p3⟩ := jO2.c2
 obtain ⟨s0, s1⟩ := jS2.c2
 have c5 := hJ.c5.cell1
 have c6 := hJ.c6.cell1
 have zI := jI2.lt
 have zO := jO2.lt
 have zS := jS2.lt
 have z5 := hJ.c5.lt
 have z6 := hJ.c6.lt
 clear jI2 jO2 jS2
 gi_wp2_with fail
 refine ⟨trivial, ?_⟩
 refine (CallsIn.inRound _ (callsIn_wide.2 (narrow_outof E N k bh bk capk _ _ o1 o2 i1 i2 (by omega) (by omega) HE.out hk1 hck1 _ w' (fun W g => hJ.flsG hcf1 hcf2 g) (fun W g => jH.grown hJ.kn g) hJ.kn))).mono ?_
 rintro e w3 ⟨⟨r2, rfl⟩, hK, hG⟩
 replace hJ := hJ.nar (by omega) (fun C h => by cases h) (fun C h => by cases h) hG hK
 clear hG hK jH p0 p1 p2 p3 s0 s1 c5 c6 zI zO zS z5 z6
 gi_wp2
 refine ⟨hJ.loop, ?_⟩
 obtain ⟨rfl, rfl, rfl, rfl⟩ := HQ.out
 exact hJ.put (by omega) (fun C t h => by cases h) (by omega) _
 } )
      case post =>
        rintro e W3 ⟨⟨v, rfl⟩, hJ⟩
        refine post_raw hrec hJ.loop v ?_
        have hP := hJ.put (by omega) (fun C t h => by cases h) (by omega) (.loop { rec .ready none with state := .exhausted })
        obtain ⟨W4, hW4⟩ : ∃ W, W3.putObj (w4.heap.size + 1) (.loop { rec .ready none with state := .exhausted }) = W := ⟨_, rfl⟩
        rw [hW4] at hP ⊢
        clear hW4 hJ hrec hJ0
        have c6 := hP.c6.cell1
        obtain ⟨r0, r1⟩ : True ∧ True := ⟨trivial, trivial⟩
        have cR := hP.res.cell1
        have cE := hP.err.cell1
        have fR := hP.res.free 0
        have fE := hP.err.free 0
        have z6 := hP.c6.lt
        have zR := hP.res.lt
        have zE := hP.err.lt
        have hD := hP.dfr
        have kR := (hP.res.set 0 (.slice (some ⟨bk, 0, none⟩) N capk)).setOther (c := w.heap.size + 1 + 1) (by omega) 0 (.int .i64 0)
        have kE := (hP.err.setOther (c := w.heap.size + 1) (by omega) 0 (.slice (some ⟨bk, 0, none⟩) N capk)).set 0 (.int .i64 0)
        have kK : KnAt ((W4.setCell ⟨w.heap.size + 1, 0, none⟩ (.slice (some ⟨bk, 0, none⟩) N capk)).setCell ⟨w.heap.size + 1 + 1, 0, none⟩ (.int .i64 0)) bk N (knA E N (2 ^ (n + 1))).1 (knA E N (2 ^ (n + 1))).2 := by
          obtain ⟨C, q1, q2⟩ := hP.kn
          exact ⟨C, (q1.setOther (c := w.heap.size + 1) (by omega) 0 _).setOther (c := w.heap.size + 1 + 1) (by omega) 0 _, q2⟩
        have kBw : Below w.heap.size w ((W4.setCell ⟨w.heap.size + 1, 0, none⟩ (.slice (some ⟨bk, 0, none⟩) N capk)).setCell ⟨w.heap.size + 1 + 1, 0, none⟩ (.int .i64 0)) := (hP.old.setCell (p := ⟨w.heap.size + 1, 0, none⟩) (by simp) _).setCell (p := ⟨w.heap.size + 1 + 1, 0, none⟩) (by simp; omega) _
        have zd : w.heap.size + 1 + 1 < w4.heap.size := by omega
        have kD : ((W4.setCell ⟨w.heap.size + 1, 0, none⟩ (.slice (some ⟨bk, 0, none⟩) N capk)).setCell ⟨w.heap.size + 1 + 1, 0, none⟩ (.int .i64 0)).heap[w4.heap.size]? = some (.deferred (some [])) := ((Below.heap_setCell _ _ _ _ (by simp; omega)).trans (Below.heap_setCell _ _ _ _ (by simp; omega))).trans hD
        gi_wp2
        clear hP c6 cR cE fR fE z6 zR zE hD
        generalize ((W4.setCell ⟨w.heap.size + 1, 0, none⟩ (.slice (some ⟨bk, 0, none⟩) N capk)).setCell ⟨w.heap.size + 1 + 1, 0, none⟩ (.int .i64 0)) = W5 at kR kE kK kBw kD ⊢
        refine ⟨by simp, .inl ⟨_, _, rfl, run_takeDeferred kD, ?_⟩⟩
        have q0 : (W5.putObj w4.heap.size (.deferred none)).cell? ⟨w.heap.size + 1, 0, none⟩ = some (.slice (some ⟨bk, 0, none⟩) N capk) := cell_put kR.cell1 (by omega)
        have q1 : (W5.putObj w4.heap.size (.deferred none)).cell? ⟨w.heap.size + 1 + 1, 0, none⟩ = some (.int .i64 0) := cell_put kE.cell1 (by omega)
        have kK2 : KnAt (W5.putObj w4.heap.size (.deferred none)) bk N (knA E N (2 ^ (n + 1))).1 (knA E N (2 ^ (n + 1))).2 := by
          have hne := kK.neObj kD (fun C h => by cases h)
          obtain ⟨C, p1, p2⟩ := kK
          exact ⟨C, (World.putObj_heap_other (by omega)).trans p1, p2⟩
        exact ⟨.tuple #[.slice (some ⟨bk, 0, none⟩) N capk, .int .i64 0], by simp [results, Try.results88, go_sem, q0, q1], bk, capk, rfl, hck1, hck2, by omega, kK2, kBw.trans ⟨rfl, rfl, rfl, by simp, fun k hk => World.putObj_heap_other (by omega)⟩⟩
end Go.Proofs.Ytpeogfcfiabcfaa
