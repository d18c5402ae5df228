/-
  The loop of FrostBears, over any frame: each round's answers are alike. As a declaration of its own: the whole does not go through the kernel.
-/
import Derived.Test.YtdbiijldincoiaaGreatTail
import Derived.Test.YtdbiijldincoiaaGreatRReady
import Derived.Test.YtdbiijldincoiaaGreatShare
import Derived.Test.YtdbiijldincoiaaGreatNew
import Derived.Test.YtdbiijldincoiaaGreatAwake
set_option linter.unusedVariables false
set_option linter.unusedSimpArgs false
namespace Go.Proofs.YtdbiijldincoiaaGreat
open Go.RowKit

theorem share0_3 {R : Prop} (H : Nat → Nat → Nat → World → Prop) {G : Nat → Nat → Nat → World → Prop} (main : (∀ (b c d : Nat) (W : World), H b c d W → G b c d W) → R) (sub : ∀ (b c d : Nat) (W : World), H b c d W → G b c d W) : R := main sub
theorem share0_4 {R : Prop} (H : Nat → Nat → Nat → Nat → World → Prop) {G : Nat → Nat → Nat → Nat → World → Prop} (main : (∀ (b c d f : Nat) (W : World), H b c d f W → G b c d f W) → R) (sub : ∀ (b c d f : Nat) (W : World), H b c d f W → G b c d f W) : R := main sub
def firstLoop : Code → Option Code
  | .loop c => some c
  | .seq a b => match firstLoop a with
    | some c => some c
    | none => firstLoop b
  | .block _ c => firstLoop c
  | .scope c => firstLoop c
  | .cond _ a b => match firstLoop a with
    | some c => some c
    | none => firstLoop b
  | _ => none
def Qx (R : Act → World → Prop) : Exit → Act → World → Prop
  | .exit 0, a, w => R a w
  | _, _, _ => False
theorem wp_monoX {P : Program} {c : Code} {Q' : Exit → Act → World → Prop} {a : Act} {w : World} (h : c.wp P (Qx (Q' (.exit 0))) a w) : c.wp P Q' a w :=
  wp_mono h (fun e a w q => by
    unfold Qx at q
    split at q
    · exact q
    · exact q.elim)
noncomputable def bLoop : Code := (Tryz.f4.body.bind firstLoop).getD .skip

set_option maxRecDepth 1000000 in
set_option maxHeartbeats 16000000 in
theorem bloop {R : Act → World → Prop} {V3 : World} {B4 b1 b2 b3 b4 : Nat} {ls : Nat → Lw × Value} {xs : Nat → Ic} {vs : Nat → Value} {ns : Nat → Nat} {ds : Nat → Nat → Dy} {zs : Nat → Int} (HL : Hid (RLists V3 b1 b2 b3 ls xs vs ns ds ∧ (∃ C, IvArr C 3 zs ∧ Blk V3 b4 C 3))) (HB4 : Hid (V3.heap.size = B4)) (zB4 : B4 ≤ V3.heap.size) (zB4b : V3.heap.size ≤ B4) (zp : 0 < B4) (kB4 : Below B4 V3 V3)
    {s0 s1 s2 s3 s4 s5 s6 s7 s8 s9 s10 s11 s12 s13 s14 s15 s16 s17 s23 s24 s25 s26 s27 s28 s29 s30 s31 s32 s33 s34 s35 s36 s37 s38 s39 s40 s41 s42 s43 s44 s45 s46 s47 s48 s49 s50 s51 s52 s53 s54 s55 s56 s57 s58 s59 s60 s61 s62 s63 s64 s65 s66 s67 s68 s69 s70 s71 s72 s73 s74 s75 s76 s77 s78 s79 s80 s81 s82 s83 s84 s85 s86 s87 s88 s89 s90 s91 s92 s93 s94 s95 s96 s97 s98 s99 s100 s101 s102 s103 s104 s105 s106 s107 s108 s109 s110 s111 s112 s113 s114 s115 s116 s117 s118 s119 s120 s121 s122 s123 s124 s125 s126 s127 s128 s129 s130 s131 s132 s133 s134 s135 s136 s137 s138 s139 s140 s141 s142 s143 s144 s145 s146 s147 s148 s149 s150 s151 s152 s153 s154 s155 s156 s157 s158 s159 s160 s161 s162 s163 s164 s165 s166 s167 s168 s169 s170 s171 s172 s173 s174 s175 s176 s177 s178 s179 s180 s181 s182 s183 s184 s185 s186 s187 s188 s189 s190 s191 s192 s193 s194 s195 s196 s197 s198 s199 : Value}
    (hexit : ∀ (s0 s1 s2 s3 s4 s5 s6 s7 s8 s9 s10 s11 s12 s13 s14 s15 s16 s17 s18 s19 s20 s21 s22 s23 s24 s25 s26 s27 s28 s29 s30 s31 s32 s33 s34 s35 s36 s37 s38 s39 s40 s41 s42 s43 s44 s45 s46 s47 s48 s49 s50 s51 s52 s53 s54 s55 s56 s57 s58 s59 s60 s61 s62 s63 s64 s65 s66 s67 s68 s69 s70 s71 s72 s73 s74 s75 s76 s77 s78 s79 s80 s81 s82 s83 s84 s85 s86 s87 s88 s89 s90 s91 s92 s93 s94 s95 s96 s97 s98 s99 s100 s101 s102 s103 s104 s105 s106 s107 s108 s109 s110 s111 s112 s113 s114 s115 s116 s117 s118 s119 s120 s121 s122 s123 s124 s125 s126 s127 s128 s129 s130 s131 s132 s133 s134 s135 s136 s137 s138 s139 s140 s141 s142 s143 s144 s145 s146 s147 s148 s149 s150 s151 s152 s153 s154 s155 s156 s157 s158 s159 s160 s161 s162 s163 s164 s165 s166 s167 s168 s169 s170 s171 s172 s173 s174 s175 s176 s177 s178 s179 s180 s181 s182 s183 s184 s185 s186 s187 s188 s189 s190 s191 s192 s193 s194 s195 s196 s197 s198 s199 : Value) (W : World), Below B4 V3 W → R ⟨(List.toArray (s0 :: s1 :: s2 :: s3 :: s4 :: s5 :: s6 :: s7 :: s8 :: s9 :: s10 :: s11 :: s12 :: s13 :: s14 :: s15 :: s16 :: s17 :: s18 :: s19 :: s20 :: s21 :: s22 :: s23 :: s24 :: s25 :: s26 :: s27 :: s28 :: s29 :: s30 :: s31 :: s32 :: s33 :: s34 :: s35 :: s36 :: s37 :: s38 :: s39 :: s40 :: s41 :: s42 :: s43 :: s44 :: s45 :: s46 :: s47 :: s48 :: s49 :: s50 :: s51 :: s52 :: s53 :: s54 :: s55 :: s56 :: s57 :: s58 :: s59 :: s60 :: s61 :: s62 :: s63 :: s64 :: s65 :: s66 :: s67 :: s68 :: s69 :: s70 :: s71 :: s72 :: s73 :: s74 :: s75 :: s76 :: s77 :: s78 :: s79 :: s80 :: s81 :: s82 :: s83 :: s84 :: s85 :: s86 :: s87 :: s88 :: s89 :: s90 :: s91 :: s92 :: s93 :: s94 :: s95 :: s96 :: s97 :: s98 :: s99 :: s100 :: s101 :: s102 :: s103 :: s104 :: s105 :: s106 :: s107 :: s108 :: s109 :: s110 :: s111 :: s112 :: s113 :: s114 :: s115 :: s116 :: s117 :: s118 :: s119 :: s120 :: s121 :: s122 :: s123 :: s124 :: s125 :: s126 :: s127 :: s128 :: s129 :: s130 :: s131 :: s132 :: s133 :: s134 :: s135 :: s136 :: s137 :: s138 :: s139 :: s140 :: s141 :: s142 :: s143 :: s144 :: s145 :: s146 :: s147 :: s148 :: s149 :: s150 :: s151 :: s152 :: s153 :: s154 :: s155 :: s156 :: s157 :: s158 :: s159 :: s160 :: s161 :: s162 :: s163 :: s164 :: s165 :: s166 :: s167 :: s168 :: s169 :: s170 :: s171 :: s172 :: s173 :: s174 :: s175 :: s176 :: s177 :: s178 :: s179 :: s180 :: s181 :: s182 :: s183 :: s184 :: s185 :: s186 :: s187 :: s188 :: s189 :: s190 :: s191 :: s192 :: s193 :: s194 :: s195 :: s196 :: s197 :: s198 :: s199 :: [])), []⟩ W) :
    Code.wp Tryz.prog (Code.loop bLoop) (Qx R) ⟨(List.toArray (s0 :: s1 :: s2 :: s3 :: s4 :: s5 :: s6 :: s7 :: s8 :: s9 :: s10 :: s11 :: s12 :: s13 :: s14 :: s15 :: s16 :: s17 :: .slice (some ⟨b1, 0, none⟩) 3 3 :: .slice (some ⟨b2, 0, none⟩) 3 3 :: .slice (some ⟨b3, 0, none⟩) 3 3 :: .slice (some ⟨b4, 0, none⟩) 3 3 :: .int .i64 0 :: s23 :: s24 :: s25 :: s26 :: s27 :: s28 :: s29 :: s30 :: s31 :: s32 :: s33 :: s34 :: s35 :: s36 :: s37 :: s38 :: s39 :: s40 :: s41 :: s42 :: s43 :: s44 :: s45 :: s46 :: s47 :: s48 :: s49 :: s50 :: s51 :: s52 :: s53 :: s54 :: s55 :: s56 :: s57 :: s58 :: s59 :: s60 :: s61 :: s62 :: s63 :: s64 :: s65 :: s66 :: s67 :: s68 :: s69 :: s70 :: s71 :: s72 :: s73 :: s74 :: s75 :: s76 :: s77 :: s78 :: s79 :: s80 :: s81 :: s82 :: s83 :: s84 :: s85 :: s86 :: s87 :: s88 :: s89 :: s90 :: s91 :: s92 :: s93 :: s94 :: s95 :: s96 :: s97 :: s98 :: s99 :: s100 :: s101 :: s102 :: s103 :: s104 :: s105 :: s106 :: s107 :: s108 :: s109 :: s110 :: s111 :: s112 :: s113 :: s114 :: s115 :: s116 :: s117 :: s118 :: s119 :: s120 :: s121 :: s122 :: s123 :: s124 :: s125 :: s126 :: s127 :: s128 :: s129 :: s130 :: s131 :: s132 :: s133 :: s134 :: s135 :: s136 :: s137 :: s138 :: s139 :: s140 :: s141 :: s142 :: s143 :: s144 :: s145 :: s146 :: s147 :: s148 :: s149 :: s150 :: s151 :: s152 :: s153 :: s154 :: s155 :: s156 :: s157 :: s158 :: s159 :: s160 :: s161 :: s162 :: s163 :: s164 :: s165 :: s166 :: s167 :: s168 :: s169 :: s170 :: s171 :: s172 :: s173 :: s174 :: s175 :: s176 :: s177 :: s178 :: s179 :: s180 :: s181 :: s182 :: s183 :: s184 :: s185 :: s186 :: s187 :: s188 :: s189 :: s190 :: s191 :: s192 :: s193 :: s194 :: s195 :: s196 :: s197 :: s198 :: s199 :: [])), []⟩ V3 := by
  have HQ := Lib.hid hexit
  clear hexit
  conv => arg 2; arg 1; whnf
  go_loopw [22] (fun i wr => ∃ k : Nat, k ≤ 3 ∧ i = .int .i64 k ∧ Below B4 V3 wr) (fun i _ => 3 - (intOf i).toNat)
  case atStart => exact ⟨0, Nat.zero_le _, rfl, kB4⟩
  case round =>
    clear kB4
    obtain ⟨k, hk, rfl, hb⟩ := hrel
    by_cases hlt : k < 3
    · obtain ⟨⟨⟨C1, g1, j1⟩, ⟨C2, g2, j2⟩, ⟨C3, g3, j3⟩, g4, g5, g6⟩, ⟨C4, g7, j4⟩⟩ := HL.out
      have hcv := g4 k
      have hdv := g5 k
      have R1 := Lib.hid (fun (W : World) (h : Below B4 V3 W) => g1.cells (j1.below h (by have := j1.lt; omega)) hlt)
      have R2 := Lib.hid (fun (W : World) (h : Below B4 V3 W) => g2.cells (j2.below h (by have := j2.lt; omega)) hlt)
      have R3 := Lib.hid (fun (W : World) (h : Below B4 V3 W) => (j3.below h (by have := j3.lt; omega)).cell k (g3 k hlt))
      have R4 := Lib.hid (fun (W : World) (h : Below B4 V3 W) => (j4.below h (by have := j4.lt; omega)).cell k (g7 k hlt))
      obtain ⟨⟨q, vq0⟩, hlv⟩ : ∃ z, ls k = z := ⟨_, rfl⟩
      obtain ⟨xk, hxk⟩ : ∃ z, xs k = z := ⟨_, rfl⟩
      obtain ⟨vk, hvk⟩ : ∃ z, vs k = z := ⟨_, rfl⟩
      obtain ⟨nk, hnk⟩ : ∃ z, ns k = z := ⟨_, rfl⟩
      obtain ⟨dk, hdk⟩ : ∃ z, ds k = z := ⟨_, rfl⟩
      obtain ⟨zk, hzk⟩ : ∃ z, zs k = z := ⟨_, rfl⟩
      rw [hlv] at hcv R1
      rw [hxk] at R2
      rw [hvk] at R3 hdv
      rw [hnk, hdk] at hdv
      rw [hzk] at R4
      dsimp only at R1 hcv
      simp only [Nat.zero_add] at R2
      clear hlv hxk hvk hnk hdk hzk g1 g2 g3 g4 g5 g6 g7 j1 j2 j3 j4
      obtain ⟨vq, vqcap, hvq, _, _, _⟩ := id hcv
      subst hvq
      have HCV := Lib.hid (fun (W : World) (h : Below B4 V3 W) => hcv.later (by rw [← HB4.out] at h; exact h))
      have HDV := Lib.hid (fun (W : World) (h : Below B4 V3 W) => hdv.later (by rw [← HB4.out] at h; exact h))
      clear hcv hdv
      have K1 := Lib.hid (fun (W : World) (h : Below B4 V3 W) => bearing_any q (.slice vq q.n vqcap) xk W (HCV.out W h))
      have K2 := Lib.hid (fun (W : World) (h : Below B4 V3 W) => rBearing_any q (.slice vq q.n vqcap) xk W (HCV.out W h))
      have K3 := Lib.hid (fun (W : World) (h : Below B4 V3 W) => fReady_any q (.slice vq q.n vqcap) xk vk nk dk zk W (HCV.out W h) (HDV.out W h) (by have := h.size; omega))
      have K4 := Lib.hid (fun (W : World) (h : Below B4 V3 W) => rReady_any q (.slice vq q.n vqcap) xk vk nk dk zk W (HCV.out W h) (HDV.out W h))
      obtain ⟨a1, h1⟩ : ∃ z, bearA q xk = z := ⟨_, rfl⟩
      obtain ⟨a2, h2⟩ : ∃ z, bearB q xk = z := ⟨_, rfl⟩
      obtain ⟨a3, h3⟩ : ∃ z, bearC q xk = z := ⟨_, rfl⟩
      obtain ⟨a4, h4⟩ : ∃ z, eBear q xk = z := ⟨_, rfl⟩
      obtain ⟨a5, h5⟩ : ∃ z, rdyA q xk nk dk zk = z := ⟨_, rfl⟩
      obtain ⟨a6, h6⟩ : ∃ z, rdyB q xk nk dk zk = z := ⟨_, rfl⟩
      obtain ⟨a7, h7⟩ : ∃ z, eRdy q xk nk dk zk = z := ⟨_, rfl⟩
      rw [h1, h2, h3, h4] at K1 K2
      rw [h5, h6, h7] at K3 K4
      clear h1 h2 h3 h4 h5 h6 h7 HCV HDV
      go_upto_region 13 with fail
      go_cut [23, 24, 25] from 97 to 198 (fun s23 s24 s25 wx => ∃ bA : Nat, s23 = .pointer (some ⟨bA, 0, none⟩) ∧ s24 = .int .i64 a3 ∧ s25 = .int .i64 a4 ∧ Blk wx bA #[.int .i64 a1, .int .i64 a2] 24 ∧ Below B4 V3 wx)
      case first =>
        (
 let S9 : World → Prop := (fun w' => Below B4 V3 w')
 refine wp_region_held_drew (S := S9) (by kernel_rfl) ?_ (fun hH => ?_)
 · (try dsimp only); (exact hb.drew)
 apply share0 (fun (bA : Nat) (W : World) => S9 W ∧ Blk W bA #[.int .i64 0, .int .i64 0] 24 ∧ (B4 ≤ bA))
 {
 intro X1
 apply share0 (fun (bA : Nat) (W : World) => S9 W ∧ Blk W bA #[.int .i64 0, .int .i64 0] 24 ∧ (B4 ≤ bA))
 {
 intro X0
 refine tkY 0 (some 104) ?_ ?_ ?_
 rotate_left
 · intro w _; go_simp; (try with_reducible rfl)
 (try simp only [cq])
 refine tkY 1 (some 105) ?_ ?_ ?_
 rotate_left
 · intro w _; go_simp; (try with_reducible rfl)
 (try simp only [cq])
 refine tkY 2 (some 106) ?_ ?_ ?_
 rotate_left
 · intro w hS0; (try dsimp only at hS0); obtain ⟨l0, l1, l2, l3, l4, l5, l6, l7⟩ := R1.out _ hS0; obtain ⟨a0, a1', a2', a3', a4', a5', a6', a7'⟩ := R2.out _ hS0; have y1 := World.block_lt_of_cell? _ _ l0; have y2 := World.block_lt_of_cell? _ _ a0;go_simp; (try with_reducible rfl)
 (try simp only [cq])
 refine tkY 3 (some 107) ?_ ?_ ?_
 rotate_left
 · intro w hS0; (try dsimp only at hS0); obtain ⟨l0, l1, l2, l3, l4, l5, l6, l7⟩ := R1.out _ hS0; obtain ⟨a0, a1', a2', a3', a4', a5', a6', a7'⟩ := R2.out _ hS0; have y1 := World.block_lt_of_cell? _ _ l0; have y2 := World.block_lt_of_cell? _ _ a0;go_simp; (try with_reducible rfl)
 (try simp only [cq])
 refine tkY 4 (some 108) ?_ ?_ ?_
 rotate_left
 · intro w _; go_simp; (try with_reducible rfl)
 (try simp only [cq])
 refine tkY 5 (some 109) ?_ ?_ ?_
 rotate_left
 · intro w _; go_simp; (try with_reducible rfl)
 (try simp only [cq])
 refine tkY 6 (some 110) ?_ ?_ ?_
 rotate_left
 · intro w hS0; (try dsimp only at hS0); obtain ⟨l0, l1, l2, l3, l4, l5, l6, l7⟩ := R1.out _ hS0; obtain ⟨a0, a1', a2', a3', a4', a5', a6', a7'⟩ := R2.out _ hS0; have y1 := World.block_lt_of_cell? _ _ l0; have y2 := World.block_lt_of_cell? _ _ a0;go_simp; (try with_reducible rfl)
 (try simp only [cq])
 refine tkY 7 (some 111) ?_ ?_ ?_
 rotate_left
 · intro w hS0; (try dsimp only at hS0); obtain ⟨l0, l1, l2, l3, l4, l5, l6, l7⟩ := R1.out _ hS0; obtain ⟨a0, a1', a2', a3', a4', a5', a6', a7'⟩ := R2.out _ hS0; have y1 := World.block_lt_of_cell? _ _ l0; have y2 := World.block_lt_of_cell? _ _ a0;go_simp; (try with_reducible rfl)
 (try simp only [cq])
 refine wpAnyH_ready (rs := [8, 13]) (by kernel_rfl) (by simp) ?_
 refine arc (some 112) (fun K hK => ?_) ?_
 {
 go_simp
 (refine (K1.out _ hH).mono ?_; rintro e w' ⟨rfl, hbc⟩; (try replace hA := hA.call hbc))
 refine hK.out _ _ ?_ ?_
 · (exact hH.trans (hbc.mono (by have := hH.size; omega)))
 (try clear hH); (try clear hbc)
 intro hH
 clear hK K
 (try simp only [cq])
 refine tkY 9 (some 103) ?_ ?_ ?_
 rotate_left
 · intro w _; go_simp; (try with_reducible rfl)
 (try simp only [cq])
 refine tkY 10 (some 113) ?_ ?_ ?_
 rotate_left
 · intro w _; go_simp; (try with_reducible rfl)
 (try simp only [cq])
 refine tkY 11 (some 114) ?_ ?_ ?_
 rotate_left
 · intro w _; go_simp; (try with_reducible rfl)
 (try simp only [cq])
 refine tkY 12 (some 115) ?_ ?_ ?_
 rotate_left
 · intro w _; go_simp; (try with_reducible rfl)
 (try simp only [cq])
 refine wpAnyH_ready (rs := [13]) (by kernel_rfl) (by simp) ?_
 refine arc1 (some 23) fun K hK => ?_
 (have hN1 := Nat.le_trans zB4 hH.size; (try simp only [World.drew] at hN1))
 go_simp
 first | refine oA hK ?_ (fun hH hA => ?_) | refine oD hK ?_ (fun hH hA => ?_)
 · exact hH.alloc (Nat.le_trans zB4 hH.size) _
 clear hK K
 (try simp only [cq])
 obtain ⟨bA, hbA⟩ : ∃ b, Blk.num hA = b := ⟨_, rfl⟩
 obtain ⟨W, hW⟩ : ∃ V, Blk.wld hA = V := ⟨_, rfl⟩
 simp only [Blk.num] at hbA
 simp only [Blk.wld] at hW
 rw [hW] at hH hA ⊢
 rw [hbA] at hA ⊢
 replace hN1 : B4 ≤ bA := (by rw [← hbA]; exact hN1)
 clear hW hbA
 exact X1  bA W ⟨hH, hA, hN1⟩
 }
 refine arc (some 23) (fun K hK => ?_) ?_
 {
 (have hN1 := Nat.le_trans zB4 hH.size; (try simp only [World.drew] at hN1))
 go_simp
 first | refine oA hK ?_ (fun hH hA => ?_) | refine oD hK ?_ (fun hH hA => ?_)
 · exact hH.alloc (Nat.le_trans zB4 hH.size) _
 clear hK K
 (try simp only [cq])
 obtain ⟨bA, hbA⟩ : ∃ b, Blk.num hA = b := ⟨_, rfl⟩
 obtain ⟨W, hW⟩ : ∃ V, Blk.wld hA = V := ⟨_, rfl⟩
 simp only [Blk.num] at hbA
 simp only [Blk.wld] at hW
 rw [hW] at hH hA ⊢
 rw [hbA] at hA ⊢
 replace hN1 : B4 ≤ bA := (by rw [← hbA]; exact hN1)
 clear hW hbA
 exact X0  bA W ⟨hH, hA, hN1⟩
 }
 exact AllReadyH.nil
 }
 {
 intro bA W hall
 obtain ⟨hH, hA, hN1⟩ := hall
 (try dsimp only at hH)
 refine wpAnyH_ready (rs := [8]) (by kernel_rfl) (by simp) ?_
 refine arc1 (some 112) fun K hK => ?_
 go_simp
 (refine (K1.out _ hH).mono ?_; rintro e w' ⟨rfl, hbc⟩; (try replace hA := hA.call hbc))
 refine hK.out _ _ ?_ ?_
 · (exact hH.trans (hbc.mono (by have := hH.size; omega)))
 (try clear hH); (try clear hbc)
 intro hH
 clear hK K
 (try simp only [cq])
 refine tkY 9 (some 103) ?_ ?_ ?_
 rotate_left
 · intro w _; go_simp; (try with_reducible rfl)
 (try simp only [cq])
 refine tkY 10 (some 113) ?_ ?_ ?_
 rotate_left
 · intro w _; go_simp; (try with_reducible rfl)
 (try simp only [cq])
 refine tkY 11 (some 114) ?_ ?_ ?_
 rotate_left
 · intro w _; go_simp; (try with_reducible rfl)
 (try simp only [cq])
 refine tkY 12 (some 115) ?_ ?_ ?_
 rotate_left
 · intro w _; go_simp; (try with_reducible rfl)
 (try simp only [cq])
 exact X1  bA w' ⟨hH, hA, hN1⟩
 }
 }
 {
 intro bA W hall
 obtain ⟨hH, hA, hN1⟩ := hall
 (try dsimp only at hH)
 refine wpAnyH_ready (rs := [14]) (by kernel_rfl) (by simp) ?_
 refine arc1 none fun K hK => ?_
 obtain ⟨r0, r1⟩ := hA.c2
 have fr0 := hA.free 0
 have fr1 := hA.free 1
 have zR := hA.lt
 have HS := Lib.hid (show Blk _ bA #[.int .i64 a1, .int .i64 a2] _ from (hA.set 0 (.int .i64 a1)).set 1 (.int .i64 a2))
 go_simp
 refine hK.out _ _ ?_ ?_
 · exact below_set2 hH (by omega) _ _
 (try clear hH); (try clear hbc)
 intro hH
 clear hK K
 (try simp only [cq])
 refine tkY 15 (some 24) ?_ ?_ ?_
 rotate_left
 · intro w _; go_simp; (try with_reducible rfl)
 (try simp only [cq])
 refine tkY 16 (some 25) ?_ ?_ ?_
 rotate_left
 · intro w _; go_simp; (try with_reducible rfl)
 (try simp only [cq])
 refine wpAnyH_done (by kernel_rfl) ?_ _
 (try dsimp only [Act.put])
 (try simp only [cq])
 clear hA r0 r1 fr0 fr1 zR
 go_wp2_with fail
 go_meet
 exact ⟨_, rfl, rfl, rfl, HS.out, hH⟩
 } )
      case rest =>
        clear hb K1
        obtain ⟨bC, rfl, rfl, rfl, jC, hb⟩ := hcut
        go_upto_region 14 with fail
        go_cut [26, 27, 28] from 97 to 198 (fun s26 s27 s28 wx => ∃ bA : Nat, s26 = .pointer (some ⟨bA, 0, none⟩) ∧ s27 = .int .i64 a3 ∧ s28 = .int .i64 a4 ∧ Blk wx bA #[.int .i64 a1, .int .i64 a2] 24 ∧ Blk wx bC #[.int .i64 a1, .int .i64 a2] 24 ∧ Below B4 V3 wx)
        case first =>
          (
 let S9 : World → Prop := (fun w' => Below B4 V3 w' ∧ Blk w' bC #[.int .i64 a1, .int .i64 a2] 24)
 refine wp_region_held_drew (S := S9) (by kernel_rfl) ?_ (fun hH => ?_)
 · (try dsimp only); (exact ⟨hb.drew, jC.drew⟩)
 apply share0 (fun (bA : Nat) (W : World) => S9 W ∧ Blk W bA #[.int .i64 0, .int .i64 0] 24 ∧ (B4 ≤ bA) ∧ (bC < bA))
 {
 intro X1
 apply share0 (fun (bA : Nat) (W : World) => S9 W ∧ Blk W bA #[.int .i64 0, .int .i64 0] 24 ∧ (B4 ≤ bA) ∧ (bC < bA))
 {
 intro X0
 refine tkY 0 (some 117) ?_ ?_ ?_
 rotate_left
 · intro w _; go_simp; (try with_reducible rfl)
 (try simp only [cq])
 refine tkY 1 (some 118) ?_ ?_ ?_
 rotate_left
 · intro w _; go_simp; (try with_reducible rfl)
 (try simp only [cq])
 refine tkY 2 (some 119) ?_ ?_ ?_
 rotate_left
 · intro w hS0; (try dsimp only at hS0); have hS1 := hS0.1; obtain ⟨l0, l1, l2, l3, l4, l5, l6, l7⟩ := R1.out _ hS1; obtain ⟨a0, a1', a2', a3', a4', a5', a6', a7'⟩ := R2.out _ hS1; have y1 := World.block_lt_of_cell? _ _ l0; have y2 := World.block_lt_of_cell? _ _ a0;go_simp; (try with_reducible rfl)
 (try simp only [cq])
 refine tkY 3 (some 120) ?_ ?_ ?_
 rotate_left
 · intro w hS0; (try dsimp only at hS0); have hS1 := hS0.1; obtain ⟨l0, l1, l2, l3, l4, l5, l6, l7⟩ := R1.out _ hS1; obtain ⟨a0, a1', a2', a3', a4', a5', a6', a7'⟩ := R2.out _ hS1; have y1 := World.block_lt_of_cell? _ _ l0; have y2 := World.block_lt_of_cell? _ _ a0;go_simp; (try with_reducible rfl)
 (try simp only [cq])
 refine tkY 4 (some 121) ?_ ?_ ?_
 rotate_left
 · intro w _; go_simp; (try with_reducible rfl)
 (try simp only [cq])
 refine tkY 5 (some 122) ?_ ?_ ?_
 rotate_left
 · intro w _; go_simp; (try with_reducible rfl)
 (try simp only [cq])
 refine tkY 6 (some 123) ?_ ?_ ?_
 rotate_left
 · intro w hS0; (try dsimp only at hS0); have hS1 := hS0.1; obtain ⟨l0, l1, l2, l3, l4, l5, l6, l7⟩ := R1.out _ hS1; obtain ⟨a0, a1', a2', a3', a4', a5', a6', a7'⟩ := R2.out _ hS1; have y1 := World.block_lt_of_cell? _ _ l0; have y2 := World.block_lt_of_cell? _ _ a0;go_simp; (try with_reducible rfl)
 (try simp only [cq])
 refine tkY 7 (some 124) ?_ ?_ ?_
 rotate_left
 · intro w hS0; (try dsimp only at hS0); have hS1 := hS0.1; obtain ⟨l0, l1, l2, l3, l4, l5, l6, l7⟩ := R1.out _ hS1; obtain ⟨a0, a1', a2', a3', a4', a5', a6', a7'⟩ := R2.out _ hS1; have y1 := World.block_lt_of_cell? _ _ l0; have y2 := World.block_lt_of_cell? _ _ a0;go_simp; (try with_reducible rfl)
 (try simp only [cq])
 refine wpAnyH_ready (rs := [8, 13]) (by kernel_rfl) (by simp) ?_
 refine arc (some 125) (fun K hK => ?_) ?_
 {
 go_simp
 (refine (K2.out _ hH.1).mono ?_; rintro e w' ⟨rfl, hbc⟩; (try replace hA := hA.call hbc))
 refine hK.out _ _ ?_ ?_
 · (exact ⟨hH.1.trans (hbc.mono (by have := hH.1.size; omega)), hH.2.call hbc⟩)
 (try clear hH); (try clear hbc)
 intro hH
 clear hK K
 (try simp only [cq])
 refine tkY 9 (some 116) ?_ ?_ ?_
 rotate_left
 · intro w _; go_simp; (try with_reducible rfl)
 (try simp only [cq])
 refine tkY 10 (some 126) ?_ ?_ ?_
 rotate_left
 · intro w _; go_simp; (try with_reducible rfl)
 (try simp only [cq])
 refine tkY 11 (some 127) ?_ ?_ ?_
 rotate_left
 · intro w _; go_simp; (try with_reducible rfl)
 (try simp only [cq])
 refine tkY 12 (some 128) ?_ ?_ ?_
 rotate_left
 · intro w _; go_simp; (try with_reducible rfl)
 (try simp only [cq])
 refine wpAnyH_ready (rs := [13]) (by kernel_rfl) (by simp) ?_
 refine arc1 (some 26) fun K hK => ?_
 (have hN1 := Nat.le_trans zB4 hH.1.size; have hN2 := hH.2.lt; (try simp only [World.drew] at hN1 hN2))
 go_simp
 first | refine oA hK ?_ (fun hH hA => ?_) | refine oD hK ?_ (fun hH hA => ?_)
 · exact ⟨hH.1.alloc (Nat.le_trans zB4 hH.1.size) _, hH.2.alloc _⟩
 clear hK K
 (try simp only [cq])
 obtain ⟨bA, hbA⟩ : ∃ b, Blk.num hA = b := ⟨_, rfl⟩
 obtain ⟨W, hW⟩ : ∃ V, Blk.wld hA = V := ⟨_, rfl⟩
 simp only [Blk.num] at hbA
 simp only [Blk.wld] at hW
 rw [hW] at hH hA ⊢
 rw [hbA] at hA ⊢
 replace hN1 : B4 ≤ bA := (by rw [← hbA]; exact hN1)
 replace hN2 : bC < bA := (by rw [← hbA]; exact hN2)
 clear hW hbA
 exact X1  bA W ⟨hH, hA, hN1, hN2⟩
 }
 refine arc (some 26) (fun K hK => ?_) ?_
 {
 (have hN1 := Nat.le_trans zB4 hH.1.size; have hN2 := hH.2.lt; (try simp only [World.drew] at hN1 hN2))
 go_simp
 first | refine oA hK ?_ (fun hH hA => ?_) | refine oD hK ?_ (fun hH hA => ?_)
 · exact ⟨hH.1.alloc (Nat.le_trans zB4 hH.1.size) _, hH.2.alloc _⟩
 clear hK K
 (try simp only [cq])
 obtain ⟨bA, hbA⟩ : ∃ b, Blk.num hA = b := ⟨_, rfl⟩
 obtain ⟨W, hW⟩ : ∃ V, Blk.wld hA = V := ⟨_, rfl⟩
 simp only [Blk.num] at hbA
 simp only [Blk.wld] at hW
 rw [hW] at hH hA ⊢
 rw [hbA] at hA ⊢
 replace hN1 : B4 ≤ bA := (by rw [← hbA]; exact hN1)
 replace hN2 : bC < bA := (by rw [← hbA]; exact hN2)
 clear hW hbA
 exact X0  bA W ⟨hH, hA, hN1, hN2⟩
 }
 exact AllReadyH.nil
 }
 {
 intro bA W hall
 obtain ⟨hH, hA, hN1, hN2⟩ := hall
 (try dsimp only at hH)
 refine wpAnyH_ready (rs := [8]) (by kernel_rfl) (by simp) ?_
 refine arc1 (some 125) fun K hK => ?_
 go_simp
 (refine (K2.out _ hH.1).mono ?_; rintro e w' ⟨rfl, hbc⟩; (try replace hA := hA.call hbc))
 refine hK.out _ _ ?_ ?_
 · (exact ⟨hH.1.trans (hbc.mono (by have := hH.1.size; omega)), hH.2.call hbc⟩)
 (try clear hH); (try clear hbc)
 intro hH
 clear hK K
 (try simp only [cq])
 refine tkY 9 (some 116) ?_ ?_ ?_
 rotate_left
 · intro w _; go_simp; (try with_reducible rfl)
 (try simp only [cq])
 refine tkY 10 (some 126) ?_ ?_ ?_
 rotate_left
 · intro w _; go_simp; (try with_reducible rfl)
 (try simp only [cq])
 refine tkY 11 (some 127) ?_ ?_ ?_
 rotate_left
 · intro w _; go_simp; (try with_reducible rfl)
 (try simp only [cq])
 refine tkY 12 (some 128) ?_ ?_ ?_
 rotate_left
 · intro w _; go_simp; (try with_reducible rfl)
 (try simp only [cq])
 exact X1  bA w' ⟨hH, hA, hN1, hN2⟩
 }
 }
 {
 intro bA W hall
 obtain ⟨hH, hA, hN1, hN2⟩ := hall
 (try dsimp only at hH)
 refine wpAnyH_ready (rs := [14]) (by kernel_rfl) (by simp) ?_
 refine arc1 none fun K hK => ?_
 obtain ⟨g1, g2⟩ := hH
 obtain ⟨r0, r1⟩ := hA.c2
 have fr0 := hA.free 0
 have fr1 := hA.free 1
 have zR := hA.lt
 have HS := Lib.hid (show Blk _ bA #[.int .i64 a1, .int .i64 a2] _ from (hA.set 0 (.int .i64 a1)).set 1 (.int .i64 a2))
 go_simp
 refine hK.out _ _ ?_ ?_
 · exact ⟨below_set2 g1 (by omega) _ _, g2.oth2 (by omega) _ _⟩
 (try clear hH); (try clear hbc)
 intro hH
 clear hK K
 (try simp only [cq])
 refine tkY 15 (some 27) ?_ ?_ ?_
 rotate_left
 · intro w _; go_simp; (try with_reducible rfl)
 (try simp only [cq])
 refine tkY 16 (some 28) ?_ ?_ ?_
 rotate_left
 · intro w _; go_simp; (try with_reducible rfl)
 (try simp only [cq])
 refine wpAnyH_done (by kernel_rfl) ?_ _
 (try dsimp only [Act.put])
 (try simp only [cq])
 clear hA r0 r1 fr0 fr1 zR g1 g2
 go_wp2_with fail
 go_meet
 exact ⟨_, rfl, rfl, rfl, HS.out, hH.2, hH.1⟩
 } )
        case rest =>
          clear hb jC K2
          obtain ⟨bE, rfl, rfl, rfl, jE, jC, hb⟩ := hcut
          go_upto_region 15 with fail
          refine wp_region_held_drew (S := (fun w' => Below B4 V3 w' ∧ Blk w' bC #[.int .i64 a1, .int .i64 a2] 24 ∧ Blk w' bE #[.int .i64 a1, .int .i64 a2] 24)) (by kernel_rfl) ?_ (fun hH => ?_)
          · (try dsimp only); (exact ⟨hb.drew, jC.drew, jE.drew⟩)
          refine tkY 0 (some 130) ?_ ?_ ?_
          rotate_left
          · intro w _; go_simp; (try with_reducible rfl)
          (try simp only [cq])
          refine tkY 1 (some 131) ?_ ?_ ?_
          rotate_left
          · intro w _; go_simp; (try with_reducible rfl)
          (try simp only [cq])
          refine tkY 2 (some 132) ?_ ?_ ?_
          rotate_left
          · intro w hS0; (try dsimp only at hS0); have hS1 := hS0.1; obtain ⟨l0, l1, l2, l3, l4, l5, l6, l7⟩ := R1.out _ hS1; obtain ⟨a0, a1', a2', a3', a4', a5', a6', a7'⟩ := R2.out _ hS1; have r3 := R3.out _ hS1; have r4 := R4.out _ hS1; have y1 := World.block_lt_of_cell? _ _ l0; have y2 := World.block_lt_of_cell? _ _ a0; have y3 := World.block_lt_of_cell? _ _ r3; have y4 := World.block_lt_of_cell? _ _ r4;go_simp; (try with_reducible rfl)
          (try simp only [cq])
          refine tkY 3 (some 133) ?_ ?_ ?_
          rotate_left
          · intro w hS0; (try dsimp only at hS0); have hS1 := hS0.1; obtain ⟨l0, l1, l2, l3, l4, l5, l6, l7⟩ := R1.out _ hS1; obtain ⟨a0, a1', a2', a3', a4', a5', a6', a7'⟩ := R2.out _ hS1; have r3 := R3.out _ hS1; have r4 := R4.out _ hS1; have y1 := World.block_lt_of_cell? _ _ l0; have y2 := World.block_lt_of_cell? _ _ a0; have y3 := World.block_lt_of_cell? _ _ r3; have y4 := World.block_lt_of_cell? _ _ r4;go_simp; (try with_reducible rfl)
          (try simp only [cq])
          refine tkY 4 (some 134) ?_ ?_ ?_
          rotate_left
          · intro w _; go_simp; (try with_reducible rfl)
          (try simp only [cq])
          refine tkY 5 (some 135) ?_ ?_ ?_
          rotate_left
          · intro w _; go_simp; (try with_reducible rfl)
          (try simp only [cq])
          refine tkY 6 (some 136) ?_ ?_ ?_
          rotate_left
          · intro w hS0; (try dsimp only at hS0); have hS1 := hS0.1; obtain ⟨l0, l1, l2, l3, l4, l5, l6, l7⟩ := R1.out _ hS1; obtain ⟨a0, a1', a2', a3', a4', a5', a6', a7'⟩ := R2.out _ hS1; have r3 := R3.out _ hS1; have r4 := R4.out _ hS1; have y1 := World.block_lt_of_cell? _ _ l0; have y2 := World.block_lt_of_cell? _ _ a0; have y3 := World.block_lt_of_cell? _ _ r3; have y4 := World.block_lt_of_cell? _ _ r4;go_simp; (try with_reducible rfl)
          (try simp only [cq])
          refine tkY 7 (some 137) ?_ ?_ ?_
          rotate_left
          · intro w hS0; (try dsimp only at hS0); have hS1 := hS0.1; obtain ⟨l0, l1, l2, l3, l4, l5, l6, l7⟩ := R1.out _ hS1; obtain ⟨a0, a1', a2', a3', a4', a5', a6', a7'⟩ := R2.out _ hS1; have r3 := R3.out _ hS1; have r4 := R4.out _ hS1; have y1 := World.block_lt_of_cell? _ _ l0; have y2 := World.block_lt_of_cell? _ _ a0; have y3 := World.block_lt_of_cell? _ _ r3; have y4 := World.block_lt_of_cell? _ _ r4;go_simp; (try with_reducible rfl)
          (try simp only [cq])
          refine tkY 8 (some 138) ?_ ?_ ?_
          rotate_left
          · intro w _; go_simp; (try with_reducible rfl)
          (try simp only [cq])
          refine tkY 9 (some 139) ?_ ?_ ?_
          rotate_left
          · intro w _; go_simp; (try with_reducible rfl)
          (try simp only [cq])
          refine tkY 10 (some 140) ?_ ?_ ?_
          rotate_left
          · intro w hS0; (try dsimp only at hS0); have hS1 := hS0.1; obtain ⟨l0, l1, l2, l3, l4, l5, l6, l7⟩ := R1.out _ hS1; obtain ⟨a0, a1', a2', a3', a4', a5', a6', a7'⟩ := R2.out _ hS1; have r3 := R3.out _ hS1; have r4 := R4.out _ hS1; have y1 := World.block_lt_of_cell? _ _ l0; have y2 := World.block_lt_of_cell? _ _ a0; have y3 := World.block_lt_of_cell? _ _ r3; have y4 := World.block_lt_of_cell? _ _ r4;go_simp; (try with_reducible rfl)
          (try simp only [cq])
          refine tkY 11 (some 141) ?_ ?_ ?_
          rotate_left
          · intro w hS0; (try dsimp only at hS0); have hS1 := hS0.1; obtain ⟨l0, l1, l2, l3, l4, l5, l6, l7⟩ := R1.out _ hS1; obtain ⟨a0, a1', a2', a3', a4', a5', a6', a7'⟩ := R2.out _ hS1; have r3 := R3.out _ hS1; have r4 := R4.out _ hS1; have y1 := World.block_lt_of_cell? _ _ l0; have y2 := World.block_lt_of_cell? _ _ a0; have y3 := World.block_lt_of_cell? _ _ r3; have y4 := World.block_lt_of_cell? _ _ r4;go_simp; (try with_reducible rfl)
          (try simp only [cq])
          refine tkY 12 (some 142) ?_ ?_ ?_
          rotate_left
          · intro w _; go_simp; (try with_reducible rfl)
          (try simp only [cq])
          refine tkY 13 (some 143) ?_ ?_ ?_
          rotate_left
          · intro w _; go_simp; (try with_reducible rfl)
          (try simp only [cq])
          refine tkY 14 (some 144) ?_ ?_ ?_
          rotate_left
          · intro w hS0; (try dsimp only at hS0); have hS1 := hS0.1; obtain ⟨l0, l1, l2, l3, l4, l5, l6, l7⟩ := R1.out _ hS1; obtain ⟨a0, a1', a2', a3', a4', a5', a6', a7'⟩ := R2.out _ hS1; have r3 := R3.out _ hS1; have r4 := R4.out _ hS1; have y1 := World.block_lt_of_cell? _ _ l0; have y2 := World.block_lt_of_cell? _ _ a0; have y3 := World.block_lt_of_cell? _ _ r3; have y4 := World.block_lt_of_cell? _ _ r4;go_simp; (try with_reducible rfl)
          (try simp only [cq])
          refine tkY 15 (some 145) ?_ ?_ ?_
          rotate_left
          · intro w hS0; (try dsimp only at hS0); have hS1 := hS0.1; obtain ⟨l0, l1, l2, l3, l4, l5, l6, l7⟩ := R1.out _ hS1; obtain ⟨a0, a1', a2', a3', a4', a5', a6', a7'⟩ := R2.out _ hS1; have r3 := R3.out _ hS1; have r4 := R4.out _ hS1; have y1 := World.block_lt_of_cell? _ _ l0; have y2 := World.block_lt_of_cell? _ _ a0; have y3 := World.block_lt_of_cell? _ _ r3; have y4 := World.block_lt_of_cell? _ _ r4;go_simp; (try with_reducible rfl)
          (try simp only [cq])
          refine wpAnyH_ready (rs := [16]) (by kernel_rfl) (by simp) ?_
          refine arc1 (some 146) fun K hK => ?_
          go_simp
          (refine (K3.out _ hH.1).mono ?_; rintro e w' ⟨rfl, hbc⟩)
          refine hK.out _ _ ?_ ?_
          · (exact ⟨hH.1.trans (hbc.mono (by have := hH.1.size; omega)), hH.2.1.call hbc, hH.2.2.call hbc⟩)
          (try clear hH); (try clear hbc)
          intro hH
          clear hK K
          (try simp only [cq])
          refine tkY 17 (some 129) ?_ ?_ ?_
          rotate_left
          · intro w _; go_simp; (try with_reducible rfl)
          (try simp only [cq])
          refine tkY 18 (some 147) ?_ ?_ ?_
          rotate_left
          · intro w _; go_simp; (try with_reducible rfl)
          (try simp only [cq])
          refine tkY 19 (some 148) ?_ ?_ ?_
          rotate_left
          · intro w _; go_simp; (try with_reducible rfl)
          (try simp only [cq])
          refine tkY 20 (some 149) ?_ ?_ ?_
          rotate_left
          · intro w _; go_simp; (try with_reducible rfl)
          (try simp only [cq])
          refine tkY 21 (some 29) ?_ ?_ ?_
          rotate_left
          · intro w _; go_simp; (try with_reducible rfl)
          (try simp only [cq])
          refine tkY 22 (some 30) ?_ ?_ ?_
          rotate_left
          · intro w _; go_simp; (try with_reducible rfl)
          (try simp only [cq])
          refine tkY 23 (some 31) ?_ ?_ ?_
          rotate_left
          · intro w _; go_simp; (try with_reducible rfl)
          (try simp only [cq])
          refine wpAnyH_done (by kernel_rfl) ?_ _
          (try dsimp only [Act.put])
          (try simp only [cq])
          clear hb jC jE K3
          obtain ⟨hb, jC, jE⟩ := hH
          go_upto_region 16 with fail
          refine wp_region_held_drew (S := (fun w' => Below B4 V3 w' ∧ Blk w' bC #[.int .i64 a1, .int .i64 a2] 24 ∧ Blk w' bE #[.int .i64 a1, .int .i64 a2] 24)) (by kernel_rfl) ?_ (fun hH => ?_)
          · (try dsimp only); (exact ⟨hb.drew, jC.drew, jE.drew⟩)
          refine tkY 0 (some 151) ?_ ?_ ?_
          rotate_left
          · intro w _; go_simp; (try with_reducible rfl)
          (try simp only [cq])
          refine tkY 1 (some 152) ?_ ?_ ?_
          rotate_left
          · intro w _; go_simp; (try with_reducible rfl)
          (try simp only [cq])
          refine tkY 2 (some 153) ?_ ?_ ?_
          rotate_left
          · intro w hS0; (try dsimp only at hS0); have hS1 := hS0.1; obtain ⟨l0, l1, l2, l3, l4, l5, l6, l7⟩ := R1.out _ hS1; obtain ⟨a0, a1', a2', a3', a4', a5', a6', a7'⟩ := R2.out _ hS1; have r3 := R3.out _ hS1; have r4 := R4.out _ hS1; have y1 := World.block_lt_of_cell? _ _ l0; have y2 := World.block_lt_of_cell? _ _ a0; have y3 := World.block_lt_of_cell? _ _ r3; have y4 := World.block_lt_of_cell? _ _ r4;go_simp; (try with_reducible rfl)
          (try simp only [cq])
          refine tkY 3 (some 154) ?_ ?_ ?_
          rotate_left
          · intro w hS0; (try dsimp only at hS0); have hS1 := hS0.1; obtain ⟨l0, l1, l2, l3, l4, l5, l6, l7⟩ := R1.out _ hS1; obtain ⟨a0, a1', a2', a3', a4', a5', a6', a7'⟩ := R2.out _ hS1; have r3 := R3.out _ hS1; have r4 := R4.out _ hS1; have y1 := World.block_lt_of_cell? _ _ l0; have y2 := World.block_lt_of_cell? _ _ a0; have y3 := World.block_lt_of_cell? _ _ r3; have y4 := World.block_lt_of_cell? _ _ r4;go_simp; (try with_reducible rfl)
          (try simp only [cq])
          refine tkY 4 (some 155) ?_ ?_ ?_
          rotate_left
          · intro w _; go_simp; (try with_reducible rfl)
          (try simp only [cq])
          refine tkY 5 (some 156) ?_ ?_ ?_
          rotate_left
          · intro w _; go_simp; (try with_reducible rfl)
          (try simp only [cq])
          refine tkY 6 (some 157) ?_ ?_ ?_
          rotate_left
          · intro w hS0; (try dsimp only at hS0); have hS1 := hS0.1; obtain ⟨l0, l1, l2, l3, l4, l5, l6, l7⟩ := R1.out _ hS1; obtain ⟨a0, a1', a2', a3', a4', a5', a6', a7'⟩ := R2.out _ hS1; have r3 := R3.out _ hS1; have r4 := R4.out _ hS1; have y1 := World.block_lt_of_cell? _ _ l0; have y2 := World.block_lt_of_cell? _ _ a0; have y3 := World.block_lt_of_cell? _ _ r3; have y4 := World.block_lt_of_cell? _ _ r4;go_simp; (try with_reducible rfl)
          (try simp only [cq])
          refine tkY 7 (some 158) ?_ ?_ ?_
          rotate_left
          · intro w hS0; (try dsimp only at hS0); have hS1 := hS0.1; obtain ⟨l0, l1, l2, l3, l4, l5, l6, l7⟩ := R1.out _ hS1; obtain ⟨a0, a1', a2', a3', a4', a5', a6', a7'⟩ := R2.out _ hS1; have r3 := R3.out _ hS1; have r4 := R4.out _ hS1; have y1 := World.block_lt_of_cell? _ _ l0; have y2 := World.block_lt_of_cell? _ _ a0; have y3 := World.block_lt_of_cell? _ _ r3; have y4 := World.block_lt_of_cell? _ _ r4;go_simp; (try with_reducible rfl)
          (try simp only [cq])
          refine tkY 8 (some 159) ?_ ?_ ?_
          rotate_left
          · intro w _; go_simp; (try with_reducible rfl)
          (try simp only [cq])
          refine tkY 9 (some 160) ?_ ?_ ?_
          rotate_left
          · intro w _; go_simp; (try with_reducible rfl)
          (try simp only [cq])
          refine tkY 10 (some 161) ?_ ?_ ?_
          rotate_left
          · intro w hS0; (try dsimp only at hS0); have hS1 := hS0.1; obtain ⟨l0, l1, l2, l3, l4, l5, l6, l7⟩ := R1.out _ hS1; obtain ⟨a0, a1', a2', a3', a4', a5', a6', a7'⟩ := R2.out _ hS1; have r3 := R3.out _ hS1; have r4 := R4.out _ hS1; have y1 := World.block_lt_of_cell? _ _ l0; have y2 := World.block_lt_of_cell? _ _ a0; have y3 := World.block_lt_of_cell? _ _ r3; have y4 := World.block_lt_of_cell? _ _ r4;go_simp; (try with_reducible rfl)
          (try simp only [cq])
          refine tkY 11 (some 162) ?_ ?_ ?_
          rotate_left
          · intro w hS0; (try dsimp only at hS0); have hS1 := hS0.1; obtain ⟨l0, l1, l2, l3, l4, l5, l6, l7⟩ := R1.out _ hS1; obtain ⟨a0, a1', a2', a3', a4', a5', a6', a7'⟩ := R2.out _ hS1; have r3 := R3.out _ hS1; have r4 := R4.out _ hS1; have y1 := World.block_lt_of_cell? _ _ l0; have y2 := World.block_lt_of_cell? _ _ a0; have y3 := World.block_lt_of_cell? _ _ r3; have y4 := World.block_lt_of_cell? _ _ r4;go_simp; (try with_reducible rfl)
          (try simp only [cq])
          refine tkY 12 (some 163) ?_ ?_ ?_
          rotate_left
          · intro w _; go_simp; (try with_reducible rfl)
          (try simp only [cq])
          refine tkY 13 (some 164) ?_ ?_ ?_
          rotate_left
          · intro w _; go_simp; (try with_reducible rfl)
          (try simp only [cq])
          refine tkY 14 (some 165) ?_ ?_ ?_
          rotate_left
          · intro w hS0; (try dsimp only at hS0); have hS1 := hS0.1; obtain ⟨l0, l1, l2, l3, l4, l5, l6, l7⟩ := R1.out _ hS1; obtain ⟨a0, a1', a2', a3', a4', a5', a6', a7'⟩ := R2.out _ hS1; have r3 := R3.out _ hS1; have r4 := R4.out _ hS1; have y1 := World.block_lt_of_cell? _ _ l0; have y2 := World.block_lt_of_cell? _ _ a0; have y3 := World.block_lt_of_cell? _ _ r3; have y4 := World.block_lt_of_cell? _ _ r4;go_simp; (try with_reducible rfl)
          (try simp only [cq])
          refine tkY 15 (some 166) ?_ ?_ ?_
          rotate_left
          · intro w hS0; (try dsimp only at hS0); have hS1 := hS0.1; obtain ⟨l0, l1, l2, l3, l4, l5, l6, l7⟩ := R1.out _ hS1; obtain ⟨a0, a1', a2', a3', a4', a5', a6', a7'⟩ := R2.out _ hS1; have r3 := R3.out _ hS1; have r4 := R4.out _ hS1; have y1 := World.block_lt_of_cell? _ _ l0; have y2 := World.block_lt_of_cell? _ _ a0; have y3 := World.block_lt_of_cell? _ _ r3; have y4 := World.block_lt_of_cell? _ _ r4;go_simp; (try with_reducible rfl)
          (try simp only [cq])
          refine wpAnyH_ready (rs := [16]) (by kernel_rfl) (by simp) ?_
          refine arc1 (some 167) fun K hK => ?_
          go_simp
          (refine (K4.out _ hH.1).mono ?_; rintro e w' ⟨rfl, hbc⟩)
          refine hK.out _ _ ?_ ?_
          · (exact ⟨hH.1.trans (hbc.mono (by have := hH.1.size; omega)), hH.2.1.call hbc, hH.2.2.call hbc⟩)
          (try clear hH); (try clear hbc)
          intro hH
          clear hK K
          (try simp only [cq])
          refine tkY 17 (some 150) ?_ ?_ ?_
          rotate_left
          · intro w _; go_simp; (try with_reducible rfl)
          (try simp only [cq])
          refine tkY 18 (some 168) ?_ ?_ ?_
          rotate_left
          · intro w _; go_simp; (try with_reducible rfl)
          (try simp only [cq])
          refine tkY 19 (some 169) ?_ ?_ ?_
          rotate_left
          · intro w _; go_simp; (try with_reducible rfl)
          (try simp only [cq])
          refine tkY 20 (some 170) ?_ ?_ ?_
          rotate_left
          · intro w _; go_simp; (try with_reducible rfl)
          (try simp only [cq])
          refine tkY 21 (some 32) ?_ ?_ ?_
          rotate_left
          · intro w _; go_simp; (try with_reducible rfl)
          (try simp only [cq])
          refine tkY 22 (some 33) ?_ ?_ ?_
          rotate_left
          · intro w _; go_simp; (try with_reducible rfl)
          (try simp only [cq])
          refine tkY 23 (some 34) ?_ ?_ ?_
          rotate_left
          · intro w _; go_simp; (try with_reducible rfl)
          (try simp only [cq])
          refine wpAnyH_done (by kernel_rfl) ?_ _
          (try dsimp only [Act.put])
          (try simp only [cq])
          clear hb jC jE K4
          obtain ⟨hb, jC, jE⟩ := hH
          clear R1 R2 R3 R4
          obtain ⟨c0, c1⟩ := jC.c2
          obtain ⟨e0, e1⟩ := jE.c2
          have z1 := jC.lt
          have z2 := jE.lt
          clear jC jE
          go_wp2
          go_roundw
          case rel => exact ⟨k + 1, by omega, by go_num, hb⟩
          case measure => simp [intOf]; omega
    · have hq := HQ.out
      clear HL HB4 HQ
      go_wp2_with fail
      show R _ _
      exact hq _ _ _ _ _ _ _ _ _ _ _ _ _ _ _ _ _ _ _ _ _ _ _ _ _ _ _ _ _ _ _ _ _ _ _ _ _ _ _ _ _ _ _ _ _ _ _ _ _ _ _ _ _ _ _ _ _ _ _ _ _ _ _ _ _ _ _ _ _ _ _ _ _ _ _ _ _ _ _ _ _ _ _ _ _ _ _ _ _ _ _ _ _ _ _ _ _ _ _ _ _ _ _ _ _ _ _ _ _ _ _ _ _ _ _ _ _ _ _ _ _ _ _ _ _ _ _ _ _ _ _ _ _ _ _ _ _ _ _ _ _ _ _ _ _ _ _ _ _ _ _ _ _ _ _ _ _ _ _ _ _ _ _ _ _ _ _ _ _ _ _ _ _ _ _ _ _ _ _ _ _ _ _ _ _ _ _ _ _ _ _ _ _ _ _ _ _ _ _ _ _ hb
def bLw (l : Lw) (v : Value) : Array Value := #[.int .i64 l.gr, .int .i64 l.la, v, .int .i64 l.m0, .int .i64 l.m1, .int .i64 l.so, .int .i64 l.h0, .int .i64 l.h1]
def bIc (x : Ic) : Array Value := #[.int .i64 x.b0, .int .i64 x.b1, .int .i64 x.w0, .int .i64 x.w1, .int .i64 x.q0, .int .i64 x.q1, .int .i64 x.s0, .int .i64 x.s1]
def bA1 (l m : Lw) (v u : Value) : Array Value := #[.int .i64 l.gr, .int .i64 l.la, v, .int .i64 l.m0, .int .i64 l.m1, .int .i64 l.so, .int .i64 l.h0, .int .i64 l.h1, .int .i64 m.gr, .int .i64 m.la, u, .int .i64 m.m0, .int .i64 m.m1, .int .i64 m.so, .int .i64 m.h0, .int .i64 m.h1, .int .i64 m.gr, .int .i64 m.la, u, .int .i64 m.m0, .int .i64 m.m1, .int .i64 m.so, .int .i64 m.h0, .int .i64 m.h1]
def bA2 (x y : Ic) : Array Value := #[.int .i64 x.b0, .int .i64 x.b1, .int .i64 x.w0, .int .i64 x.w1, .int .i64 x.q0, .int .i64 x.q1, .int .i64 x.s0, .int .i64 x.s1, .int .i64 y.b0, .int .i64 y.b1, .int .i64 y.w0, .int .i64 y.w1, .int .i64 y.q0, .int .i64 y.q1, .int .i64 y.s0, .int .i64 y.s1, .int .i64 x.b0, .int .i64 x.b1, .int .i64 x.w0, .int .i64 x.w1, .int .i64 x.q0, .int .i64 x.q1, .int .i64 x.s0, .int .i64 x.s1]
def bA3 (v u : Value) : Array Value := #[v, u, v]

set_option maxRecDepth 100000 in
set_option maxHeartbeats 16000000 in
theorem bearsl_any (l : Lw) (cv : Value) (x : Ic) (vd : Value) (md : Nat) (d : Nat → Dy) (nd : Int) (a : Option Addr) (len cap : Nat) (w : World) (hc : CovAt w cv l.n l.D l.P0 l.P1) (hd : DaysAt w vd md d) (hn : NumsAt w a len) :
    Calls Tryz.prog 4 #[.agg #[.int .i64 l.gr, .int .i64 l.la, cv, .int .i64 l.m0, .int .i64 l.m1, .int .i64 l.so, .int .i64 l.h0, .int .i64 l.h1], .agg #[.int .i64 x.b0, .int .i64 x.b1, .int .i64 x.w0, .int .i64 x.w1, .int .i64 x.q0, .int .i64 x.q1, .int .i64 x.s0, .int .i64 x.s1], vd, .int .i64 nd, .slice a len cap] w fun e w' => e = .returned (.bool true) ∧ Below w.heap.size w w' := by
  have HC := Lib.hid hc
  have HD := Lib.hid hd
  obtain ⟨va, vcap, hvv, hz1, hz2, hz3⟩ := hc
  clear hz1 hz2 hz3
  subst hvv
  obtain ⟨da, dcap, hvd, hz1, hz2, hz3⟩ := hd
  clear hz1 hz2 hz3
  subst hvd
  have jL := (Blk.new w #[.int .i64 l.gr, .int .i64 l.la, (Value.slice va l.n vcap), .int .i64 l.m0, .int .i64 l.m1, .int .i64 l.so, .int .i64 l.h0, .int .i64 l.h1] 26).alloc (.cells #[.int .i64 x.b0, .int .i64 x.b1, .int .i64 x.w0, .int .i64 x.w1, .int .i64 x.q0, .int .i64 x.q1, .int .i64 x.s0, .int .i64 x.s1] 28)
  have jX := Blk.new1 w (.cells #[.int .i64 l.gr, .int .i64 l.la, (Value.slice va l.n vcap), .int .i64 l.m0, .int .i64 l.m1, .int .i64 l.so, .int .i64 l.h0, .int .i64 l.h1] 26) #[.int .i64 x.b0, .int .i64 x.b1, .int .i64 x.w0, .int .i64 x.w1, .int .i64 x.q0, .int .i64 x.q1, .int .i64 x.s0, .int .i64 x.s1] 28
  have jB : Below w.heap.size w ((w.alloc (.cells #[.int .i64 l.gr, .int .i64 l.la, (Value.slice va l.n vcap), .int .i64 l.m0, .int .i64 l.m1, .int .i64 l.so, .int .i64 l.h0, .int .i64 l.h1] 26)).alloc (.cells #[.int .i64 x.b0, .int .i64 x.b1, .int .i64 x.w0, .int .i64 x.w1, .int .i64 x.q0, .int .i64 x.q1, .int .i64 x.s0, .int .i64 x.s1] 28)) := by (repeat (first | exact Below.refl _ _ | assumption | refine Below.drew ?_ | refine Below.drewN ?_ _ | refine blT ?_ | refine blU ?_))
  go_enter Tryz.func4, Tryz.ntmps4
  go_wp2_with fail
  refine (bigd_any _ _ _ _ _ _ _).mono ?_
  rintro e w0 ⟨rfl, hb⟩
  replace jL := jL.call hb
  replace jX := jX.call hb
  replace jB := bwS jB (Nat.le_refl _) hb
  clear hb
  cases hbg : bigB l.n md with
  | true =>
    clear hbg
    go_wp2_with fail
    refine (awake_any _).mono ?_
    rintro e w9 ⟨rfl, hb⟩
    replace jB := bwS jB (Nat.le_refl _) hb
    go_wp2
    go_ret
    exact ⟨rfl, jB⟩
  | false =>
  have hmd := bigB_no hbg
  clear hbg
  go_wp2_with fail
  refine (newseed_at a len cap _ (hn.later jB)).mono ?_
  rintro e w1 ⟨rfl, hS, hB⟩
  clear hn
  have zD := jX.lt
  obtain ⟨bs, hbs⟩ : ∃ b, w0.heap.size = b := ⟨_, rfl⟩
  replace jL := jL.call hB
  replace jX := jX.call hB
  replace jB := bwS jB (Nat.le_refl _) hB
  rw [hbs] at hS zD ⊢
  have hle : w.heap.size ≤ bs := by omega
  have HB := Lib.hid (And.intro hle jB)
  clear hbs hB jB hle
  obtain ⟨bL, hbL⟩ : ∃ b, w.heap.size = b := ⟨_, rfl⟩
  have zwL : w.heap.size ≤ bL := by omega
  rw [hbL] at jL jX zD ⊢
  clear hbL
  have hb1 : bs < w1.heap.size := hS.choose_spec.lt
  go_wp2_with fail
  refine (frostof_in bs w1 hS).mono ?_
  rintro e w2 ⟨m, v3, rfl, hm, hR, hA⟩
  obtain ⟨vb, vbcap, hvv, hz1, hz2, hz3⟩ := covAt_of_row hR
  clear hz1 hz2 hz3
  subst hvv
  go_wp2_with fail
  refine (iceof_in bs w2 hA.seed).mono ?_
  rintro e w3 ⟨y, rfl, hy, hd⟩
  replace hR := hd.row hR (by omega)
  replace hA := hA.trans hd
  clear hd
  go_wp2_with fail
  refine (yes_in 2 bs _ hA.seed (by decide)).mono ?_
  rintro e w4 ⟨fr, rfl, hd⟩
  replace hR := hd.row hR (by omega)
  replace hA := hA.trans hd
  clear hd
  go_wp2_with fail
  refine (daysof_in 10 (by decide) (by decide) fr bs _ hA.seed).mono ?_
  rintro e w5 ⟨v2, n2, d2, rfl, hn1, hdk, hD, hd⟩
  obtain ⟨aq, cq, hv2, _, _, _⟩ := daysAt_of_row hD
  subst hv2
  replace hR := hd.row hR (by omega)
  replace hA := hA.trans hd
  clear hd
  have zA := hA.2.size
  replace jL := ((hA.blk jL (by omega)).alloc (.cells #[.int .i64 m.gr, .int .i64 m.la, (Value.slice vb m.n vbcap), .int .i64 m.m0, .int .i64 m.m1, .int .i64 m.so, .int .i64 m.h0, .int .i64 m.h1] 26)).alloc (.cells #[.int .i64 y.b0, .int .i64 y.b1, .int .i64 y.w0, .int .i64 y.w1, .int .i64 y.q0, .int .i64 y.q1, .int .i64 y.s0, .int .i64 y.s1] 28)
  replace jX := ((hA.blk jX (by omega)).alloc (.cells #[.int .i64 m.gr, .int .i64 m.la, (Value.slice vb m.n vbcap), .int .i64 m.m0, .int .i64 m.m1, .int .i64 m.so, .int .i64 m.h0, .int .i64 m.h1] 26)).alloc (.cells #[.int .i64 y.b0, .int .i64 y.b1, .int .i64 y.w0, .int .i64 y.w1, .int .i64 y.q0, .int .i64 y.q1, .int .i64 y.s0, .int .i64 y.s1] 28)
  have jM := (Blk.new w5 #[.int .i64 m.gr, .int .i64 m.la, (Value.slice vb m.n vbcap), .int .i64 m.m0, .int .i64 m.m1, .int .i64 m.so, .int .i64 m.h0, .int .i64 m.h1] 26).alloc (.cells #[.int .i64 y.b0, .int .i64 y.b1, .int .i64 y.w0, .int .i64 y.w1, .int .i64 y.q0, .int .i64 y.q1, .int .i64 y.s0, .int .i64 y.s1] 28)
  have jY := Blk.new1 w5 (.cells #[.int .i64 m.gr, .int .i64 m.la, (Value.slice vb m.n vbcap), .int .i64 m.m0, .int .i64 m.m1, .int .i64 m.so, .int .i64 m.h0, .int .i64 m.h1] 26) #[.int .i64 y.b0, .int .i64 y.b1, .int .i64 y.w0, .int .i64 y.w1, .int .i64 y.q0, .int .i64 y.q1, .int .i64 y.s0, .int .i64 y.s1] 28
  replace hR := (hR.alloc (.cells #[.int .i64 m.gr, .int .i64 m.la, (Value.slice vb m.n vbcap), .int .i64 m.m0, .int .i64 m.m1, .int .i64 m.so, .int .i64 m.h0, .int .i64 m.h1] 26)).alloc (.cells #[.int .i64 y.b0, .int .i64 y.b1, .int .i64 y.w0, .int .i64 y.w1, .int .i64 y.q0, .int .i64 y.q1, .int .i64 y.s0, .int .i64 y.s1] 28)
  replace hD := (hD.alloc (.cells #[.int .i64 m.gr, .int .i64 m.la, (Value.slice vb m.n vbcap), .int .i64 m.m0, .int .i64 m.m1, .int .i64 m.so, .int .i64 m.h0, .int .i64 m.h1] 26)).alloc (.cells #[.int .i64 y.b0, .int .i64 y.b1, .int .i64 y.w0, .int .i64 y.w1, .int .i64 y.q0, .int .i64 y.q1, .int .i64 y.s0, .int .i64 y.s1] 28)
  replace hA := (hA.new (.cells #[.int .i64 m.gr, .int .i64 m.la, (Value.slice vb m.n vbcap), .int .i64 m.m0, .int .i64 m.m1, .int .i64 m.so, .int .i64 m.h0, .int .i64 m.h1] 26)).new (.cells #[.int .i64 y.b0, .int .i64 y.b1, .int .i64 y.w0, .int .i64 y.w1, .int .i64 y.q0, .int .i64 y.q1, .int .i64 y.s0, .int .i64 y.s1] 28)
  go_upto_region 5 with fail
  obtain ⟨bM, hbM⟩ : ∃ b, w5.heap.size = b := ⟨_, rfl⟩
  rw [hbM] at zA jM jY
  (try rw [hbM])
  clear hbM
  generalize (w5.alloc (.cells #[.int .i64 m.gr, .int .i64 m.la, (Value.slice vb m.n vbcap), .int .i64 m.m0, .int .i64 m.m1, .int .i64 m.so, .int .i64 m.h0, .int .i64 m.h1] 26)).alloc (.cells #[.int .i64 y.b0, .int .i64 y.b1, .int .i64 y.w0, .int .i64 y.w1, .int .i64 y.q0, .int .i64 y.q1, .int .i64 y.s0, .int .i64 y.s1] 28) = V at jL jX jM jY hR hD hA ⊢
  have zwbs : w.heap.size ≤ bs := HB.out.1
  have jB5 : Below w.heap.size w V := Drawn.below HB.out.2 hA HB.out.1
  have hAs := hA.seed
  clear hA HB hS hdk
  go_cut [15] (fun s15 wx => ∃ z : Int, s15 = .int .i64 z ∧ Blk wx bL (bLw l (Value.slice va l.n vcap)) 26 ∧ Blk wx (bL + 1) (bIc x) 28 ∧ Blk wx bM (bLw m (Value.slice vb m.n vbcap)) 26 ∧ Blk wx (bM + 1) (bIc y) 28 ∧ wx.ownsRow (bs + 1) 74 3 (Value.slice vb m.n vbcap) m.n (covC m.D m.P0 m.P1 m.n) ∧ wx.ownsRow (bs + 1) 58 6 (Value.slice aq n2 cq) n2 (daysC d2 n2) ∧ SeedAt bs wx ∧ Below w.heap.size w wx)
  case first =>
    (
 refine wp_region_held_drew (S := (fun w' => Blk w' bL (bLw l (Value.slice va l.n vcap)) 26 ∧ Blk w' (bL + 1) (bIc x) 28 ∧ Blk w' bM (bLw m (Value.slice vb m.n vbcap)) 26 ∧ Blk w' (bM + 1) (bIc y) 28 ∧ w'.ownsRow (bs + 1) 74 3 (Value.slice vb m.n vbcap) m.n (covC m.D m.P0 m.P1 m.n) ∧ w'.ownsRow (bs + 1) 58 6 (Value.slice aq n2 cq) n2 (daysC d2 n2) ∧ SeedAt bs w' ∧ Below w.heap.size w w')) (by kernel_rfl) ?_ (fun hH => ?_)
 · (try dsimp only); (exact ⟨jL.drew, jX.drew, jM.drew, jY.drew, hR, hD, hAs, jB5.drew⟩)
 refine tkY 0 (some 49) ?_ ?_ ?_
 rotate_left
 · intro w hS0; (try dsimp only at hS0); obtain ⟨_, _, _, k4, _⟩ := hS0; obtain ⟨c0, c1, c2, c3, c4, c5, c6, c7⟩ := k4.c8; have y4 := k4.lt;go_simp; (try with_reducible rfl)
 (try simp only [cq])
 refine tkY 1 (some 50) ?_ ?_ ?_
 rotate_left
 · intro w hS0; (try dsimp only at hS0); obtain ⟨_, _, _, k4, _⟩ := hS0; obtain ⟨c0, c1, c2, c3, c4, c5, c6, c7⟩ := k4.c8; have y4 := k4.lt;go_simp; (try with_reducible rfl)
 (try simp only [cq])
 refine tkY 2 (some 51) ?_ ?_ ?_
 rotate_left
 · intro w hS0; (try dsimp only at hS0); obtain ⟨_, _, _, k4, _⟩ := hS0; obtain ⟨c0, c1, c2, c3, c4, c5, c6, c7⟩ := k4.c8; have y4 := k4.lt;go_simp; (try with_reducible rfl)
 (try simp only [cq])
 refine tkY 3 (some 52) ?_ ?_ ?_
 rotate_left
 · intro w _; go_simp; (try with_reducible rfl)
 (try simp only [cq])
 refine wpAnyH_ready (rs := [4]) (by kernel_rfl) (by simp) ?_
 refine arc1 (some 53) fun K hK => ?_
 go_simp
 (refine (from_in (-3) 30 bs _ (hH.2.2.2.2.2.2.1) (by decide) (by decide) (by decide) (by decide)).mono ?_; rintro e w' ⟨t, rfl, _, _, hd⟩)
 refine hK.out _ _ ?_ ?_
 · (exact ⟨hd.blk hH.1 (by omega), hd.blk (hH.2.1) (by omega), hd.blk (hH.2.2.1) (by omega), hd.blk (hH.2.2.2.1) (by omega), hd.row (hH.2.2.2.2.1) (by omega), hd.row (hH.2.2.2.2.2.1) (by omega), hd.seed, Drawn.below (hH.2.2.2.2.2.2.2) hd zwbs⟩)
 (try clear hH); (try clear hd)
 intro hH
 clear hK K
 (try simp only [cq])
 refine tkY 5 (some 54) ?_ ?_ ?_
 rotate_left
 · intro w _; go_simp; (try with_reducible rfl)
 (try simp only [cq])
 refine tkY 6 (some 15) ?_ ?_ ?_
 rotate_left
 · intro w _; go_simp; (try with_reducible rfl)
 (try simp only [cq])
 refine wpAnyH_done (by kernel_rfl) ?_ _
 (try dsimp only [Act.put])
 (try simp only [cq])
 go_wp2_with fail
 go_meet
 exact ⟨_, rfl, hH⟩ )
  case rest =>
    clear jL jX jM jY hR hD hAs jB5
    obtain ⟨z0, rfl, jL, jX, jM, jY, hR, hD, hAs, jB⟩ := hcut
    have kC := covAt_of_row hR
    have kD := daysAt_of_row hD
    obtain ⟨m0, m1, m2, m3, m4, m5, m6, m7⟩ := jM.c8
    obtain ⟨c0, c1, c2, c3, c4, c5, c6, c7⟩ := jY.c8
    have zM := jM.lt
    have zY := jY.lt
    go_wp2_with fail
    refine (rRun_any m (Value.slice vb m.n vbcap) y (Value.slice aq n2 cq) n2 d2 _ kC kD).mono ?_
    rintro e w6 ⟨r, rfl, kI, hb⟩
    clear m0 m1 m2 m3 m4 m5 m6 m7 c0 c1 c2 c3 c4 c5 c6 c7 zM zY kC kD
    replace jL := jL.call hb
    replace jX := jX.call hb
    replace jM := jM.call hb
    replace jY := jY.call hb
    replace hR := row_call hR hb
    replace hD := row_call hD hb
    replace hAs := hAs.imp fun _ h => h.call hb
    replace jB := bwS jB (Nat.le_refl _) hb
    clear hb
    generalize runN m y n2 d2 = N at kI ⊢
    generalize (fun i => iceAt m d2 y (i + 1)) = F at kI ⊢
    obtain ⟨ra, rc, hrr, _, _, _⟩ := id kI
    subst hrr
    go_upto_region 7 with fail
    go_cut [68] (fun s68 wx => ∃ b : Bool, s68 = .bool b ∧ (b = true → 0 < N) ∧ IceL wx (.slice ra N rc) N F ∧ Blk wx bL (bLw l (Value.slice va l.n vcap)) 26 ∧ Blk wx (bL + 1) (bIc x) 28 ∧ Blk wx bM (bLw m (Value.slice vb m.n vbcap)) 26 ∧ Blk wx (bM + 1) (bIc y) 28 ∧ wx.ownsRow (bs + 1) 74 3 (Value.slice vb m.n vbcap) m.n (covC m.D m.P0 m.P1 m.n) ∧ wx.ownsRow (bs + 1) 58 6 (Value.slice aq n2 cq) n2 (daysC d2 n2) ∧ SeedAt bs wx ∧ Below w.heap.size w wx)
    case first =>
      by_cases h0 : 0 < N
      · have g0 : decide ((0 : Int) < (N : Int)) = true := by simp; omega
        go_wp2_with fail
        refine (yes_in 2 bs _ hAs (by decide)).mono ?_
        rintro e w7 ⟨yy, rfl, hd⟩
        have kI2 := kI.drawn hAs hd
        replace jL := hd.blk jL (by omega)
        replace jX := hd.blk jX (by omega)
        replace jM := hd.blk jM (by omega)
        replace jY := hd.blk jY (by omega)
        replace hR := hd.row hR (by omega)
        replace hD := hd.row hD (by omega)
        replace jB := Drawn.below jB hd zwbs
        go_wp2
        go_meet
        exact ⟨yy, rfl, fun _ => h0, kI2, jL, jX, jM, jY, hR, hD, hd.seed, jB⟩
      · have g0 : decide ((0 : Int) < (N : Int)) = false := by simp; omega
        go_wp2
        go_meet
        exact ⟨false, rfl, fun h => by simp at h, kI, jL, jX, jM, jY, hR, hD, hAs, jB⟩
    case rest =>
      clear jL jX jM jY hR hD hAs jB kI
      obtain ⟨bb, rfl, hbN, kI, jL, jX, jM, jY, hR, hD, hAs, jB⟩ := hcut
      go_upto_if 68 with fail
      go_cut [15] (fun s15 wx => ∃ z : Int, s15 = .int .i64 z ∧ Blk wx bL (bLw l (Value.slice va l.n vcap)) 26 ∧ Blk wx (bL + 1) (bIc x) 28 ∧ Blk wx bM (bLw m (Value.slice vb m.n vbcap)) 26 ∧ Blk wx (bM + 1) (bIc y) 28 ∧ wx.ownsRow (bs + 1) 74 3 (Value.slice vb m.n vbcap) m.n (covC m.D m.P0 m.P1 m.n) ∧ wx.ownsRow (bs + 1) 58 6 (Value.slice aq n2 cq) n2 (daysC d2 n2) ∧ SeedAt bs wx ∧ Below w.heap.size w wx)
      case first =>
        cases bb with
        | false =>
          go_wp2
          go_meet
          exact ⟨_, rfl, jL, jX, jM, jY, hR, hD, hAs, jB⟩
        | true =>
          have h0 := hbN rfl
          clear hbN
          obtain ⟨aa, acap, hv, _, _, hz⟩ := kI
          simp only [Value.slice.injEq] at hv
          obtain ⟨rfl, _, rfl⟩ := hv
          obtain ⟨rb, ro, rfl, hIc⟩ := hz h0
          clear hz
          have hrs : rb ≠ bs := seed_not hAs (hIc 0 h0).1
          go_upto_region 8 with fail
          (
 refine wp_region_held_drew (S := (fun w' => IcesAt w' rb ro N F ∧ Blk w' bL (bLw l (Value.slice va l.n vcap)) 26 ∧ Blk w' (bL + 1) (bIc x) 28 ∧ Blk w' bM (bLw m (Value.slice vb m.n vbcap)) 26 ∧ Blk w' (bM + 1) (bIc y) 28 ∧ w'.ownsRow (bs + 1) 74 3 (Value.slice vb m.n vbcap) m.n (covC m.D m.P0 m.P1 m.n) ∧ w'.ownsRow (bs + 1) 58 6 (Value.slice aq n2 cq) n2 (daysC d2 n2) ∧ SeedAt bs w' ∧ Below w.heap.size w w')) (by kernel_rfl) ?_ (fun hH => ?_)
 · (try dsimp only); (exact ⟨hIc, jL.drew, jX.drew, jM.drew, jY.drew, hR, hD, hAs, jB.drew⟩)
 refine tkY 0 (some 69) ?_ ?_ ?_
 rotate_left
 · intro w _; go_simp; (try with_reducible rfl)
 (try simp only [cq])
 refine tkY 1 (some 70) ?_ ?_ ?_
 rotate_left
 · intro w _; go_simp; (try with_reducible rfl)
 (try simp only [cq])
 refine tkY 2 (some 71) ?_ ?_ ?_
 rotate_left
 · intro w _; go_simp; (try with_reducible rfl)
 (try simp only [cq])
 refine tkY 3 (some 72) ?_ ?_ ?_
 rotate_left
 · intro w hS0; (try dsimp only at hS0); (try (have hcj := hS0.1 j hj; obtain ⟨a0, a1, a2, a3, a4, a5, a6, a7⟩ := hcj; have y2 := World.block_lt_of_cell? _ _ a0));go_simp; (try with_reducible rfl)
 (try simp only [cq])
 refine tkY 9 (some 78) ?_ ?_ ?_
 rotate_left
 · intro w _; go_simp; (try with_reducible rfl)
 (try simp only [cq])
 refine wpAnyH_ready (rs := [4]) (by kernel_rfl) (by simp) ?_
 refine arc1 (some 73) fun K hK => ?_
 go_simp
 (refine (below_in N bs _ (hH.2.2.2.2.2.2.2.1) (by omega)).mono ?_; rintro e w' ⟨t, rfl, t0, t1, hd⟩; obtain ⟨j, rfl⟩ := Int.eq_ofNat_of_zero_le t0; have hj : j < N := (by omega))
 refine hK.out _ _ ?_ ?_
 · (exact ⟨fun i hi => ⟨hd.cell (hH.1 i hi).1 hrs, hd.cell (hH.1 i hi).2.1 hrs, hd.cell (hH.1 i hi).2.2.1 hrs, hd.cell (hH.1 i hi).2.2.2.1 hrs, hd.cell (hH.1 i hi).2.2.2.2.1 hrs, hd.cell (hH.1 i hi).2.2.2.2.2.1 hrs, hd.cell (hH.1 i hi).2.2.2.2.2.2.1 hrs, hd.cell (hH.1 i hi).2.2.2.2.2.2.2 hrs⟩, hd.blk hH.2.1 (by omega), hd.blk (hH.2.2.1) (by omega), hd.blk (hH.2.2.2.1) (by omega), hd.blk (hH.2.2.2.2.1) (by omega), hd.row (hH.2.2.2.2.2.1) (by omega), hd.row (hH.2.2.2.2.2.2.1) (by omega), hd.seed, Drawn.below (hH.2.2.2.2.2.2.2.2) hd zwbs⟩)
 (try clear hH); (try clear hd)
 intro hH
 clear hK K
 (try simp only [cq])
 refine tkY 5 (some 74) ?_ ?_ ?_
 rotate_left
 · intro w hS0; (try dsimp only at hS0); (try (have hcj := hS0.1 j hj; obtain ⟨a0, a1, a2, a3, a4, a5, a6, a7⟩ := hcj; have y2 := World.block_lt_of_cell? _ _ a0));go_simp; (try with_reducible rfl)
 (try simp only [cq])
 refine tkY 6 (some 75) ?_ ?_ ?_
 rotate_left
 · intro w hS0; (try dsimp only at hS0); (try (have hcj := hS0.1 j hj; obtain ⟨a0, a1, a2, a3, a4, a5, a6, a7⟩ := hcj; have y2 := World.block_lt_of_cell? _ _ a0));go_simp; (try with_reducible rfl)
 (try simp only [cq])
 refine tkY 7 (some 76) ?_ ?_ ?_
 rotate_left
 · intro w hS0; (try dsimp only at hS0); (try (have hcj := hS0.1 j hj; obtain ⟨a0, a1, a2, a3, a4, a5, a6, a7⟩ := hcj; have y2 := World.block_lt_of_cell? _ _ a0));go_simp; (try with_reducible rfl)
 (try simp only [cq])
 refine tkY 8 (some 77) ?_ ?_ ?_
 rotate_left
 · intro w hS0; (try dsimp only at hS0); (try (have hcj := hS0.1 j hj; obtain ⟨a0, a1, a2, a3, a4, a5, a6, a7⟩ := hcj; have y2 := World.block_lt_of_cell? _ _ a0));go_simp; (try with_reducible rfl)
 (try simp only [cq])
 refine wpAnyH_ready (rs := [10]) (by kernel_rfl) (by simp) ?_
 refine arc1 (some 79) fun K hK => ?_
 go_simp
 (refine (from_in (-2) 9 bs _ (hH.2.2.2.2.2.2.2.1) (by decide) (by decide) (by decide) (by decide)).mono ?_; rintro e w' ⟨t, rfl, _, _, hd⟩)
 refine hK.out _ _ ?_ ?_
 · (exact ⟨fun i hi => ⟨hd.cell (hH.1 i hi).1 hrs, hd.cell (hH.1 i hi).2.1 hrs, hd.cell (hH.1 i hi).2.2.1 hrs, hd.cell (hH.1 i hi).2.2.2.1 hrs, hd.cell (hH.1 i hi).2.2.2.2.1 hrs, hd.cell (hH.1 i hi).2.2.2.2.2.1 hrs, hd.cell (hH.1 i hi).2.2.2.2.2.2.1 hrs, hd.cell (hH.1 i hi).2.2.2.2.2.2.2 hrs⟩, hd.blk hH.2.1 (by omega), hd.blk (hH.2.2.1) (by omega), hd.blk (hH.2.2.2.1) (by omega), hd.blk (hH.2.2.2.2.1) (by omega), hd.row (hH.2.2.2.2.2.1) (by omega), hd.row (hH.2.2.2.2.2.2.1) (by omega), hd.seed, Drawn.below (hH.2.2.2.2.2.2.2.2) hd zwbs⟩)
 (try clear hH); (try clear hd)
 intro hH
 clear hK K
 (try simp only [cq])
 refine tkY 11 (some 80) ?_ ?_ ?_
 rotate_left
 · intro w _; go_simp; (try with_reducible rfl)
 (try simp only [cq])
 refine tkY 12 (some 15) ?_ ?_ ?_
 rotate_left
 · intro w _; go_simp; (try with_reducible rfl)
 (try simp only [cq])
 refine wpAnyH_done (by kernel_rfl) ?_ _
 (try dsimp only [Act.put])
 (try simp only [cq])
 go_wp2_with fail
 go_meet
 exact ⟨_, rfl, hH.2⟩ )
      case rest =>
        clear jL jX jM jY hR hD hAs jB kI hbN
        obtain ⟨z, rfl, jL, jX, jM, jY, hR, hD, _, jB⟩ := hcut
        have kC := covAt_of_row hR
        have kD := daysAt_of_row hD
        clear hR hD
        have kC1 := HC.out.later jB
        have kD1 := HD.out.later jB
        go_upto_region 9 with fail
        go_cut [18, 19, 20, 21] (fun s18 s19 s20 s21 wx => ∃ (b1 b2 b3 b4 : Nat) (ls : Nat → Lw × Value) (xs : Nat → Ic) (vs : Nat → Value) (ns : Nat → Nat) (ds : Nat → Nat → Dy) (zs : Nat → Int), s18 = .slice (some ⟨b1, 0, none⟩) 3 3 ∧ s19 = .slice (some ⟨b2, 0, none⟩) 3 3 ∧ s20 = .slice (some ⟨b3, 0, none⟩) 3 3 ∧ s21 = .slice (some ⟨b4, 0, none⟩) 3 3 ∧ RLists wx b1 b2 b3 ls xs vs ns ds ∧ (∃ C, IvArr C 3 zs ∧ Blk wx b4 C 3) ∧ Below w.heap.size w wx)
        case first =>
          (
 let S9 : World → Prop := (fun w' => Blk w' bL (bLw l (Value.slice va l.n vcap)) 26 ∧ Blk w' (bL + 1) (bIc x) 28 ∧ Blk w' bM (bLw m (Value.slice vb m.n vbcap)) 26 ∧ Blk w' (bM + 1) (bIc y) 28 ∧ CovAt w' (Value.slice vb m.n vbcap) m.n m.D m.P0 m.P1 ∧ DaysAt w' (Value.slice aq n2 cq) n2 d2 ∧ Below w.heap.size w w')
 refine wp_region_held_drew (S := S9) (by kernel_rfl) ?_ (fun hH => ?_)
 · (try dsimp only); (exact ⟨jL.drew, jX.drew, jM.drew, jY.drew, kC.later (Below.refl _ _).drew, kD.later (Below.refl _ _).drew, jB.drew⟩)
 apply share0_4 (fun (bP bQ bR bT : Nat) (W : World) => S9 W ∧ Blk W bP (bA1 l m (Value.slice va l.n vcap) (Value.slice vb m.n vbcap)) 26 ∧ Blk W bQ (bA2 x y) 28 ∧ Blk W bR (bA3 (Value.slice da md dcap) (Value.slice aq n2 cq)) 29 ∧ Blk W bT #[.int .i64 nd, .int .i64 z, .int .i64 nd] 3 ∧ (bP ≠ bQ) ∧ (bP ≠ bR) ∧ (bP ≠ bT) ∧ (bQ ≠ bR) ∧ (bQ ≠ bT) ∧ (bR ≠ bT))
 {
 intro X0_0123
 apply share0_3 (fun (bP bQ bR : Nat) (W : World) => S9 W ∧ Blk W bP (bA1 l m (Value.slice va l.n vcap) (Value.slice vb m.n vbcap)) 26 ∧ Blk W bQ (bA2 x y) 28 ∧ Blk W bR (bA3 (Value.slice da md dcap) (Value.slice aq n2 cq)) 29 ∧ (bP ≠ bQ) ∧ (bP ≠ bR) ∧ (bQ ≠ bR))
 {
 intro X0_012
 apply share0_3 (fun (bP bQ bT : Nat) (W : World) => S9 W ∧ Blk W bP (bA1 l m (Value.slice va l.n vcap) (Value.slice vb m.n vbcap)) 26 ∧ Blk W bQ (bA2 x y) 28 ∧ Blk W bT #[.int .i64 nd, .int .i64 z, .int .i64 nd] 3 ∧ (bP ≠ bQ) ∧ (bP ≠ bT) ∧ (bQ ≠ bT))
 {
 intro X0_013
 apply share0_3 (fun (bP bR bT : Nat) (W : World) => S9 W ∧ Blk W bP (bA1 l m (Value.slice va l.n vcap) (Value.slice vb m.n vbcap)) 26 ∧ Blk W bR (bA3 (Value.slice da md dcap) (Value.slice aq n2 cq)) 29 ∧ Blk W bT #[.int .i64 nd, .int .i64 z, .int .i64 nd] 3 ∧ (bP ≠ bR) ∧ (bP ≠ bT) ∧ (bR ≠ bT))
 {
 intro X0_023
 apply share0_3 (fun (bQ bR bT : Nat) (W : World) => S9 W ∧ Blk W bQ (bA2 x y) 28 ∧ Blk W bR (bA3 (Value.slice da md dcap) (Value.slice aq n2 cq)) 29 ∧ Blk W bT #[.int .i64 nd, .int .i64 z, .int .i64 nd] 3 ∧ (bQ ≠ bR) ∧ (bQ ≠ bT) ∧ (bR ≠ bT))
 {
 intro X0_123
 apply share0_2 (fun (bP bQ : Nat) (W : World) => S9 W ∧ Blk W bP (bA1 l m (Value.slice va l.n vcap) (Value.slice vb m.n vbcap)) 26 ∧ Blk W bQ (bA2 x y) 28 ∧ (bP ≠ bQ))
 {
 intro X0_01
 apply share0_2 (fun (bP bR : Nat) (W : World) => S9 W ∧ Blk W bP (bA1 l m (Value.slice va l.n vcap) (Value.slice vb m.n vbcap)) 26 ∧ Blk W bR (bA3 (Value.slice da md dcap) (Value.slice aq n2 cq)) 29 ∧ (bP ≠ bR))
 {
 intro X0_02
 apply share0_2 (fun (bP bT : Nat) (W : World) => S9 W ∧ Blk W bP (bA1 l m (Value.slice va l.n vcap) (Value.slice vb m.n vbcap)) 26 ∧ Blk W bT #[.int .i64 nd, .int .i64 z, .int .i64 nd] 3 ∧ (bP ≠ bT))
 {
 intro X0_03
 apply share0_2 (fun (bQ bR : Nat) (W : World) => S9 W ∧ Blk W bQ (bA2 x y) 28 ∧ Blk W bR (bA3 (Value.slice da md dcap) (Value.slice aq n2 cq)) 29 ∧ (bQ ≠ bR))
 {
 intro X0_12
 apply share0_2 (fun (bQ bT : Nat) (W : World) => S9 W ∧ Blk W bQ (bA2 x y) 28 ∧ Blk W bT #[.int .i64 nd, .int .i64 z, .int .i64 nd] 3 ∧ (bQ ≠ bT))
 {
 intro X0_13
 apply share0_2 (fun (bR bT : Nat) (W : World) => S9 W ∧ Blk W bR (bA3 (Value.slice da md dcap) (Value.slice aq n2 cq)) 29 ∧ Blk W bT #[.int .i64 nd, .int .i64 z, .int .i64 nd] 3 ∧ (bR ≠ bT))
 {
 intro X0_23
 apply share0_1 (fun (bP : Nat) (W : World) => S9 W ∧ Blk W bP (bA1 l m (Value.slice va l.n vcap) (Value.slice vb m.n vbcap)) 26)
 {
 intro X0_0
 apply share0_1 (fun (bQ : Nat) (W : World) => S9 W ∧ Blk W bQ (bA2 x y) 28)
 {
 intro X0_1
 apply share0_1 (fun (bR : Nat) (W : World) => S9 W ∧ Blk W bR (bA3 (Value.slice da md dcap) (Value.slice aq n2 cq)) 29)
 {
 intro X0_2
 apply share0_1 (fun (bT : Nat) (W : World) => S9 W ∧ Blk W bT #[.int .i64 nd, .int .i64 z, .int .i64 nd] 3)
 {
 intro X0_3
 refine tkY 0 (some 81) ?_ ?_ ?_
 rotate_left
 · intro w hS0; (try dsimp only at hS0); obtain ⟨k1, k2, k3, k4, _⟩ := hS0; obtain ⟨l0, l1, l2, l3, l4, l5, l6, l7⟩ := k1.c8; obtain ⟨a0, a1, a2, a3, a4, a5, a6, a7⟩ := k2.c8; obtain ⟨m0, m1, m2, m3, m4, m5, m6, m7⟩ := k3.c8; obtain ⟨c0, c1, c2, c3, c4, c5, c6, c7⟩ := k4.c8; have y1 := k1.lt; have y2 := k2.lt; have y3 := k3.lt; have y4 := k4.lt;go_simp; (try with_reducible rfl)
 (try simp only [cq])
 refine tkY 1 (some 82) ?_ ?_ ?_
 rotate_left
 · intro w hS0; (try dsimp only at hS0); obtain ⟨k1, k2, k3, k4, _⟩ := hS0; obtain ⟨l0, l1, l2, l3, l4, l5, l6, l7⟩ := k1.c8; obtain ⟨a0, a1, a2, a3, a4, a5, a6, a7⟩ := k2.c8; obtain ⟨m0, m1, m2, m3, m4, m5, m6, m7⟩ := k3.c8; obtain ⟨c0, c1, c2, c3, c4, c5, c6, c7⟩ := k4.c8; have y1 := k1.lt; have y2 := k2.lt; have y3 := k3.lt; have y4 := k4.lt;go_simp; (try with_reducible rfl)
 (try simp only [cq])
 refine tkY 2 (some 83) ?_ ?_ ?_
 rotate_left
 · intro w hS0; (try dsimp only at hS0); obtain ⟨k1, k2, k3, k4, _⟩ := hS0; obtain ⟨l0, l1, l2, l3, l4, l5, l6, l7⟩ := k1.c8; obtain ⟨a0, a1, a2, a3, a4, a5, a6, a7⟩ := k2.c8; obtain ⟨m0, m1, m2, m3, m4, m5, m6, m7⟩ := k3.c8; obtain ⟨c0, c1, c2, c3, c4, c5, c6, c7⟩ := k4.c8; have y1 := k1.lt; have y2 := k2.lt; have y3 := k3.lt; have y4 := k4.lt;go_simp; (try with_reducible rfl)
 (try simp only [cq])
 refine tkY 4 (some 85) ?_ ?_ ?_
 rotate_left
 · intro w hS0; (try dsimp only at hS0); obtain ⟨k1, k2, k3, k4, _⟩ := hS0; obtain ⟨l0, l1, l2, l3, l4, l5, l6, l7⟩ := k1.c8; obtain ⟨a0, a1, a2, a3, a4, a5, a6, a7⟩ := k2.c8; obtain ⟨m0, m1, m2, m3, m4, m5, m6, m7⟩ := k3.c8; obtain ⟨c0, c1, c2, c3, c4, c5, c6, c7⟩ := k4.c8; have y1 := k1.lt; have y2 := k2.lt; have y3 := k3.lt; have y4 := k4.lt;go_simp; (try with_reducible rfl)
 (try simp only [cq])
 refine tkY 5 (some 86) ?_ ?_ ?_
 rotate_left
 · intro w hS0; (try dsimp only at hS0); obtain ⟨k1, k2, k3, k4, _⟩ := hS0; obtain ⟨l0, l1, l2, l3, l4, l5, l6, l7⟩ := k1.c8; obtain ⟨a0, a1, a2, a3, a4, a5, a6, a7⟩ := k2.c8; obtain ⟨m0, m1, m2, m3, m4, m5, m6, m7⟩ := k3.c8; obtain ⟨c0, c1, c2, c3, c4, c5, c6, c7⟩ := k4.c8; have y1 := k1.lt; have y2 := k2.lt; have y3 := k3.lt; have y4 := k4.lt;go_simp; (try with_reducible rfl)
 (try simp only [cq])
 refine tkY 6 (some 87) ?_ ?_ ?_
 rotate_left
 · intro w hS0; (try dsimp only at hS0); obtain ⟨k1, k2, k3, k4, _⟩ := hS0; obtain ⟨l0, l1, l2, l3, l4, l5, l6, l7⟩ := k1.c8; obtain ⟨a0, a1, a2, a3, a4, a5, a6, a7⟩ := k2.c8; obtain ⟨m0, m1, m2, m3, m4, m5, m6, m7⟩ := k3.c8; obtain ⟨c0, c1, c2, c3, c4, c5, c6, c7⟩ := k4.c8; have y1 := k1.lt; have y2 := k2.lt; have y3 := k3.lt; have y4 := k4.lt;go_simp; (try with_reducible rfl)
 (try simp only [cq])
 refine tkY 8 (some 89) ?_ ?_ ?_
 rotate_left
 · intro w _; go_simp; (try with_reducible rfl)
 (try simp only [cq])
 refine tkY 9 (some 90) ?_ ?_ ?_
 rotate_left
 · intro w _; go_simp; (try with_reducible rfl)
 (try simp only [cq])
 refine tkY 10 (some 91) ?_ ?_ ?_
 rotate_left
 · intro w _; go_simp; (try with_reducible rfl)
 (try simp only [cq])
 refine tkY 12 (some 93) ?_ ?_ ?_
 rotate_left
 · intro w _; go_simp; (try with_reducible rfl)
 (try simp only [cq])
 refine tkY 13 (some 94) ?_ ?_ ?_
 rotate_left
 · intro w _; go_simp; (try with_reducible rfl)
 (try simp only [cq])
 refine tkY 14 (some 95) ?_ ?_ ?_
 rotate_left
 · intro w _; go_simp; (try with_reducible rfl)
 (try simp only [cq])
 refine wpAnyH_ready (rs := [3, 7, 11, 15]) (by kernel_rfl) (by simp) ?_
 refine arc (some 84) (fun K hK => ?_) ?_
 {
 go_simp
 first | refine oA hK ?_ (fun hH hA => ?_) | refine oD hK ?_ (fun hH hA => ?_)
 · exact ⟨hH.1.alloc _, hH.2.1.alloc _, hH.2.2.1.alloc _, hH.2.2.2.1.alloc _, hH.2.2.2.2.1.later ((Below.refl _ _).alloc (Nat.le_refl _) _), hH.2.2.2.2.2.1.later ((Below.refl _ _).alloc (Nat.le_refl _) _), bwA (hH.2.2.2.2.2.2) (Nat.le_refl _) _⟩
 clear hK K
 (try simp only [cq])
 obtain ⟨bP, hbA⟩ : ∃ b, Blk.num hA = b := ⟨_, rfl⟩
 obtain ⟨W, hW⟩ : ∃ V, Blk.wld hA = V := ⟨_, rfl⟩
 simp only [Blk.num] at hbA
 simp only [Blk.wld] at hW
 rw [hW] at hH hA ⊢
 rw [hbA] at hA ⊢
 clear hW hbA
 have hAbP := hA
 clear hA
 refine tkY 16 (some 18) ?_ ?_ ?_
 rotate_left
 · intro w _; go_simp; (try with_reducible rfl)
 (try simp only [cq])
 exact X0_0 bP W ⟨hH, hAbP⟩
 }
 refine arc (some 88) (fun K hK => ?_) ?_
 {
 go_simp
 first | refine oA hK ?_ (fun hH hA => ?_) | refine oD hK ?_ (fun hH hA => ?_)
 · exact ⟨hH.1.alloc _, hH.2.1.alloc _, hH.2.2.1.alloc _, hH.2.2.2.1.alloc _, hH.2.2.2.2.1.later ((Below.refl _ _).alloc (Nat.le_refl _) _), hH.2.2.2.2.2.1.later ((Below.refl _ _).alloc (Nat.le_refl _) _), bwA (hH.2.2.2.2.2.2) (Nat.le_refl _) _⟩
 clear hK K
 (try simp only [cq])
 obtain ⟨bQ, hbA⟩ : ∃ b, Blk.num hA = b := ⟨_, rfl⟩
 obtain ⟨W, hW⟩ : ∃ V, Blk.wld hA = V := ⟨_, rfl⟩
 simp only [Blk.num] at hbA
 simp only [Blk.wld] at hW
 rw [hW] at hH hA ⊢
 rw [hbA] at hA ⊢
 clear hW hbA
 have hAbQ := hA
 clear hA
 exact X0_1 bQ W ⟨hH, hAbQ⟩
 }
 refine arc (some 92) (fun K hK => ?_) ?_
 {
 go_simp
 first | refine oA hK ?_ (fun hH hA => ?_) | refine oD hK ?_ (fun hH hA => ?_)
 · exact ⟨hH.1.alloc _, hH.2.1.alloc _, hH.2.2.1.alloc _, hH.2.2.2.1.alloc _, hH.2.2.2.2.1.later ((Below.refl _ _).alloc (Nat.le_refl _) _), hH.2.2.2.2.2.1.later ((Below.refl _ _).alloc (Nat.le_refl _) _), bwA (hH.2.2.2.2.2.2) (Nat.le_refl _) _⟩
 clear hK K
 (try simp only [cq])
 obtain ⟨bR, hbA⟩ : ∃ b, Blk.num hA = b := ⟨_, rfl⟩
 obtain ⟨W, hW⟩ : ∃ V, Blk.wld hA = V := ⟨_, rfl⟩
 simp only [Blk.num] at hbA
 simp only [Blk.wld] at hW
 rw [hW] at hH hA ⊢
 rw [hbA] at hA ⊢
 clear hW hbA
 have hAbR := hA
 clear hA
 exact X0_2 bR W ⟨hH, hAbR⟩
 }
 refine arc (some 96) (fun K hK => ?_) ?_
 {
 go_simp
 first | refine oA hK ?_ (fun hH hA => ?_) | refine oD hK ?_ (fun hH hA => ?_)
 · exact ⟨hH.1.alloc _, hH.2.1.alloc _, hH.2.2.1.alloc _, hH.2.2.2.1.alloc _, hH.2.2.2.2.1.later ((Below.refl _ _).alloc (Nat.le_refl _) _), hH.2.2.2.2.2.1.later ((Below.refl _ _).alloc (Nat.le_refl _) _), bwA (hH.2.2.2.2.2.2) (Nat.le_refl _) _⟩
 clear hK K
 (try simp only [cq])
 obtain ⟨bT, hbA⟩ : ∃ b, Blk.num hA = b := ⟨_, rfl⟩
 obtain ⟨W, hW⟩ : ∃ V, Blk.wld hA = V := ⟨_, rfl⟩
 simp only [Blk.num] at hbA
 simp only [Blk.wld] at hW
 rw [hW] at hH hA ⊢
 rw [hbA] at hA ⊢
 clear hW hbA
 have hAbT := hA
 clear hA
 exact X0_3 bT W ⟨hH, hAbT⟩
 }
 exact AllReadyH.nil
 }
 {
 intro bT W hall
 obtain ⟨hH, hAbT⟩ := hall
 (try dsimp only at hH)
 refine wpAnyH_ready (rs := [3, 7, 11]) (by kernel_rfl) (by simp) ?_
 refine arc (some 84) (fun K hK => ?_) ?_
 {
 have zzbT := hAbT.lt
 go_simp
 first | refine oA hK ?_ (fun hH hA => ?_) | refine oD hK ?_ (fun hH hA => ?_)
 · exact ⟨hH.1.alloc _, hH.2.1.alloc _, hH.2.2.1.alloc _, hH.2.2.2.1.alloc _, hH.2.2.2.2.1.later ((Below.refl _ _).alloc (Nat.le_refl _) _), hH.2.2.2.2.2.1.later ((Below.refl _ _).alloc (Nat.le_refl _) _), bwA (hH.2.2.2.2.2.2) (Nat.le_refl _) _⟩
 clear hK K
 (try simp only [cq])
 obtain ⟨bP, hbA⟩ : ∃ b, Blk.num hA = b := ⟨_, rfl⟩
 obtain ⟨W, hW⟩ : ∃ V, Blk.wld hA = V := ⟨_, rfl⟩
 simp only [Blk.num] at hbA
 simp only [Blk.wld] at hW
 first | replace hAbT := awB hW hAbT | replace hAbT := awD hW hAbT
 rw [hW] at hH hA ⊢
 rw [hbA] at hA ⊢
 have hPbPbT : bP ≠ bT := (by (try simp only [World.drew] at zzbT hbA); omega)
 clear hW hbA zzbT
 have hAbP := hA
 clear hA
 refine tkY 16 (some 18) ?_ ?_ ?_
 rotate_left
 · intro w _; go_simp; (try with_reducible rfl)
 (try simp only [cq])
 exact X0_03 bP bT W ⟨hH, hAbP, hAbT, hPbPbT⟩
 }
 refine arc (some 88) (fun K hK => ?_) ?_
 {
 have zzbT := hAbT.lt
 go_simp
 first | refine oA hK ?_ (fun hH hA => ?_) | refine oD hK ?_ (fun hH hA => ?_)
 · exact ⟨hH.1.alloc _, hH.2.1.alloc _, hH.2.2.1.alloc _, hH.2.2.2.1.alloc _, hH.2.2.2.2.1.later ((Below.refl _ _).alloc (Nat.le_refl _) _), hH.2.2.2.2.2.1.later ((Below.refl _ _).alloc (Nat.le_refl _) _), bwA (hH.2.2.2.2.2.2) (Nat.le_refl _) _⟩
 clear hK K
 (try simp only [cq])
 obtain ⟨bQ, hbA⟩ : ∃ b, Blk.num hA = b := ⟨_, rfl⟩
 obtain ⟨W, hW⟩ : ∃ V, Blk.wld hA = V := ⟨_, rfl⟩
 simp only [Blk.num] at hbA
 simp only [Blk.wld] at hW
 first | replace hAbT := awB hW hAbT | replace hAbT := awD hW hAbT
 rw [hW] at hH hA ⊢
 rw [hbA] at hA ⊢
 have hPbQbT : bQ ≠ bT := (by (try simp only [World.drew] at zzbT hbA); omega)
 clear hW hbA zzbT
 have hAbQ := hA
 clear hA
 exact X0_13 bQ bT W ⟨hH, hAbQ, hAbT, hPbQbT⟩
 }
 refine arc (some 92) (fun K hK => ?_) ?_
 {
 have zzbT := hAbT.lt
 go_simp
 first | refine oA hK ?_ (fun hH hA => ?_) | refine oD hK ?_ (fun hH hA => ?_)
 · exact ⟨hH.1.alloc _, hH.2.1.alloc _, hH.2.2.1.alloc _, hH.2.2.2.1.alloc _, hH.2.2.2.2.1.later ((Below.refl _ _).alloc (Nat.le_refl _) _), hH.2.2.2.2.2.1.later ((Below.refl _ _).alloc (Nat.le_refl _) _), bwA (hH.2.2.2.2.2.2) (Nat.le_refl _) _⟩
 clear hK K
 (try simp only [cq])
 obtain ⟨bR, hbA⟩ : ∃ b, Blk.num hA = b := ⟨_, rfl⟩
 obtain ⟨W, hW⟩ : ∃ V, Blk.wld hA = V := ⟨_, rfl⟩
 simp only [Blk.num] at hbA
 simp only [Blk.wld] at hW
 first | replace hAbT := awB hW hAbT | replace hAbT := awD hW hAbT
 rw [hW] at hH hA ⊢
 rw [hbA] at hA ⊢
 have hPbRbT : bR ≠ bT := (by (try simp only [World.drew] at zzbT hbA); omega)
 clear hW hbA zzbT
 have hAbR := hA
 clear hA
 exact X0_23 bR bT W ⟨hH, hAbR, hAbT, hPbRbT⟩
 }
 exact AllReadyH.nil
 }
 }
 {
 intro bR W hall
 obtain ⟨hH, hAbR⟩ := hall
 (try dsimp only at hH)
 refine wpAnyH_ready (rs := [3, 7, 15]) (by kernel_rfl) (by simp) ?_
 refine arc (some 84) (fun K hK => ?_) ?_
 {
 have zzbR := hAbR.lt
 go_simp
 first | refine oA hK ?_ (fun hH hA => ?_) | refine oD hK ?_ (fun hH hA => ?_)
 · exact ⟨hH.1.alloc _, hH.2.1.alloc _, hH.2.2.1.alloc _, hH.2.2.2.1.alloc _, hH.2.2.2.2.1.later ((Below.refl _ _).alloc (Nat.le_refl _) _), hH.2.2.2.2.2.1.later ((Below.refl _ _).alloc (Nat.le_refl _) _), bwA (hH.2.2.2.2.2.2) (Nat.le_refl _) _⟩
 clear hK K
 (try simp only [cq])
 obtain ⟨bP, hbA⟩ : ∃ b, Blk.num hA = b := ⟨_, rfl⟩
 obtain ⟨W, hW⟩ : ∃ V, Blk.wld hA = V := ⟨_, rfl⟩
 simp only [Blk.num] at hbA
 simp only [Blk.wld] at hW
 first | replace hAbR := awB hW hAbR | replace hAbR := awD hW hAbR
 rw [hW] at hH hA ⊢
 rw [hbA] at hA ⊢
 have hPbPbR : bP ≠ bR := (by (try simp only [World.drew] at zzbR hbA); omega)
 clear hW hbA zzbR
 have hAbP := hA
 clear hA
 refine tkY 16 (some 18) ?_ ?_ ?_
 rotate_left
 · intro w _; go_simp; (try with_reducible rfl)
 (try simp only [cq])
 exact X0_02 bP bR W ⟨hH, hAbP, hAbR, hPbPbR⟩
 }
 refine arc (some 88) (fun K hK => ?_) ?_
 {
 have zzbR := hAbR.lt
 go_simp
 first | refine oA hK ?_ (fun hH hA => ?_) | refine oD hK ?_ (fun hH hA => ?_)
 · exact ⟨hH.1.alloc _, hH.2.1.alloc _, hH.2.2.1.alloc _, hH.2.2.2.1.alloc _, hH.2.2.2.2.1.later ((Below.refl _ _).alloc (Nat.le_refl _) _), hH.2.2.2.2.2.1.later ((Below.refl _ _).alloc (Nat.le_refl _) _), bwA (hH.2.2.2.2.2.2) (Nat.le_refl _) _⟩
 clear hK K
 (try simp only [cq])
 obtain ⟨bQ, hbA⟩ : ∃ b, Blk.num hA = b := ⟨_, rfl⟩
 obtain ⟨W, hW⟩ : ∃ V, Blk.wld hA = V := ⟨_, rfl⟩
 simp only [Blk.num] at hbA
 simp only [Blk.wld] at hW
 first | replace hAbR := awB hW hAbR | replace hAbR := awD hW hAbR
 rw [hW] at hH hA ⊢
 rw [hbA] at hA ⊢
 have hPbQbR : bQ ≠ bR := (by (try simp only [World.drew] at zzbR hbA); omega)
 clear hW hbA zzbR
 have hAbQ := hA
 clear hA
 exact X0_12 bQ bR W ⟨hH, hAbQ, hAbR, hPbQbR⟩
 }
 refine arc (some 96) (fun K hK => ?_) ?_
 {
 have zzbR := hAbR.lt
 go_simp
 first | refine oA hK ?_ (fun hH hA => ?_) | refine oD hK ?_ (fun hH hA => ?_)
 · exact ⟨hH.1.alloc _, hH.2.1.alloc _, hH.2.2.1.alloc _, hH.2.2.2.1.alloc _, hH.2.2.2.2.1.later ((Below.refl _ _).alloc (Nat.le_refl _) _), hH.2.2.2.2.2.1.later ((Below.refl _ _).alloc (Nat.le_refl _) _), bwA (hH.2.2.2.2.2.2) (Nat.le_refl _) _⟩
 clear hK K
 (try simp only [cq])
 obtain ⟨bT, hbA⟩ : ∃ b, Blk.num hA = b := ⟨_, rfl⟩
 obtain ⟨W, hW⟩ : ∃ V, Blk.wld hA = V := ⟨_, rfl⟩
 simp only [Blk.num] at hbA
 simp only [Blk.wld] at hW
 first | replace hAbR := awB hW hAbR | replace hAbR := awD hW hAbR
 rw [hW] at hH hA ⊢
 rw [hbA] at hA ⊢
 have hPbRbT : bR ≠ bT := (by (try simp only [World.drew] at zzbR hbA); omega)
 clear hW hbA zzbR
 have hAbT := hA
 clear hA
 exact X0_23 bR bT W ⟨hH, hAbR, hAbT, hPbRbT⟩
 }
 exact AllReadyH.nil
 }
 }
 {
 intro bQ W hall
 obtain ⟨hH, hAbQ⟩ := hall
 (try dsimp only at hH)
 refine wpAnyH_ready (rs := [3, 11, 15]) (by kernel_rfl) (by simp) ?_
 refine arc (some 84) (fun K hK => ?_) ?_
 {
 have zzbQ := hAbQ.lt
 go_simp
 first | refine oA hK ?_ (fun hH hA => ?_) | refine oD hK ?_ (fun hH hA => ?_)
 · exact ⟨hH.1.alloc _, hH.2.1.alloc _, hH.2.2.1.alloc _, hH.2.2.2.1.alloc _, hH.2.2.2.2.1.later ((Below.refl _ _).alloc (Nat.le_refl _) _), hH.2.2.2.2.2.1.later ((Below.refl _ _).alloc (Nat.le_refl _) _), bwA (hH.2.2.2.2.2.2) (Nat.le_refl _) _⟩
 clear hK K
 (try simp only [cq])
 obtain ⟨bP, hbA⟩ : ∃ b, Blk.num hA = b := ⟨_, rfl⟩
 obtain ⟨W, hW⟩ : ∃ V, Blk.wld hA = V := ⟨_, rfl⟩
 simp only [Blk.num] at hbA
 simp only [Blk.wld] at hW
 first | replace hAbQ := awB hW hAbQ | replace hAbQ := awD hW hAbQ
 rw [hW] at hH hA ⊢
 rw [hbA] at hA ⊢
 have hPbPbQ : bP ≠ bQ := (by (try simp only [World.drew] at zzbQ hbA); omega)
 clear hW hbA zzbQ
 have hAbP := hA
 clear hA
 refine tkY 16 (some 18) ?_ ?_ ?_
 rotate_left
 · intro w _; go_simp; (try with_reducible rfl)
 (try simp only [cq])
 refine tkY 17 (some 19) ?_ ?_ ?_
 rotate_left
 · intro w _; go_simp; (try with_reducible rfl)
 (try simp only [cq])
 exact X0_01 bP bQ W ⟨hH, hAbP, hAbQ, hPbPbQ⟩
 }
 refine arc (some 92) (fun K hK => ?_) ?_
 {
 have zzbQ := hAbQ.lt
 go_simp
 first | refine oA hK ?_ (fun hH hA => ?_) | refine oD hK ?_ (fun hH hA => ?_)
 · exact ⟨hH.1.alloc _, hH.2.1.alloc _, hH.2.2.1.alloc _, hH.2.2.2.1.alloc _, hH.2.2.2.2.1.later ((Below.refl _ _).alloc (Nat.le_refl _) _), hH.2.2.2.2.2.1.later ((Below.refl _ _).alloc (Nat.le_refl _) _), bwA (hH.2.2.2.2.2.2) (Nat.le_refl _) _⟩
 clear hK K
 (try simp only [cq])
 obtain ⟨bR, hbA⟩ : ∃ b, Blk.num hA = b := ⟨_, rfl⟩
 obtain ⟨W, hW⟩ : ∃ V, Blk.wld hA = V := ⟨_, rfl⟩
 simp only [Blk.num] at hbA
 simp only [Blk.wld] at hW
 first | replace hAbQ := awB hW hAbQ | replace hAbQ := awD hW hAbQ
 rw [hW] at hH hA ⊢
 rw [hbA] at hA ⊢
 have hPbQbR : bQ ≠ bR := (by (try simp only [World.drew] at zzbQ hbA); omega)
 clear hW hbA zzbQ
 have hAbR := hA
 clear hA
 exact X0_12 bQ bR W ⟨hH, hAbQ, hAbR, hPbQbR⟩
 }
 refine arc (some 96) (fun K hK => ?_) ?_
 {
 have zzbQ := hAbQ.lt
 go_simp
 first | refine oA hK ?_ (fun hH hA => ?_) | refine oD hK ?_ (fun hH hA => ?_)
 · exact ⟨hH.1.alloc _, hH.2.1.alloc _, hH.2.2.1.alloc _, hH.2.2.2.1.alloc _, hH.2.2.2.2.1.later ((Below.refl _ _).alloc (Nat.le_refl _) _), hH.2.2.2.2.2.1.later ((Below.refl _ _).alloc (Nat.le_refl _) _), bwA (hH.2.2.2.2.2.2) (Nat.le_refl _) _⟩
 clear hK K
 (try simp only [cq])
 obtain ⟨bT, hbA⟩ : ∃ b, Blk.num hA = b := ⟨_, rfl⟩
 obtain ⟨W, hW⟩ : ∃ V, Blk.wld hA = V := ⟨_, rfl⟩
 simp only [Blk.num] at hbA
 simp only [Blk.wld] at hW
 first | replace hAbQ := awB hW hAbQ | replace hAbQ := awD hW hAbQ
 rw [hW] at hH hA ⊢
 rw [hbA] at hA ⊢
 have hPbQbT : bQ ≠ bT := (by (try simp only [World.drew] at zzbQ hbA); omega)
 clear hW hbA zzbQ
 have hAbT := hA
 clear hA
 exact X0_13 bQ bT W ⟨hH, hAbQ, hAbT, hPbQbT⟩
 }
 exact AllReadyH.nil
 }
 }
 {
 intro bP W hall
 obtain ⟨hH, hAbP⟩ := hall
 (try dsimp only at hH)
 refine wpAnyH_ready (rs := [7, 11, 15]) (by kernel_rfl) (by simp) ?_
 refine arc (some 88) (fun K hK => ?_) ?_
 {
 have zzbP := hAbP.lt
 go_simp
 first | refine oA hK ?_ (fun hH hA => ?_) | refine oD hK ?_ (fun hH hA => ?_)
 · exact ⟨hH.1.alloc _, hH.2.1.alloc _, hH.2.2.1.alloc _, hH.2.2.2.1.alloc _, hH.2.2.2.2.1.later ((Below.refl _ _).alloc (Nat.le_refl _) _), hH.2.2.2.2.2.1.later ((Below.refl _ _).alloc (Nat.le_refl _) _), bwA (hH.2.2.2.2.2.2) (Nat.le_refl _) _⟩
 clear hK K
 (try simp only [cq])
 obtain ⟨bQ, hbA⟩ : ∃ b, Blk.num hA = b := ⟨_, rfl⟩
 obtain ⟨W, hW⟩ : ∃ V, Blk.wld hA = V := ⟨_, rfl⟩
 simp only [Blk.num] at hbA
 simp only [Blk.wld] at hW
 first | replace hAbP := awB hW hAbP | replace hAbP := awD hW hAbP
 rw [hW] at hH hA ⊢
 rw [hbA] at hA ⊢
 have hPbPbQ : bP ≠ bQ := (by (try simp only [World.drew] at zzbP hbA); omega)
 clear hW hbA zzbP
 have hAbQ := hA
 clear hA
 refine tkY 17 (some 19) ?_ ?_ ?_
 rotate_left
 · intro w _; go_simp; (try with_reducible rfl)
 (try simp only [cq])
 exact X0_01 bP bQ W ⟨hH, hAbP, hAbQ, hPbPbQ⟩
 }
 refine arc (some 92) (fun K hK => ?_) ?_
 {
 have zzbP := hAbP.lt
 go_simp
 first | refine oA hK ?_ (fun hH hA => ?_) | refine oD hK ?_ (fun hH hA => ?_)
 · exact ⟨hH.1.alloc _, hH.2.1.alloc _, hH.2.2.1.alloc _, hH.2.2.2.1.alloc _, hH.2.2.2.2.1.later ((Below.refl _ _).alloc (Nat.le_refl _) _), hH.2.2.2.2.2.1.later ((Below.refl _ _).alloc (Nat.le_refl _) _), bwA (hH.2.2.2.2.2.2) (Nat.le_refl _) _⟩
 clear hK K
 (try simp only [cq])
 obtain ⟨bR, hbA⟩ : ∃ b, Blk.num hA = b := ⟨_, rfl⟩
 obtain ⟨W, hW⟩ : ∃ V, Blk.wld hA = V := ⟨_, rfl⟩
 simp only [Blk.num] at hbA
 simp only [Blk.wld] at hW
 first | replace hAbP := awB hW hAbP | replace hAbP := awD hW hAbP
 rw [hW] at hH hA ⊢
 rw [hbA] at hA ⊢
 have hPbPbR : bP ≠ bR := (by (try simp only [World.drew] at zzbP hbA); omega)
 clear hW hbA zzbP
 have hAbR := hA
 clear hA
 exact X0_02 bP bR W ⟨hH, hAbP, hAbR, hPbPbR⟩
 }
 refine arc (some 96) (fun K hK => ?_) ?_
 {
 have zzbP := hAbP.lt
 go_simp
 first | refine oA hK ?_ (fun hH hA => ?_) | refine oD hK ?_ (fun hH hA => ?_)
 · exact ⟨hH.1.alloc _, hH.2.1.alloc _, hH.2.2.1.alloc _, hH.2.2.2.1.alloc _, hH.2.2.2.2.1.later ((Below.refl _ _).alloc (Nat.le_refl _) _), hH.2.2.2.2.2.1.later ((Below.refl _ _).alloc (Nat.le_refl _) _), bwA (hH.2.2.2.2.2.2) (Nat.le_refl _) _⟩
 clear hK K
 (try simp only [cq])
 obtain ⟨bT, hbA⟩ : ∃ b, Blk.num hA = b := ⟨_, rfl⟩
 obtain ⟨W, hW⟩ : ∃ V, Blk.wld hA = V := ⟨_, rfl⟩
 simp only [Blk.num] at hbA
 simp only [Blk.wld] at hW
 first | replace hAbP := awB hW hAbP | replace hAbP := awD hW hAbP
 rw [hW] at hH hA ⊢
 rw [hbA] at hA ⊢
 have hPbPbT : bP ≠ bT := (by (try simp only [World.drew] at zzbP hbA); omega)
 clear hW hbA zzbP
 have hAbT := hA
 clear hA
 exact X0_03 bP bT W ⟨hH, hAbP, hAbT, hPbPbT⟩
 }
 exact AllReadyH.nil
 }
 }
 {
 intro bR bT W hall
 obtain ⟨hH, hAbR, hAbT, hPbRbT⟩ := hall
 (try dsimp only at hH)
 refine wpAnyH_ready (rs := [3, 7]) (by kernel_rfl) (by simp) ?_
 refine arc (some 84) (fun K hK => ?_) ?_
 {
 have zzbR := hAbR.lt
 have zzbT := hAbT.lt
 go_simp
 first | refine oA hK ?_ (fun hH hA => ?_) | refine oD hK ?_ (fun hH hA => ?_)
 · exact ⟨hH.1.alloc _, hH.2.1.alloc _, hH.2.2.1.alloc _, hH.2.2.2.1.alloc _, hH.2.2.2.2.1.later ((Below.refl _ _).alloc (Nat.le_refl _) _), hH.2.2.2.2.2.1.later ((Below.refl _ _).alloc (Nat.le_refl _) _), bwA (hH.2.2.2.2.2.2) (Nat.le_refl _) _⟩
 clear hK K
 (try simp only [cq])
 obtain ⟨bP, hbA⟩ : ∃ b, Blk.num hA = b := ⟨_, rfl⟩
 obtain ⟨W, hW⟩ : ∃ V, Blk.wld hA = V := ⟨_, rfl⟩
 simp only [Blk.num] at hbA
 simp only [Blk.wld] at hW
 first | replace hAbR := awB hW hAbR | replace hAbR := awD hW hAbR
 first | replace hAbT := awB hW hAbT | replace hAbT := awD hW hAbT
 rw [hW] at hH hA ⊢
 rw [hbA] at hA ⊢
 have hPbPbR : bP ≠ bR := (by (try simp only [World.drew] at zzbR hbA); omega)
 have hPbPbT : bP ≠ bT := (by (try simp only [World.drew] at zzbT hbA); omega)
 clear hW hbA zzbR zzbT
 have hAbP := hA
 clear hA
 refine tkY 16 (some 18) ?_ ?_ ?_
 rotate_left
 · intro w _; go_simp; (try with_reducible rfl)
 (try simp only [cq])
 exact X0_023 bP bR bT W ⟨hH, hAbP, hAbR, hAbT, hPbPbR, hPbPbT, hPbRbT⟩
 }
 refine arc (some 88) (fun K hK => ?_) ?_
 {
 have zzbR := hAbR.lt
 have zzbT := hAbT.lt
 go_simp
 first | refine oA hK ?_ (fun hH hA => ?_) | refine oD hK ?_ (fun hH hA => ?_)
 · exact ⟨hH.1.alloc _, hH.2.1.alloc _, hH.2.2.1.alloc _, hH.2.2.2.1.alloc _, hH.2.2.2.2.1.later ((Below.refl _ _).alloc (Nat.le_refl _) _), hH.2.2.2.2.2.1.later ((Below.refl _ _).alloc (Nat.le_refl _) _), bwA (hH.2.2.2.2.2.2) (Nat.le_refl _) _⟩
 clear hK K
 (try simp only [cq])
 obtain ⟨bQ, hbA⟩ : ∃ b, Blk.num hA = b := ⟨_, rfl⟩
 obtain ⟨W, hW⟩ : ∃ V, Blk.wld hA = V := ⟨_, rfl⟩
 simp only [Blk.num] at hbA
 simp only [Blk.wld] at hW
 first | replace hAbR := awB hW hAbR | replace hAbR := awD hW hAbR
 first | replace hAbT := awB hW hAbT | replace hAbT := awD hW hAbT
 rw [hW] at hH hA ⊢
 rw [hbA] at hA ⊢
 have hPbQbR : bQ ≠ bR := (by (try simp only [World.drew] at zzbR hbA); omega)
 have hPbQbT : bQ ≠ bT := (by (try simp only [World.drew] at zzbT hbA); omega)
 clear hW hbA zzbR zzbT
 have hAbQ := hA
 clear hA
 exact X0_123 bQ bR bT W ⟨hH, hAbQ, hAbR, hAbT, hPbQbR, hPbQbT, hPbRbT⟩
 }
 exact AllReadyH.nil
 }
 }
 {
 intro bQ bT W hall
 obtain ⟨hH, hAbQ, hAbT, hPbQbT⟩ := hall
 (try dsimp only at hH)
 refine wpAnyH_ready (rs := [3, 11]) (by kernel_rfl) (by simp) ?_
 refine arc (some 84) (fun K hK => ?_) ?_
 {
 have zzbQ := hAbQ.lt
 have zzbT := hAbT.lt
 go_simp
 first | refine oA hK ?_ (fun hH hA => ?_) | refine oD hK ?_ (fun hH hA => ?_)
 · exact ⟨hH.1.alloc _, hH.2.1.alloc _, hH.2.2.1.alloc _, hH.2.2.2.1.alloc _, hH.2.2.2.2.1.later ((Below.refl _ _).alloc (Nat.le_refl _) _), hH.2.2.2.2.2.1.later ((Below.refl _ _).alloc (Nat.le_refl _) _), bwA (hH.2.2.2.2.2.2) (Nat.le_refl _) _⟩
 clear hK K
 (try simp only [cq])
 obtain ⟨bP, hbA⟩ : ∃ b, Blk.num hA = b := ⟨_, rfl⟩
 obtain ⟨W, hW⟩ : ∃ V, Blk.wld hA = V := ⟨_, rfl⟩
 simp only [Blk.num] at hbA
 simp only [Blk.wld] at hW
 first | replace hAbQ := awB hW hAbQ | replace hAbQ := awD hW hAbQ
 first | replace hAbT := awB hW hAbT | replace hAbT := awD hW hAbT
 rw [hW] at hH hA ⊢
 rw [hbA] at hA ⊢
 have hPbPbQ : bP ≠ bQ := (by (try simp only [World.drew] at zzbQ hbA); omega)
 have hPbPbT : bP ≠ bT := (by (try simp only [World.drew] at zzbT hbA); omega)
 clear hW hbA zzbQ zzbT
 have hAbP := hA
 clear hA
 refine tkY 16 (some 18) ?_ ?_ ?_
 rotate_left
 · intro w _; go_simp; (try with_reducible rfl)
 (try simp only [cq])
 refine tkY 17 (some 19) ?_ ?_ ?_
 rotate_left
 · intro w _; go_simp; (try with_reducible rfl)
 (try simp only [cq])
 exact X0_013 bP bQ bT W ⟨hH, hAbP, hAbQ, hAbT, hPbPbQ, hPbPbT, hPbQbT⟩
 }
 refine arc (some 92) (fun K hK => ?_) ?_
 {
 have zzbQ := hAbQ.lt
 have zzbT := hAbT.lt
 go_simp
 first | refine oA hK ?_ (fun hH hA => ?_) | refine oD hK ?_ (fun hH hA => ?_)
 · exact ⟨hH.1.alloc _, hH.2.1.alloc _, hH.2.2.1.alloc _, hH.2.2.2.1.alloc _, hH.2.2.2.2.1.later ((Below.refl _ _).alloc (Nat.le_refl _) _), hH.2.2.2.2.2.1.later ((Below.refl _ _).alloc (Nat.le_refl _) _), bwA (hH.2.2.2.2.2.2) (Nat.le_refl _) _⟩
 clear hK K
 (try simp only [cq])
 obtain ⟨bR, hbA⟩ : ∃ b, Blk.num hA = b := ⟨_, rfl⟩
 obtain ⟨W, hW⟩ : ∃ V, Blk.wld hA = V := ⟨_, rfl⟩
 simp only [Blk.num] at hbA
 simp only [Blk.wld] at hW
 first | replace hAbQ := awB hW hAbQ | replace hAbQ := awD hW hAbQ
 first | replace hAbT := awB hW hAbT | replace hAbT := awD hW hAbT
 rw [hW] at hH hA ⊢
 rw [hbA] at hA ⊢
 have hPbQbR : bQ ≠ bR := (by (try simp only [World.drew] at zzbQ hbA); omega)
 have hPbRbT : bR ≠ bT := (by (try simp only [World.drew] at zzbT hbA); omega)
 clear hW hbA zzbQ zzbT
 have hAbR := hA
 clear hA
 exact X0_123 bQ bR bT W ⟨hH, hAbQ, hAbR, hAbT, hPbQbR, hPbQbT, hPbRbT⟩
 }
 exact AllReadyH.nil
 }
 }
 {
 intro bQ bR W hall
 obtain ⟨hH, hAbQ, hAbR, hPbQbR⟩ := hall
 (try dsimp only at hH)
 refine wpAnyH_ready (rs := [3, 15]) (by kernel_rfl) (by simp) ?_
 refine arc (some 84) (fun K hK => ?_) ?_
 {
 have zzbQ := hAbQ.lt
 have zzbR := hAbR.lt
 go_simp
 first | refine oA hK ?_ (fun hH hA => ?_) | refine oD hK ?_ (fun hH hA => ?_)
 · exact ⟨hH.1.alloc _, hH.2.1.alloc _, hH.2.2.1.alloc _, hH.2.2.2.1.alloc _, hH.2.2.2.2.1.later ((Below.refl _ _).alloc (Nat.le_refl _) _), hH.2.2.2.2.2.1.later ((Below.refl _ _).alloc (Nat.le_refl _) _), bwA (hH.2.2.2.2.2.2) (Nat.le_refl _) _⟩
 clear hK K
 (try simp only [cq])
 obtain ⟨bP, hbA⟩ : ∃ b, Blk.num hA = b := ⟨_, rfl⟩
 obtain ⟨W, hW⟩ : ∃ V, Blk.wld hA = V := ⟨_, rfl⟩
 simp only [Blk.num] at hbA
 simp only [Blk.wld] at hW
 first | replace hAbQ := awB hW hAbQ | replace hAbQ := awD hW hAbQ
 first | replace hAbR := awB hW hAbR | replace hAbR := awD hW hAbR
 rw [hW] at hH hA ⊢
 rw [hbA] at hA ⊢
 have hPbPbQ : bP ≠ bQ := (by (try simp only [World.drew] at zzbQ hbA); omega)
 have hPbPbR : bP ≠ bR := (by (try simp only [World.drew] at zzbR hbA); omega)
 clear hW hbA zzbQ zzbR
 have hAbP := hA
 clear hA
 refine tkY 16 (some 18) ?_ ?_ ?_
 rotate_left
 · intro w _; go_simp; (try with_reducible rfl)
 (try simp only [cq])
 refine tkY 17 (some 19) ?_ ?_ ?_
 rotate_left
 · intro w _; go_simp; (try with_reducible rfl)
 (try simp only [cq])
 refine tkY 18 (some 20) ?_ ?_ ?_
 rotate_left
 · intro w _; go_simp; (try with_reducible rfl)
 (try simp only [cq])
 exact X0_012 bP bQ bR W ⟨hH, hAbP, hAbQ, hAbR, hPbPbQ, hPbPbR, hPbQbR⟩
 }
 refine arc (some 96) (fun K hK => ?_) ?_
 {
 have zzbQ := hAbQ.lt
 have zzbR := hAbR.lt
 go_simp
 first | refine oA hK ?_ (fun hH hA => ?_) | refine oD hK ?_ (fun hH hA => ?_)
 · exact ⟨hH.1.alloc _, hH.2.1.alloc _, hH.2.2.1.alloc _, hH.2.2.2.1.alloc _, hH.2.2.2.2.1.later ((Below.refl _ _).alloc (Nat.le_refl _) _), hH.2.2.2.2.2.1.later ((Below.refl _ _).alloc (Nat.le_refl _) _), bwA (hH.2.2.2.2.2.2) (Nat.le_refl _) _⟩
 clear hK K
 (try simp only [cq])
 obtain ⟨bT, hbA⟩ : ∃ b, Blk.num hA = b := ⟨_, rfl⟩
 obtain ⟨W, hW⟩ : ∃ V, Blk.wld hA = V := ⟨_, rfl⟩
 simp only [Blk.num] at hbA
 simp only [Blk.wld] at hW
 first | replace hAbQ := awB hW hAbQ | replace hAbQ := awD hW hAbQ
 first | replace hAbR := awB hW hAbR | replace hAbR := awD hW hAbR
 rw [hW] at hH hA ⊢
 rw [hbA] at hA ⊢
 have hPbQbT : bQ ≠ bT := (by (try simp only [World.drew] at zzbQ hbA); omega)
 have hPbRbT : bR ≠ bT := (by (try simp only [World.drew] at zzbR hbA); omega)
 clear hW hbA zzbQ zzbR
 have hAbT := hA
 clear hA
 exact X0_123 bQ bR bT W ⟨hH, hAbQ, hAbR, hAbT, hPbQbR, hPbQbT, hPbRbT⟩
 }
 exact AllReadyH.nil
 }
 }
 {
 intro bP bT W hall
 obtain ⟨hH, hAbP, hAbT, hPbPbT⟩ := hall
 (try dsimp only at hH)
 refine wpAnyH_ready (rs := [7, 11]) (by kernel_rfl) (by simp) ?_
 refine arc (some 88) (fun K hK => ?_) ?_
 {
 have zzbP := hAbP.lt
 have zzbT := hAbT.lt
 go_simp
 first | refine oA hK ?_ (fun hH hA => ?_) | refine oD hK ?_ (fun hH hA => ?_)
 · exact ⟨hH.1.alloc _, hH.2.1.alloc _, hH.2.2.1.alloc _, hH.2.2.2.1.alloc _, hH.2.2.2.2.1.later ((Below.refl _ _).alloc (Nat.le_refl _) _), hH.2.2.2.2.2.1.later ((Below.refl _ _).alloc (Nat.le_refl _) _), bwA (hH.2.2.2.2.2.2) (Nat.le_refl _) _⟩
 clear hK K
 (try simp only [cq])
 obtain ⟨bQ, hbA⟩ : ∃ b, Blk.num hA = b := ⟨_, rfl⟩
 obtain ⟨W, hW⟩ : ∃ V, Blk.wld hA = V := ⟨_, rfl⟩
 simp only [Blk.num] at hbA
 simp only [Blk.wld] at hW
 first | replace hAbP := awB hW hAbP | replace hAbP := awD hW hAbP
 first | replace hAbT := awB hW hAbT | replace hAbT := awD hW hAbT
 rw [hW] at hH hA ⊢
 rw [hbA] at hA ⊢
 have hPbPbQ : bP ≠ bQ := (by (try simp only [World.drew] at zzbP hbA); omega)
 have hPbQbT : bQ ≠ bT := (by (try simp only [World.drew] at zzbT hbA); omega)
 clear hW hbA zzbP zzbT
 have hAbQ := hA
 clear hA
 refine tkY 17 (some 19) ?_ ?_ ?_
 rotate_left
 · intro w _; go_simp; (try with_reducible rfl)
 (try simp only [cq])
 exact X0_013 bP bQ bT W ⟨hH, hAbP, hAbQ, hAbT, hPbPbQ, hPbPbT, hPbQbT⟩
 }
 refine arc (some 92) (fun K hK => ?_) ?_
 {
 have zzbP := hAbP.lt
 have zzbT := hAbT.lt
 go_simp
 first | refine oA hK ?_ (fun hH hA => ?_) | refine oD hK ?_ (fun hH hA => ?_)
 · exact ⟨hH.1.alloc _, hH.2.1.alloc _, hH.2.2.1.alloc _, hH.2.2.2.1.alloc _, hH.2.2.2.2.1.later ((Below.refl _ _).alloc (Nat.le_refl _) _), hH.2.2.2.2.2.1.later ((Below.refl _ _).alloc (Nat.le_refl _) _), bwA (hH.2.2.2.2.2.2) (Nat.le_refl _) _⟩
 clear hK K
 (try simp only [cq])
 obtain ⟨bR, hbA⟩ : ∃ b, Blk.num hA = b := ⟨_, rfl⟩
 obtain ⟨W, hW⟩ : ∃ V, Blk.wld hA = V := ⟨_, rfl⟩
 simp only [Blk.num] at hbA
 simp only [Blk.wld] at hW
 first | replace hAbP := awB hW hAbP | replace hAbP := awD hW hAbP
 first | replace hAbT := awB hW hAbT | replace hAbT := awD hW hAbT
 rw [hW] at hH hA ⊢
 rw [hbA] at hA ⊢
 have hPbPbR : bP ≠ bR := (by (try simp only [World.drew] at zzbP hbA); omega)
 have hPbRbT : bR ≠ bT := (by (try simp only [World.drew] at zzbT hbA); omega)
 clear hW hbA zzbP zzbT
 have hAbR := hA
 clear hA
 exact X0_023 bP bR bT W ⟨hH, hAbP, hAbR, hAbT, hPbPbR, hPbPbT, hPbRbT⟩
 }
 exact AllReadyH.nil
 }
 }
 {
 intro bP bR W hall
 obtain ⟨hH, hAbP, hAbR, hPbPbR⟩ := hall
 (try dsimp only at hH)
 refine wpAnyH_ready (rs := [7, 15]) (by kernel_rfl) (by simp) ?_
 refine arc (some 88) (fun K hK => ?_) ?_
 {
 have zzbP := hAbP.lt
 have zzbR := hAbR.lt
 go_simp
 first | refine oA hK ?_ (fun hH hA => ?_) | refine oD hK ?_ (fun hH hA => ?_)
 · exact ⟨hH.1.alloc _, hH.2.1.alloc _, hH.2.2.1.alloc _, hH.2.2.2.1.alloc _, hH.2.2.2.2.1.later ((Below.refl _ _).alloc (Nat.le_refl _) _), hH.2.2.2.2.2.1.later ((Below.refl _ _).alloc (Nat.le_refl _) _), bwA (hH.2.2.2.2.2.2) (Nat.le_refl _) _⟩
 clear hK K
 (try simp only [cq])
 obtain ⟨bQ, hbA⟩ : ∃ b, Blk.num hA = b := ⟨_, rfl⟩
 obtain ⟨W, hW⟩ : ∃ V, Blk.wld hA = V := ⟨_, rfl⟩
 simp only [Blk.num] at hbA
 simp only [Blk.wld] at hW
 first | replace hAbP := awB hW hAbP | replace hAbP := awD hW hAbP
 first | replace hAbR := awB hW hAbR | replace hAbR := awD hW hAbR
 rw [hW] at hH hA ⊢
 rw [hbA] at hA ⊢
 have hPbPbQ : bP ≠ bQ := (by (try simp only [World.drew] at zzbP hbA); omega)
 have hPbQbR : bQ ≠ bR := (by (try simp only [World.drew] at zzbR hbA); omega)
 clear hW hbA zzbP zzbR
 have hAbQ := hA
 clear hA
 refine tkY 17 (some 19) ?_ ?_ ?_
 rotate_left
 · intro w _; go_simp; (try with_reducible rfl)
 (try simp only [cq])
 refine tkY 18 (some 20) ?_ ?_ ?_
 rotate_left
 · intro w _; go_simp; (try with_reducible rfl)
 (try simp only [cq])
 exact X0_012 bP bQ bR W ⟨hH, hAbP, hAbQ, hAbR, hPbPbQ, hPbPbR, hPbQbR⟩
 }
 refine arc (some 96) (fun K hK => ?_) ?_
 {
 have zzbP := hAbP.lt
 have zzbR := hAbR.lt
 go_simp
 first | refine oA hK ?_ (fun hH hA => ?_) | refine oD hK ?_ (fun hH hA => ?_)
 · exact ⟨hH.1.alloc _, hH.2.1.alloc _, hH.2.2.1.alloc _, hH.2.2.2.1.alloc _, hH.2.2.2.2.1.later ((Below.refl _ _).alloc (Nat.le_refl _) _), hH.2.2.2.2.2.1.later ((Below.refl _ _).alloc (Nat.le_refl _) _), bwA (hH.2.2.2.2.2.2) (Nat.le_refl _) _⟩
 clear hK K
 (try simp only [cq])
 obtain ⟨bT, hbA⟩ : ∃ b, Blk.num hA = b := ⟨_, rfl⟩
 obtain ⟨W, hW⟩ : ∃ V, Blk.wld hA = V := ⟨_, rfl⟩
 simp only [Blk.num] at hbA
 simp only [Blk.wld] at hW
 first | replace hAbP := awB hW hAbP | replace hAbP := awD hW hAbP
 first | replace hAbR := awB hW hAbR | replace hAbR := awD hW hAbR
 rw [hW] at hH hA ⊢
 rw [hbA] at hA ⊢
 have hPbPbT : bP ≠ bT := (by (try simp only [World.drew] at zzbP hbA); omega)
 have hPbRbT : bR ≠ bT := (by (try simp only [World.drew] at zzbR hbA); omega)
 clear hW hbA zzbP zzbR
 have hAbT := hA
 clear hA
 exact X0_023 bP bR bT W ⟨hH, hAbP, hAbR, hAbT, hPbPbR, hPbPbT, hPbRbT⟩
 }
 exact AllReadyH.nil
 }
 }
 {
 intro bP bQ W hall
 obtain ⟨hH, hAbP, hAbQ, hPbPbQ⟩ := hall
 (try dsimp only at hH)
 refine wpAnyH_ready (rs := [11, 15]) (by kernel_rfl) (by simp) ?_
 refine arc (some 92) (fun K hK => ?_) ?_
 {
 have zzbP := hAbP.lt
 have zzbQ := hAbQ.lt
 go_simp
 first | refine oA hK ?_ (fun hH hA => ?_) | refine oD hK ?_ (fun hH hA => ?_)
 · exact ⟨hH.1.alloc _, hH.2.1.alloc _, hH.2.2.1.alloc _, hH.2.2.2.1.alloc _, hH.2.2.2.2.1.later ((Below.refl _ _).alloc (Nat.le_refl _) _), hH.2.2.2.2.2.1.later ((Below.refl _ _).alloc (Nat.le_refl _) _), bwA (hH.2.2.2.2.2.2) (Nat.le_refl _) _⟩
 clear hK K
 (try simp only [cq])
 obtain ⟨bR, hbA⟩ : ∃ b, Blk.num hA = b := ⟨_, rfl⟩
 obtain ⟨W, hW⟩ : ∃ V, Blk.wld hA = V := ⟨_, rfl⟩
 simp only [Blk.num] at hbA
 simp only [Blk.wld] at hW
 first | replace hAbP := awB hW hAbP | replace hAbP := awD hW hAbP
 first | replace hAbQ := awB hW hAbQ | replace hAbQ := awD hW hAbQ
 rw [hW] at hH hA ⊢
 rw [hbA] at hA ⊢
 have hPbPbR : bP ≠ bR := (by (try simp only [World.drew] at zzbP hbA); omega)
 have hPbQbR : bQ ≠ bR := (by (try simp only [World.drew] at zzbQ hbA); omega)
 clear hW hbA zzbP zzbQ
 have hAbR := hA
 clear hA
 refine tkY 18 (some 20) ?_ ?_ ?_
 rotate_left
 · intro w _; go_simp; (try with_reducible rfl)
 (try simp only [cq])
 exact X0_012 bP bQ bR W ⟨hH, hAbP, hAbQ, hAbR, hPbPbQ, hPbPbR, hPbQbR⟩
 }
 refine arc (some 96) (fun K hK => ?_) ?_
 {
 have zzbP := hAbP.lt
 have zzbQ := hAbQ.lt
 go_simp
 first | refine oA hK ?_ (fun hH hA => ?_) | refine oD hK ?_ (fun hH hA => ?_)
 · exact ⟨hH.1.alloc _, hH.2.1.alloc _, hH.2.2.1.alloc _, hH.2.2.2.1.alloc _, hH.2.2.2.2.1.later ((Below.refl _ _).alloc (Nat.le_refl _) _), hH.2.2.2.2.2.1.later ((Below.refl _ _).alloc (Nat.le_refl _) _), bwA (hH.2.2.2.2.2.2) (Nat.le_refl _) _⟩
 clear hK K
 (try simp only [cq])
 obtain ⟨bT, hbA⟩ : ∃ b, Blk.num hA = b := ⟨_, rfl⟩
 obtain ⟨W, hW⟩ : ∃ V, Blk.wld hA = V := ⟨_, rfl⟩
 simp only [Blk.num] at hbA
 simp only [Blk.wld] at hW
 first | replace hAbP := awB hW hAbP | replace hAbP := awD hW hAbP
 first | replace hAbQ := awB hW hAbQ | replace hAbQ := awD hW hAbQ
 rw [hW] at hH hA ⊢
 rw [hbA] at hA ⊢
 have hPbPbT : bP ≠ bT := (by (try simp only [World.drew] at zzbP hbA); omega)
 have hPbQbT : bQ ≠ bT := (by (try simp only [World.drew] at zzbQ hbA); omega)
 clear hW hbA zzbP zzbQ
 have hAbT := hA
 clear hA
 exact X0_013 bP bQ bT W ⟨hH, hAbP, hAbQ, hAbT, hPbPbQ, hPbPbT, hPbQbT⟩
 }
 exact AllReadyH.nil
 }
 }
 {
 intro bQ bR bT W hall
 obtain ⟨hH, hAbQ, hAbR, hAbT, hPbQbR, hPbQbT, hPbRbT⟩ := hall
 (try dsimp only at hH)
 refine wpAnyH_ready (rs := [3]) (by kernel_rfl) (by simp) ?_
 refine arc1 (some 84) fun K hK => ?_
 have zzbQ := hAbQ.lt
 have zzbR := hAbR.lt
 have zzbT := hAbT.lt
 go_simp
 first | refine oA hK ?_ (fun hH hA => ?_) | refine oD hK ?_ (fun hH hA => ?_)
 · exact ⟨hH.1.alloc _, hH.2.1.alloc _, hH.2.2.1.alloc _, hH.2.2.2.1.alloc _, hH.2.2.2.2.1.later ((Below.refl _ _).alloc (Nat.le_refl _) _), hH.2.2.2.2.2.1.later ((Below.refl _ _).alloc (Nat.le_refl _) _), bwA (hH.2.2.2.2.2.2) (Nat.le_refl _) _⟩
 clear hK K
 (try simp only [cq])
 obtain ⟨bP, hbA⟩ : ∃ b, Blk.num hA = b := ⟨_, rfl⟩
 obtain ⟨W, hW⟩ : ∃ V, Blk.wld hA = V := ⟨_, rfl⟩
 simp only [Blk.num] at hbA
 simp only [Blk.wld] at hW
 first | replace hAbQ := awB hW hAbQ | replace hAbQ := awD hW hAbQ
 first | replace hAbR := awB hW hAbR | replace hAbR := awD hW hAbR
 first | replace hAbT := awB hW hAbT | replace hAbT := awD hW hAbT
 rw [hW] at hH hA ⊢
 rw [hbA] at hA ⊢
 have hPbPbQ : bP ≠ bQ := (by (try simp only [World.drew] at zzbQ hbA); omega)
 have hPbPbR : bP ≠ bR := (by (try simp only [World.drew] at zzbR hbA); omega)
 have hPbPbT : bP ≠ bT := (by (try simp only [World.drew] at zzbT hbA); omega)
 clear hW hbA zzbQ zzbR zzbT
 have hAbP := hA
 clear hA
 refine tkY 16 (some 18) ?_ ?_ ?_
 rotate_left
 · intro w _; go_simp; (try with_reducible rfl)
 (try simp only [cq])
 refine tkY 17 (some 19) ?_ ?_ ?_
 rotate_left
 · intro w _; go_simp; (try with_reducible rfl)
 (try simp only [cq])
 refine tkY 18 (some 20) ?_ ?_ ?_
 rotate_left
 · intro w _; go_simp; (try with_reducible rfl)
 (try simp only [cq])
 refine tkY 19 (some 21) ?_ ?_ ?_
 rotate_left
 · intro w _; go_simp; (try with_reducible rfl)
 (try simp only [cq])
 exact X0_0123 bP bQ bR bT W ⟨hH, hAbP, hAbQ, hAbR, hAbT, hPbPbQ, hPbPbR, hPbPbT, hPbQbR, hPbQbT, hPbRbT⟩
 }
 }
 {
 intro bP bR bT W hall
 obtain ⟨hH, hAbP, hAbR, hAbT, hPbPbR, hPbPbT, hPbRbT⟩ := hall
 (try dsimp only at hH)
 refine wpAnyH_ready (rs := [7]) (by kernel_rfl) (by simp) ?_
 refine arc1 (some 88) fun K hK => ?_
 have zzbP := hAbP.lt
 have zzbR := hAbR.lt
 have zzbT := hAbT.lt
 go_simp
 first | refine oA hK ?_ (fun hH hA => ?_) | refine oD hK ?_ (fun hH hA => ?_)
 · exact ⟨hH.1.alloc _, hH.2.1.alloc _, hH.2.2.1.alloc _, hH.2.2.2.1.alloc _, hH.2.2.2.2.1.later ((Below.refl _ _).alloc (Nat.le_refl _) _), hH.2.2.2.2.2.1.later ((Below.refl _ _).alloc (Nat.le_refl _) _), bwA (hH.2.2.2.2.2.2) (Nat.le_refl _) _⟩
 clear hK K
 (try simp only [cq])
 obtain ⟨bQ, hbA⟩ : ∃ b, Blk.num hA = b := ⟨_, rfl⟩
 obtain ⟨W, hW⟩ : ∃ V, Blk.wld hA = V := ⟨_, rfl⟩
 simp only [Blk.num] at hbA
 simp only [Blk.wld] at hW
 first | replace hAbP := awB hW hAbP | replace hAbP := awD hW hAbP
 first | replace hAbR := awB hW hAbR | replace hAbR := awD hW hAbR
 first | replace hAbT := awB hW hAbT | replace hAbT := awD hW hAbT
 rw [hW] at hH hA ⊢
 rw [hbA] at hA ⊢
 have hPbPbQ : bP ≠ bQ := (by (try simp only [World.drew] at zzbP hbA); omega)
 have hPbQbR : bQ ≠ bR := (by (try simp only [World.drew] at zzbR hbA); omega)
 have hPbQbT : bQ ≠ bT := (by (try simp only [World.drew] at zzbT hbA); omega)
 clear hW hbA zzbP zzbR zzbT
 have hAbQ := hA
 clear hA
 refine tkY 17 (some 19) ?_ ?_ ?_
 rotate_left
 · intro w _; go_simp; (try with_reducible rfl)
 (try simp only [cq])
 refine tkY 18 (some 20) ?_ ?_ ?_
 rotate_left
 · intro w _; go_simp; (try with_reducible rfl)
 (try simp only [cq])
 refine tkY 19 (some 21) ?_ ?_ ?_
 rotate_left
 · intro w _; go_simp; (try with_reducible rfl)
 (try simp only [cq])
 exact X0_0123 bP bQ bR bT W ⟨hH, hAbP, hAbQ, hAbR, hAbT, hPbPbQ, hPbPbR, hPbPbT, hPbQbR, hPbQbT, hPbRbT⟩
 }
 }
 {
 intro bP bQ bT W hall
 obtain ⟨hH, hAbP, hAbQ, hAbT, hPbPbQ, hPbPbT, hPbQbT⟩ := hall
 (try dsimp only at hH)
 refine wpAnyH_ready (rs := [11]) (by kernel_rfl) (by simp) ?_
 refine arc1 (some 92) fun K hK => ?_
 have zzbP := hAbP.lt
 have zzbQ := hAbQ.lt
 have zzbT := hAbT.lt
 go_simp
 first | refine oA hK ?_ (fun hH hA => ?_) | refine oD hK ?_ (fun hH hA => ?_)
 · exact ⟨hH.1.alloc _, hH.2.1.alloc _, hH.2.2.1.alloc _, hH.2.2.2.1.alloc _, hH.2.2.2.2.1.later ((Below.refl _ _).alloc (Nat.le_refl _) _), hH.2.2.2.2.2.1.later ((Below.refl _ _).alloc (Nat.le_refl _) _), bwA (hH.2.2.2.2.2.2) (Nat.le_refl _) _⟩
 clear hK K
 (try simp only [cq])
 obtain ⟨bR, hbA⟩ : ∃ b, Blk.num hA = b := ⟨_, rfl⟩
 obtain ⟨W, hW⟩ : ∃ V, Blk.wld hA = V := ⟨_, rfl⟩
 simp only [Blk.num] at hbA
 simp only [Blk.wld] at hW
 first | replace hAbP := awB hW hAbP | replace hAbP := awD hW hAbP
 first | replace hAbQ := awB hW hAbQ | replace hAbQ := awD hW hAbQ
 first | replace hAbT := awB hW hAbT | replace hAbT := awD hW hAbT
 rw [hW] at hH hA ⊢
 rw [hbA] at hA ⊢
 have hPbPbR : bP ≠ bR := (by (try simp only [World.drew] at zzbP hbA); omega)
 have hPbQbR : bQ ≠ bR := (by (try simp only [World.drew] at zzbQ hbA); omega)
 have hPbRbT : bR ≠ bT := (by (try simp only [World.drew] at zzbT hbA); omega)
 clear hW hbA zzbP zzbQ zzbT
 have hAbR := hA
 clear hA
 refine tkY 18 (some 20) ?_ ?_ ?_
 rotate_left
 · intro w _; go_simp; (try with_reducible rfl)
 (try simp only [cq])
 refine tkY 19 (some 21) ?_ ?_ ?_
 rotate_left
 · intro w _; go_simp; (try with_reducible rfl)
 (try simp only [cq])
 exact X0_0123 bP bQ bR bT W ⟨hH, hAbP, hAbQ, hAbR, hAbT, hPbPbQ, hPbPbR, hPbPbT, hPbQbR, hPbQbT, hPbRbT⟩
 }
 }
 {
 intro bP bQ bR W hall
 obtain ⟨hH, hAbP, hAbQ, hAbR, hPbPbQ, hPbPbR, hPbQbR⟩ := hall
 (try dsimp only at hH)
 refine wpAnyH_ready (rs := [15]) (by kernel_rfl) (by simp) ?_
 refine arc1 (some 96) fun K hK => ?_
 have zzbP := hAbP.lt
 have zzbQ := hAbQ.lt
 have zzbR := hAbR.lt
 go_simp
 first | refine oA hK ?_ (fun hH hA => ?_) | refine oD hK ?_ (fun hH hA => ?_)
 · exact ⟨hH.1.alloc _, hH.2.1.alloc _, hH.2.2.1.alloc _, hH.2.2.2.1.alloc _, hH.2.2.2.2.1.later ((Below.refl _ _).alloc (Nat.le_refl _) _), hH.2.2.2.2.2.1.later ((Below.refl _ _).alloc (Nat.le_refl _) _), bwA (hH.2.2.2.2.2.2) (Nat.le_refl _) _⟩
 clear hK K
 (try simp only [cq])
 obtain ⟨bT, hbA⟩ : ∃ b, Blk.num hA = b := ⟨_, rfl⟩
 obtain ⟨W, hW⟩ : ∃ V, Blk.wld hA = V := ⟨_, rfl⟩
 simp only [Blk.num] at hbA
 simp only [Blk.wld] at hW
 first | replace hAbP := awB hW hAbP | replace hAbP := awD hW hAbP
 first | replace hAbQ := awB hW hAbQ | replace hAbQ := awD hW hAbQ
 first | replace hAbR := awB hW hAbR | replace hAbR := awD hW hAbR
 rw [hW] at hH hA ⊢
 rw [hbA] at hA ⊢
 have hPbPbT : bP ≠ bT := (by (try simp only [World.drew] at zzbP hbA); omega)
 have hPbQbT : bQ ≠ bT := (by (try simp only [World.drew] at zzbQ hbA); omega)
 have hPbRbT : bR ≠ bT := (by (try simp only [World.drew] at zzbR hbA); omega)
 clear hW hbA zzbP zzbQ zzbR
 have hAbT := hA
 clear hA
 refine tkY 19 (some 21) ?_ ?_ ?_
 rotate_left
 · intro w _; go_simp; (try with_reducible rfl)
 (try simp only [cq])
 exact X0_0123 bP bQ bR bT W ⟨hH, hAbP, hAbQ, hAbR, hAbT, hPbPbQ, hPbPbR, hPbPbT, hPbQbR, hPbQbT, hPbRbT⟩
 }
 }
 {
 intro bP bQ bR bT W hall
 obtain ⟨hH, hAbP, hAbQ, hAbR, hAbT, hPbPbQ, hPbPbR, hPbPbT, hPbQbR, hPbQbT, hPbRbT⟩ := hall
 (try dsimp only at hH)
 refine wpAnyH_done (by kernel_rfl) ?_ _
 (try dsimp only [Act.put])
 (try simp only [cq])
 have kB := hH.2.2.2.2.2.2
 have kC2 := hH.2.2.2.2.1
 have kD2 := hH.2.2.2.2.2.1
 have kCC := HC.out.later kB
 have kDD := HD.out.later kB
 clear hH
 go_wp2_with fail
 go_meet
 exact ⟨_, _, _, _, pickB (l, (Value.slice va l.n vcap)) (m, (Value.slice vb m.n vbcap)) (m, (Value.slice vb m.n vbcap)), pickB x y x, pickB (Value.slice da md dcap) (Value.slice aq n2 cq) (Value.slice da md dcap), pickB md n2 md, pickB d d2 d, pickB nd z nd, rfl, rfl, rfl, rfl, ⟨⟨_, lwArr3 _ _ _, hAbP⟩, ⟨_, icArr3 _ _ _, hAbQ⟩, ⟨_, vlArr3 _ _ _, hAbR⟩, pickB_all (P := fun (z : Lw × Value) => CovAt _ z.2 z.1.n z.1.D z.1.P0 z.1.P1) kCC kC2 kC2, fun k => by
   match k with
   | 0 => exact kDD
   | 1 => exact kD2
   | _ + 2 => exact kDD, pickB_all (P := fun z => z ≤ 420) hmd (by omega) hmd⟩, ⟨_, ivArr3 _ _ _, hAbT⟩, kB⟩
 } )
        case rest =>
          as_aux_lemma =>
            clear jL jX jM jY jB kC kD kC1 kD1
            obtain ⟨b1, b2, b3, b4, ls, xs, vs, ns, ds, zs, rfl, rfl, rfl, rfl, hL, hZ, kB⟩ := hcut
            obtain ⟨V3, hVV⟩ : ∃ V3, V3 = wc := ⟨_, rfl⟩
            subst hVV
            have HL := Lib.hid (And.intro hL hZ)
            obtain ⟨B4, hB4⟩ : ∃ z, V3.heap.size = z := ⟨_, rfl⟩
            have HB4 := Lib.hid hB4
            have zwB : w.heap.size ≤ B4 := by have := kB.size; omega
            have zB4 : B4 ≤ V3.heap.size := by omega
            have zB4b : V3.heap.size ≤ B4 := by omega
            have zp : 0 < B4 := by obtain ⟨⟨C, _, hb⟩, _⟩ := hL; have := hb.lt; omega
            have kB4 : Below B4 V3 V3 := by rw [← hB4]; exact Below.refl _ _
            have KB := Lib.hid kB
            clear hB4 hL hZ kB
            go_wp2_with fail
            refine wp_monoX (bloop HL HB4 zB4 zB4b zp kB4 ?_)
            intro s0 s1 s2 s3 s4 s5 s6 s7 s8 s9 s10 s11 s12 s13 s14 s15 s16 s17 s18 s19 s20 s21 s22 s23 s24 s25 s26 s27 s28 s29 s30 s31 s32 s33 s34 s35 s36 s37 s38 s39 s40 s41 s42 s43 s44 s45 s46 s47 s48 s49 s50 s51 s52 s53 s54 s55 s56 s57 s58 s59 s60 s61 s62 s63 s64 s65 s66 s67 s68 s69 s70 s71 s72 s73 s74 s75 s76 s77 s78 s79 s80 s81 s82 s83 s84 s85 s86 s87 s88 s89 s90 s91 s92 s93 s94 s95 s96 s97 s98 s99 s100 s101 s102 s103 s104 s105 s106 s107 s108 s109 s110 s111 s112 s113 s114 s115 s116 s117 s118 s119 s120 s121 s122 s123 s124 s125 s126 s127 s128 s129 s130 s131 s132 s133 s134 s135 s136 s137 s138 s139 s140 s141 s142 s143 s144 s145 s146 s147 s148 s149 s150 s151 s152 s153 s154 s155 s156 s157 s158 s159 s160 s161 s162 s163 s164 s165 s166 s167 s168 s169 s170 s171 s172 s173 s174 s175 s176 s177 s178 s179 s180 s181 s182 s183 s184 s185 s186 s187 s188 s189 s190 s191 s192 s193 s194 s195 s196 s197 s198 s199 W hb
            have jB := bwS KB.out (by have := KB.out.size; omega) (show Below V3.heap.size V3 W by rw [HB4.out]; exact hb)
            clear hb
            go_wp2_with fail
            refine (awake_any _).mono ?_
            rintro e w9 ⟨rfl, hb⟩
            replace jB := bwS jB (Nat.le_refl _) hb
            go_wp2
            go_ret
            exact ⟨rfl, jB⟩
end Go.Proofs.YtdbiijldincoiaaGreat
