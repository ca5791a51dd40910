/-
  What the rows of this claim rest on: arrays of bytes, walks of the functions, plain mathematics.
-/
import Derived.Test.YtelgefgphhebnaaZs1
section
namespace Go.Proofs.Ytelgefgphhebnaa
open Go.RowKit
set_option linter.unusedVariables false
set_option linter.unusedSimpArgs false
attribute [local irreducible] deg invN dS qS stp stpr
/-- the first scope within a code -/
def scopeIn : Code → Option Code
 | .seq a b => match scopeIn a with
  | some c => some c
  | none => scopeIn b
 | .scope c => some c
 | _ => none
/-- what stands behind a label of the first scope -/
def behind (fn : Func) (l : Nat) : Code := (findLabel ((fn.body.bind scopeIn).getD .skip) l).getD .skip
def tailOf : Code → Code
 | .seq _ b => b
 | c => c
theorem behind_tail {fn : Func} {l : Nat} {P : Program} {Q : Exit → Act → World → Prop} {a : Act} {w : World} (hs : behind fn l = .seq .skip (tailOf (behind fn l))) (h : (tailOf (behind fn l)).wp P Q a w) : (behind fn l).wp P Q a w :=
 (congrArg (fun c : Code => c.wp P Q a w) hs).mpr (wp_seq (wp_skip h))
theorem jumps_less {J : Nat → Act → World → Prop} {M : Nat → Act → Nat} {N : Nat} {Q : Exit → Act → World → Prop} : ∀ e a w, Exit.jumps (fun l a w => J l a w ∧ M l a < N) Q e a w → Exit.jumps J Q e a w
 | .goto _, _, _, h => h.1
 | .normal, _, _, h => h
 | .exit _, _, _, h => h
 | .ret, _, _, h => h
 | .panic _, _, _, h => h
 | .outgrown, _, _, h => h
/-- the relation of the three labels: done 0, look 1, next 2 -/
def ldJ (p m inv : Nat) (a b : Nat → Nat) (w : World) (l : Nat) (a' : Act) (w' : World) : Prop :=
 ∃ (t : Nat) (v9 : Value) (v12 : Int) (u13 u14 u15 u16 u17 u18 u19 u20 u21 u22 u23 u24 u25 u26 u27 u28 u29 u30 u31 u32 u33 u34 u35 u36 u37 u38 u39 u40 u41 u42 u43 u44 u45 u46 u47 u48 u49 u50 u51 u52 u53 u54 u55 u56 u57 u58 u59 u60 u61 u62 u63 u64 u65 u66 u67 u68 u69 u70 u71 u72 u73 u74 u75 u76 u77 : Value), a' = { tmps := #[.int .i64 (p : Int), .agg (zb 128 a), .agg (zb 64 b), undef, .pointer (some ⟨w.heap.size, 0, none⟩), .pointer (some ⟨w.heap.size + 1, 0, none⟩), .pointer (some ⟨w.heap.size + 1 + 1, 0, none⟩), .pointer (some ⟨w.heap.size + 1 + 1 + 1, 0, none⟩), .pointer (some ⟨w.heap.size + 1 + 1 + 1 + 1, 0, none⟩), v9, .int .i64 (m : Int), .int .u8 (inv : Int), .int .i64 v12, u13, u14, u15, u16, u17, u18, u19, u20, u21, u22, u23, u24, u25, u26, u27, u28, u29, u30, u31, u32, u33, u34, u35, u36, u37, u38, u39, u40, u41, u42, u43, u44, u45, u46, u47, u48, u49, u50, u51, u52, u53, u54, u55, u56, u57, u58, u59, u60, u61, u62, u63, u64, u65, u66, u67, u68, u69, u70, u71, u72, u73, u74, u75, u76, u77], defers := [] } ∧ Below w.heap.size w w' ∧ Blk w' w.heap.size 128 151 (dS p inv m b a (128 - t)) ∧ Blk w' (w.heap.size + 1) 64 28 b ∧ Blk w' (w.heap.size + 1 + 1) 128 151 (fun _ => 0) ∧ Blk w' (w.heap.size + 1 + 1 + 1) 64 28 (fun _ => 0) ∧ Blk w' (w.heap.size + 1 + 1 + 1 + 1) 128 151 (qS p inv m b a (128 - t)) ∧ m ≤ t ∧ t ≤ 128 ∧ ((l = 1 ∧ v12 = (t : Int) - 1) ∨ (l = 2 ∧ v12 = (t : Int) ∧ t ≤ 127) ∨ (l = 0 ∧ t = m))
def ldM (l : Nat) (a' : Act) : Nat := 3 * (intOf (a'.tmps.getD 12 undef) + 1).toNat + (if l = 1 then 2 else if l = 2 then 1 else 0)
set_option maxRecDepth 100000 in
set_option maxHeartbeats 1600000 in
theorem ld_next (p m inv : Nat) (a b : Nat → Nat) (w : World) (v9 : Value) (u13 u14 u15 u16 u17 u18 u19 u20 u21 u22 u23 u24 u25 u26 u27 u28 u29 u30 u31 u32 u33 u34 u35 u36 u37 u38 u39 u40 u41 u42 u43 u44 u45 u46 u47 u48 u49 u50 u51 u52 u53 u54 u55 u56 u57 u58 u59 u60 u61 u62 u63 u64 u65 u66 u67 u68 u69 u70 u71 u72 u73 u74 u75 u76 u77 : Value) (t : Nat) (wr : World) (Q : Exit → Act → World → Prop) (hb : Below w.heap.size w wr) (b0 : Blk wr w.heap.size 128 151 (dS p inv m b a (128 - t))) (b1 : Blk wr (w.heap.size + 1) 64 28 b) (b2 : Blk wr (w.heap.size + 1 + 1) 128 151 (fun _ => 0)) (b3 : Blk wr (w.heap.size + 1 + 1 + 1) 64 28 (fun _ => 0)) (b4 : Blk wr (w.heap.size + 1 + 1 + 1 + 1) 128 151 (qS p inv m b a (128 - t))) (h1 : m ≤ t) (h2 : t ≤ 127) :
 (behind Try.f148 2).wp Try.prog (Exit.jumps (fun l' a' w' => ldJ p m inv a b w l' a' w' ∧ ldM l' a' < 3 * (t + 1) + 1) Q) { tmps := #[.int .i64 (p : Int), .agg (zb 128 a), .agg (zb 64 b), undef, .pointer (some ⟨w.heap.size, 0, none⟩), .pointer (some ⟨w.heap.size + 1, 0, none⟩), .pointer (some ⟨w.heap.size + 1 + 1, 0, none⟩), .pointer (some ⟨w.heap.size + 1 + 1 + 1, 0, none⟩), .pointer (some ⟨w.heap.size + 1 + 1 + 1 + 1, 0, none⟩), v9, .int .i64 (m : Int), .int .u8 (inv : Int), .int .i64 (t : Int), u13, u14, u15, u16, u17, u18, u19, u20, u21, u22, u23, u24, u25, u26, u27, u28, u29, u30, u31, u32, u33, u34, u35, u36, u37, u38, u39, u40, u41, u42, u43, u44, u45, u46, u47, u48, u49, u50, u51, u52, u53, u54, u55, u56, u57, u58, u59, u60, u61, u62, u63, u64, u65, u66, u67, u68, u69, u70, u71, u72, u73, u74, u75, u76, u77], defers := [] } wr := by
 simp only [tailOf, behind, Try.f148, Option.bind_some, scopeIn, Option.getD_some, findLabel, Nat.reduceBEq, if_true, if_false, Bool.false_eq_true, beq_self_eq_true]
 go_wp2_with fail
 go_step3
 refine ⟨⟨t, _, _, _, _, _, _, _, _, _, _, _, _, _, _, _, _, _, _, _, _, _, _, _, _, _, _, _, _, _, _, _, _, _, _, _, _, _, _, _, _, _, _, _, _, _, _, _, _, _, _, _, _, _, _, _, _, _, _, _, _, _, _, _, _, _, _, _, rfl, hb, b0, b1, b2, b3, b4, h1, by omega, Or.inl ⟨rfl, rfl⟩⟩, ?_⟩
 simp [ldM, intOf] <;> omega
set_option maxRecDepth 100000 in
set_option maxHeartbeats 1600000 in
theorem ld_stop (p m inv : Nat) (a b : Nat → Nat) (w : World) (v9 : Value) (u13 u14 u15 u16 u17 u18 u19 u20 u21 u22 u23 u24 u25 u26 u27 u28 u29 u30 u31 u32 u33 u34 u35 u36 u37 u38 u39 u40 u41 u42 u43 u44 u45 u46 u47 u48 u49 u50 u51 u52 u53 u54 u55 u56 u57 u58 u59 u60 u61 u62 u63 u64 u65 u66 u67 u68 u69 u70 u71 u72 u73 u74 u75 u76 u77 : Value) (wr : World) (Q : Exit → Act → World → Prop) (hb : Below w.heap.size w wr) (b0 : Blk wr w.heap.size 128 151 (dS p inv m b a (128 - m))) (b1 : Blk wr (w.heap.size + 1) 64 28 b) (b2 : Blk wr (w.heap.size + 1 + 1) 128 151 (fun _ => 0)) (b3 : Blk wr (w.heap.size + 1 + 1 + 1) 64 28 (fun _ => 0)) (b4 : Blk wr (w.heap.size + 1 + 1 + 1 + 1) 128 151 (qS p inv m b a (128 - m))) (h1 : m ≤ 128) :
 (behind Try.f148 1).wp Try.prog (Exit.jumps (fun l' a' w' => ldJ p m inv a b w l' a' w' ∧ ldM l' a' < 3 * m + 2) Q) { tmps := #[.int .i64 (p : Int), .agg (zb 128 a), .agg (zb 64 b), undef, .pointer (some ⟨w.heap.size, 0, none⟩), .pointer (some ⟨w.heap.size + 1, 0, none⟩), .pointer (some ⟨w.heap.size + 1 + 1, 0, none⟩), .pointer (some ⟨w.heap.size + 1 + 1 + 1, 0, none⟩), .pointer (some ⟨w.heap.size + 1 + 1 + 1 + 1, 0, none⟩), v9, .int .i64 (m : Int), .int .u8 (inv : Int), .int .i64 ((m : Int) - 1), u13, u14, u15, u16, u17, u18, u19, u20, u21, u22, u23, u24, u25, u26, u27, u28, u29, u30, u31, u32, u33, u34, u35, u36, u37, u38, u39, u40, u41, u42, u43, u44, u45, u46, u47, u48, u49, u50, u51, u52, u53, u54, u55, u56, u57, u58, u59, u60, u61, u62, u63, u64, u65, u66, u67, u68, u69, u70, u71, u72, u73, u74, u75, u76, u77], defers := [] } wr := by
 simp only [tailOf, behind, Try.f148, Option.bind_some, scopeIn, Option.getD_some, findLabel, Nat.reduceBEq, if_true, if_false, Bool.false_eq_true, beq_self_eq_true]
 go_wp2_with fail
 go_step3
 refine ⟨⟨m, _, _, _, _, _, _, _, _, _, _, _, _, _, _, _, _, _, _, _, _, _, _, _, _, _, _, _, _, _, _, _, _, _, _, _, _, _, _, _, _, _, _, _, _, _, _, _, _, _, _, _, _, _, _, _, _, _, _, _, _, _, _, _, _, _, _, _, rfl, hb, b0, b1, b2, b3, b4, by omega, by omega, Or.inr (Or.inr ⟨rfl, rfl⟩)⟩, ?_⟩
 simp [ldM, intOf]
set_option maxRecDepth 100000 in
set_option maxHeartbeats 1600000 in
theorem ld_zero (p m inv : Nat) (a b : Nat → Nat) (w : World) (v9 : Value) (u13 u14 u15 u16 u17 u18 u19 u20 u21 u22 u23 u24 u25 u26 u27 u28 u29 u30 u31 u32 u33 u34 u35 u36 u37 u38 u39 u40 u41 u42 u43 u44 u45 u46 u47 u48 u49 u50 u51 u52 u53 u54 u55 u56 u57 u58 u59 u60 u61 u62 u63 u64 u65 u66 u67 u68 u69 u70 u71 u72 u73 u74 u75 u76 u77 : Value) (j : Nat) (wr : World) (Q : Exit → Act → World → Prop) (A : Nat → Nat) (hb : Below w.heap.size w wr) (b0 : Blk wr w.heap.size 128 151 A) (b1 : Blk wr (w.heap.size + 1) 64 28 b) (b2 : Blk wr (w.heap.size + 1 + 1) 128 151 (fun _ => 0)) (b3 : Blk wr (w.heap.size + 1 + 1 + 1) 64 28 (fun _ => 0)) (b4 : Blk wr (w.heap.size + 1 + 1 + 1 + 1) 128 151 (qS p inv m b a (127 - j))) (h1 : m ≤ j) (h2 : j ≤ 127)
 (hA : A = dS p inv m b a (127 - j)) (hAp : ∀ k, k < 128 → A k < p) (h0 : A j = 0) :
 (tailOf (behind Try.f148 1)).wp Try.prog (Exit.jumps (fun l' a' w' => ldJ p m inv a b w l' a' w' ∧ ldM l' a' < 3 * (j + 1) + 2) Q) { tmps := #[.int .i64 (p : Int), .agg (zb 128 a), .agg (zb 64 b), undef, .pointer (some ⟨w.heap.size, 0, none⟩), .pointer (some ⟨w.heap.size + 1, 0, none⟩), .pointer (some ⟨w.heap.size + 1 + 1, 0, none⟩), .pointer (some ⟨w.heap.size + 1 + 1 + 1, 0, none⟩), .pointer (some ⟨w.heap.size + 1 + 1 + 1 + 1, 0, none⟩), v9, .int .i64 (m : Int), .int .u8 (inv : Int), .int .i64 (j : Int), u13, u14, u15, u16, u17, u18, u19, u20, u21, u22, u23, u24, u25, u26, u27, u28, u29, u30, u31, u32, u33, u34, u35, u36, u37, u38, u39, u40, u41, u42, u43, u44, u45, u46, u47, u48, u49, u50, u51, u52, u53, u54, u55, u56, u57, u58, u59, u60, u61, u62, u63, u64, u65, u66, u67, u68, u69, u70, u71, u72, u73, u74, u75, u76, u77], defers := [] } wr := by
 have HN := Lib.hid (show ∀ k, stp p inv m b j A k = dS p inv m b a (128 - j) k by
  intro k; rw [show 128 - j = 127 - j + 1 by omega, dS_succ, show 127 - (127 - j) = j by omega, hA])
 have HS := Lib.hid (show ∀ k, qS p inv m b a (127 - j) k = qS p inv m b a (128 - j) k by
  intro k
  rw [show 128 - j = 127 - j + 1 by omega]
  exact (qS_skip (p := p) (inv := inv) (m := m) b a (i := 127 - j) (by omega) (by rw [show 127 - (127 - j) = j by omega, ← hA]; exact h0) k).symm)
 have HAP := Lib.hid hAp
 have H0 := Lib.hid h0
 have c0 := b0.cell (i := j) (by omega)
 rw [h0] at c0
 clear hA hAp h0
 simp only [tailOf, behind, Try.f148, Option.bind_some, scopeIn, Option.getD_some, findLabel, Nat.reduceBEq, if_true, if_false, Bool.false_eq_true, beq_self_eq_true]
 go_wp2_with fail
 go_step3
 refine ⟨⟨j, _, _, _, _, _, _, _, _, _, _, _, _, _, _, _, _, _, _, _, _, _, _, _, _, _, _, _, _, _, _, _, _, _, _, _, _, _, _, _, _, _, _, _, _, _, _, _, _, _, _, _, _, _, _, _, _, _, _, _, _, _, _, _, _, _, _, _, rfl, hb, b0.congr (fun k hk => by rw [← HN.out k]; exact (stp_skip HAP.out H0.out hk).symm), b1, b2, b3, b4.congr (fun k _ => HS.out k), h1, by omega, Or.inr (Or.inl ⟨rfl, rfl, h2⟩)⟩, ?_⟩
 simp [ldM, intOf]
set_option maxRecDepth 100000 in
set_option maxHeartbeats 3200000 in
theorem ld_take (p m inv : Nat) (a b : Nat → Nat) (w : World) (v9 : Value) (u13 u14 u15 u16 u17 u18 u19 u20 u21 u22 u23 u24 u25 u26 u27 u28 u29 u30 u31 u32 u33 u34 u35 u36 u37 u38 u39 u40 u41 u42 u43 u44 u45 u46 u47 u48 u49 u50 u51 u52 u53 u54 u55 u56 u57 u58 u59 u60 u61 u62 u63 u64 u65 u66 u67 u68 u69 u70 u71 u72 u73 u74 u75 u76 u77 : Value) (j : Nat) (wr : World) (Q : Exit → Act → World → Prop) (A : Nat → Nat) (hb : Below w.heap.size w wr) (b0 : Blk wr w.heap.size 128 151 A) (b1 : Blk wr (w.heap.size + 1) 64 28 b) (b2 : Blk wr (w.heap.size + 1 + 1) 128 151 (fun _ => 0)) (b3 : Blk wr (w.heap.size + 1 + 1 + 1) 64 28 (fun _ => 0)) (b4 : Blk wr (w.heap.size + 1 + 1 + 1 + 1) 128 151 (qS p inv m b a (127 - j))) (h1 : m ≤ j) (h2 : j ≤ 127)
 (hA : A = dS p inv m b a (127 - j)) (hAp : ∀ k, k < 128 → A k < p) (h0 : A j ≠ 0) (p2 : 2 ≤ p) (p7 : p ≤ 7) (hi7 : inv < p) (hbp : ∀ k, k < 64 → b k < p) (hm6 : m < 64) :
 (tailOf (behind Try.f148 1)).wp Try.prog (Exit.jumps (fun l' a' w' => ldJ p m inv a b w l' a' w' ∧ ldM l' a' < 3 * (j + 1) + 2) Q) { tmps := #[.int .i64 (p : Int), .agg (zb 128 a), .agg (zb 64 b), undef, .pointer (some ⟨w.heap.size, 0, none⟩), .pointer (some ⟨w.heap.size + 1, 0, none⟩), .pointer (some ⟨w.heap.size + 1 + 1, 0, none⟩), .pointer (some ⟨w.heap.size + 1 + 1 + 1, 0, none⟩), .pointer (some ⟨w.heap.size + 1 + 1 + 1 + 1, 0, none⟩), v9, .int .i64 (m : Int), .int .u8 (inv : Int), .int .i64 (j : Int), u13, u14, u15, u16, u17, u18, u19, u20, u21, u22, u23, u24, u25, u26, u27, u28, u29, u30, u31, u32, u33, u34, u35, u36, u37, u38, u39, u40, u41, u42, u43, u44, u45, u46, u47, u48, u49, u50, u51, u52, u53, u54, u55, u56, u57, u58, u59, u60, u61, u62, u63, u64, u65, u66, u67, u68, u69, u70, u71, u72, u73, u74, u75, u76, u77], defers := [] } wr := by
 have HN := Lib.hid (show ∀ k, stp p inv m b j A k = dS p inv m b a (128 - j) k by
  intro k; rw [show 128 - j = 127 - j + 1 by omega, dS_succ, show 127 - (127 - j) = j by omega, hA])
 have HQ := Lib.hid (show ∀ k, upd (qS p inv m b a (127 - j)) (j - m) (A j * inv % p) k = qS p inv m b a (128 - j) k by
  intro k
  have := qS_next (p := p) (inv := inv) b a (i := 127 - j) (m := m) (by omega) k
  rw [show 127 - (127 - j) = j by omega, ← hA] at this
  rw [show 128 - j = 127 - j + 1 by omega]
  exact this)
 have HAP := Lib.hid hAp
 have HB := Lib.hid hbp
 have hjA : A j < p := hAp j (by omega)
 have c0 := b0.cell (i := j) (by omega)
 have h0' : (A j : Int) ≠ 0 := by omega
 obtain ⟨m1, m2⟩ := small_nat_mul p7 hjA hi7
 obtain ⟨τ, hτ⟩ : ∃ τ : Nat, τ = A j * inv % p := ⟨_, rfl⟩
 have hτp : τ < p := by rw [hτ]; exact Nat.mod_lt _ (by omega)
 have hτe : (A j : Int) * (inv : Int) % (p : Int) = (τ : Int) := by rw [hτ]; push_cast; rfl
 have HT := Lib.hid hτ
 have hjm : ((j : Int) - (m : Int)).toNat = j - m := by omega
 have z4 := b4.frozen (j - m)
 have c4 := b4.cell (i := j - m) (by omega)
 clear hA hAp h0 hτ hbp
 simp only [tailOf, behind, Try.f148, Option.bind_some, scopeIn, Option.getD_some, findLabel, Nat.reduceBEq, if_true, if_false, Bool.false_eq_true, beq_self_eq_true]
 go_wp2_with fail
 rw [hτe]
 simp only [show decide (j < m) = false by simp <;> omega, show ((A j : Int) == 0) = false by simp <;> omega]
 have b4q : Blk (wr.setCell ⟨w.heap.size + 1 + 1 + 1 + 1, j - m, none⟩ (.int .u8 (τ : Int))) (w.heap.size + 1 + 1 + 1 + 1) 128 151 (qS p inv m b a (128 - j)) := (b4.set rfl).congr (fun k _ => by rw [← HQ.out k, HT.out])
 have hbq : Below w.heap.size w (wr.setCell ⟨w.heap.size + 1 + 1 + 1 + 1, j - m, none⟩ (.int .u8 (τ : Int))) := hb.setCell (by simp; omega) _
 have b0q := (b0.congr (fun k _ => (stpr_zero p inv m b j A k).symm)).setOther (a := ⟨w.heap.size + 1 + 1 + 1 + 1, j - m, none⟩) (v := .int .u8 (τ : Int)) (by simp <;> omega)
 have b1q := b1.setOther (a := ⟨w.heap.size + 1 + 1 + 1 + 1, j - m, none⟩) (v := .int .u8 (τ : Int)) (by simp <;> omega)
 have b2q := b2.setOther (a := ⟨w.heap.size + 1 + 1 + 1 + 1, j - m, none⟩) (v := .int .u8 (τ : Int)) (by simp <;> omega)
 have b3q := b3.setOther (a := ⟨w.heap.size + 1 + 1 + 1 + 1, j - m, none⟩) (v := .int .u8 (τ : Int)) (by simp <;> omega)
 obtain ⟨w5, hw5⟩ : ∃ w5, w5 = wr.setCell ⟨w.heap.size + 1 + 1 + 1 + 1, j - m, none⟩ (.int .u8 (τ : Int)) := ⟨_, rfl⟩
 rw [← hw5] at b4q hbq b0q b1q b2q b3q ⊢
 clear hw5 hb b0 b1 b2 b3 b4 c0 c4 z4 hτe m1 m2 h0' hjm
 go_loopw [43] (fun c wr => ∃ i : Nat, i ≤ m + 1 ∧ c = .int .i64 (i : Int) ∧ Below w.heap.size w wr ∧ Blk wr w.heap.size 128 151 (stpr p inv m b j A i) ∧ Blk wr (w.heap.size + 1) 64 28 b ∧ Blk wr (w.heap.size + 1 + 1) 128 151 (fun _ => 0) ∧ Blk wr (w.heap.size + 1 + 1 + 1) 64 28 (fun _ => 0) ∧ Blk wr (w.heap.size + 1 + 1 + 1 + 1) 128 151 (qS p inv m b a (128 - j))) (fun c _ => m + 1 - (intOf c).toNat)
 case atStart => exact ⟨0, by omega, rfl, hbq, b0q, b1q, b2q, b3q, b4q⟩
 case round =>
  clear hbq b0q b1q b2q b3q b4q
  obtain ⟨i, hi, rfl, hb, b0, b1, b2, b3, b4⟩ := hrel
  by_cases hlt : i < m + 1
  · have v1 := HAP.out (j - m + i) (by omega)
    have v2 := HB.out i (by omega)
    have hji : ((j : Int) - (m : Int) + (i : Int)).toNat = j - m + i := by omega
    have hc : ((p - A j * inv % p : Nat) : Int) = (p : Int) - (τ : Int) := by rw [← HT.out]; omega
    have HE := Lib.hid (show ((A (j - m + i) : Int) + ((p : Int) - (τ : Int)) * (b i : Int)) % (p : Int) = (((A (j - m + i) + (p - A j * inv % p) * b i) % p : Nat) : Int) by rw [Int.natCast_emod, Int.natCast_add, Int.natCast_mul, hc])
    have m3 : 0 ≤ ((p : Int) - (τ : Int)) * (b i : Int) := Int.mul_nonneg (by omega) (by omega)
    have m4 : ((p : Int) - (τ : Int)) * (b i : Int) ≤ 42 := by
     have : ((p : Int) - (τ : Int)) * (b i : Int) ≤ 7 * 6 := Int.mul_le_mul (by omega) (by omega) (by omega) (by omega)
     omega
    clear hc
    go_wp2_with fail
    simp only [show decide ((i : Int) < (m : Int) + 1) = true by simp <;> omega]
    have lt_b0 : (w.heap.size) < wr.heap.size := b0.lt
    have lt_b1 : (w.heap.size + 1) < wr.heap.size := b1.lt
    have lt_b2 : (w.heap.size + 1 + 1) < wr.heap.size := b2.lt
    have lt_b3 : (w.heap.size + 1 + 1 + 1) < wr.heap.size := b3.lt
    have lt_b4 : (w.heap.size + 1 + 1 + 1 + 1) < wr.heap.size := b4.lt
    have hbase : w.heap.size ≤ wr.heap.size := hb.size
    refine zq Try.mixed (by kernel_rfl) (by kernel_rfl) (fun v => by (simp only [frL, Act.put, pA, pB, pC, Nat.reduceAdd, Nat.zero_add]; exact rfl))
     (fun L v wx => Below w.heap.size w wx ∧ wr.heap.size ≤ wx.heap.size ∧ (∃ g, Blk wx (w.heap.size) 128 151 (g)) ∧ (L 25 = false → Blk wx (w.heap.size) 128 151 (stpr p inv m b j A i)) ∧ (L 25 = true → Blk wx (w.heap.size) 128 151 (stpr p inv m b j A (i + 1))) ∧ Blk wx (w.heap.size + 1) 64 28 (b) ∧ Blk wx (w.heap.size + 1 + 1) 128 151 (fun _ => 0) ∧ Blk wx (w.heap.size + 1 + 1 + 1) 64 28 (fun _ => 0) ∧ Blk wx (w.heap.size + 1 + 1 + 1 + 1) 128 151 (qS p inv m b a (128 - j)) ∧ (L 0 = true → v 0 = (.int .i64 (j : Int))) ∧ (L 1 = true → v 1 = (.int .i64 (m : Int))) ∧ (L 2 = true → v 2 = (.int .i64 ((j : Int) - (m : Int)))) ∧ (L 3 = true → v 3 = (.int .i64 (i : Int))) ∧ (L 4 = true → v 4 = (.int .i64 ((j : Int) - (m : Int) + (i : Int)))) ∧ (L 5 = true → v 5 = (.int .i64 (j : Int))) ∧ (L 6 = true → v 6 = (.int .i64 (m : Int))) ∧ (L 7 = true → v 7 = (.int .i64 ((j : Int) - (m : Int)))) ∧ (L 8 = true → v 8 = (.int .i64 (i : Int))) ∧ (L 9 = true → v 9 = (.int .i64 ((j : Int) - (m : Int) + (i : Int)))) ∧ (L 10 = true → v 10 = (.pointer (some ⟨w.heap.size, j - m + i, none⟩))) ∧ (L 11 = true → v 11 = (.int .u8 (A (j - m + i) : Int))) ∧ (L 12 = true → v 12 = (.int .i64 (p : Int))) ∧ (L 13 = true → v 13 = (.int .u8 (p : Int))) ∧ (L 14 = true → v 14 = (.int .u8 (τ : Int))) ∧ (L 15 = true → v 15 = (.int .u8 ((p : Int) - (τ : Int)))) ∧ (L 16 = true → v 16 = (.int .i64 (i : Int))) ∧ (L 17 = true → v 17 = (.pointer (some ⟨w.heap.size + 1, i, none⟩))) ∧ (L 18 = true → v 18 = (.int .u8 (b i : Int))) ∧ (L 19 = true → v 19 = (.int .u8 (((p : Int) - (τ : Int)) * (b i : Int)))) ∧ (L 20 = true → v 20 = (.int .u8 ((A (j - m + i) : Int) + (((p : Int) - (τ : Int)) * (b i : Int))))) ∧ (L 21 = true → v 21 = (.int .i64 (p : Int))) ∧ (L 22 = true → v 22 = (.int .u8 (p : Int))) ∧ (L 23 = true → v 23 = (.int .u8 (((A (j - m + i) : Int) + (((p : Int) - (τ : Int)) * (b i : Int))) % (p : Int)))) ∧ (L 24 = true → v 24 = (.pointer (some ⟨w.heap.size, j - m + i, none⟩)))) ?_ ?_ ?_
    · intro v hv0
      exact ⟨hb.drew, Nat.le_refl _, ⟨_, b0.drew⟩, (fun _ => b0.drew), (fun h => by cases h), b1.drew, b2.drew, b3.drew, b4.drew, (fun h => by cases h), (fun h => by cases h), (fun h => by cases h), (fun h => by cases h), (fun h => by cases h), (fun h => by cases h), (fun h => by cases h), (fun h => by cases h), (fun h => by cases h), (fun h => by cases h), (fun h => by cases h), (fun h => by cases h), (fun h => by cases h), (fun h => by cases h), (fun h => by cases h), (fun h => by cases h), (fun h => by cases h), (fun h => by cases h), (fun h => by cases h), (fun h => by cases h), (fun h => by cases h), (fun h => by cases h), (fun h => by cases h), (fun h => by cases h), (fun h => by cases h)⟩
    · refine (.cons rfl ?_ (.cons rfl ?_ (.cons rfl ?_ (.cons rfl ?_ (.cons rfl ?_ (.cons rfl ?_ (.cons rfl ?_ (.cons rfl ?_ (.cons rfl ?_ (.cons rfl ?_ (.cons rfl ?_ (.cons rfl ?_ (.cons rfl ?_ (.cons rfl ?_ (.cons rfl ?_ (.cons rfl ?_ (.cons rfl ?_ (.cons rfl ?_ (.cons rfl ?_ (.cons rfl ?_ (.cons rfl ?_ (.cons rfl ?_ (.cons rfl ?_ (.cons rfl ?_ (.cons rfl ?_ (.cons rfl ?_ (.nil _)))))))))))))))))))))))))))
      all_goals intro L v wx hd hn ⟨hB, hz, x0, q0, n0, s1, s2, s3, s4, h0, h1, h2, h3, h4, h5, h6, h7, h8, h9, h10, h11, h12, h13, h14, h15, h16, h17, h18, h19, h20, h21, h22, h23, h24⟩ K hK
      · go_wp2_with fail
        exact hK _ (.int .i64 (j : Int)) _ (by simp only [Act.put, pA, pB, pC ]) ⟨hB, hz, x0, q0, n0, s1, s2, s3, s4, (fun _ => rfl), h1, h2, h3, h4, h5, h6, h7, h8, h9, h10, h11, h12, h13, h14, h15, h16, h17, h18, h19, h20, h21, h22, h23, h24⟩
      · go_wp2_with fail
        exact hK _ (.int .i64 (m : Int)) _ (by simp only [Act.put, pA, pB, pC ]) ⟨hB, hz, x0, q0, n0, s1, s2, s3, s4, h0, (fun _ => rfl), h2, h3, h4, h5, h6, h7, h8, h9, h10, h11, h12, h13, h14, h15, h16, h17, h18, h19, h20, h21, h22, h23, h24⟩
      · have e0 := h0 (zdq hd 0 rfl)
        have e1 := h1 (zdq hd 1 rfl)
        go_wp2_with fail
        exact hK _ (.int .i64 ((j : Int) - (m : Int))) _ (by simp only [Act.put, pA, pB, pC, e0, e1]) ⟨hB, hz, x0, q0, n0, s1, s2, s3, s4, h0, h1, (fun _ => rfl), h3, h4, h5, h6, h7, h8, h9, h10, h11, h12, h13, h14, h15, h16, h17, h18, h19, h20, h21, h22, h23, h24⟩
      · go_wp2_with fail
        exact hK _ (.int .i64 (i : Int)) _ (by simp only [Act.put, pA, pB, pC ]) ⟨hB, hz, x0, q0, n0, s1, s2, s3, s4, h0, h1, h2, (fun _ => rfl), h4, h5, h6, h7, h8, h9, h10, h11, h12, h13, h14, h15, h16, h17, h18, h19, h20, h21, h22, h23, h24⟩
      · have e2 := h2 (zdq hd 2 rfl)
        have e3 := h3 (zdq hd 3 rfl)
        go_wp2_with fail
        exact hK _ (.int .i64 ((j : Int) - (m : Int) + (i : Int))) _ (by simp only [Act.put, pA, pB, pC, e2, e3]) ⟨hB, hz, x0, q0, n0, s1, s2, s3, s4, h0, h1, h2, h3, (fun _ => rfl), h5, h6, h7, h8, h9, h10, h11, h12, h13, h14, h15, h16, h17, h18, h19, h20, h21, h22, h23, h24⟩
      · go_wp2_with fail
        exact hK _ (.int .i64 (j : Int)) _ (by simp only [Act.put, pA, pB, pC ]) ⟨hB, hz, x0, q0, n0, s1, s2, s3, s4, h0, h1, h2, h3, h4, (fun _ => rfl), h6, h7, h8, h9, h10, h11, h12, h13, h14, h15, h16, h17, h18, h19, h20, h21, h22, h23, h24⟩
      · go_wp2_with fail
        exact hK _ (.int .i64 (m : Int)) _ (by simp only [Act.put, pA, pB, pC ]) ⟨hB, hz, x0, q0, n0, s1, s2, s3, s4, h0, h1, h2, h3, h4, h5, (fun _ => rfl), h7, h8, h9, h10, h11, h12, h13, h14, h15, h16, h17, h18, h19, h20, h21, h22, h23, h24⟩
      · have e5 := h5 (zdq hd 5 rfl)
        have e6 := h6 (zdq hd 6 rfl)
        go_wp2_with fail
        exact hK _ (.int .i64 ((j : Int) - (m : Int))) _ (by simp only [Act.put, pA, pB, pC, e5, e6]) ⟨hB, hz, x0, q0, n0, s1, s2, s3, s4, h0, h1, h2, h3, h4, h5, h6, (fun _ => rfl), h8, h9, h10, h11, h12, h13, h14, h15, h16, h17, h18, h19, h20, h21, h22, h23, h24⟩
      · go_wp2_with fail
        exact hK _ (.int .i64 (i : Int)) _ (by simp only [Act.put, pA, pB, pC ]) ⟨hB, hz, x0, q0, n0, s1, s2, s3, s4, h0, h1, h2, h3, h4, h5, h6, h7, (fun _ => rfl), h9, h10, h11, h12, h13, h14, h15, h16, h17, h18, h19, h20, h21, h22, h23, h24⟩
      · have e7 := h7 (zdq hd 7 rfl)
        have e8 := h8 (zdq hd 8 rfl)
        go_wp2_with fail
        exact hK _ (.int .i64 ((j : Int) - (m : Int) + (i : Int))) _ (by simp only [Act.put, pA, pB, pC, e7, e8]) ⟨hB, hz, x0, q0, n0, s1, s2, s3, s4, h0, h1, h2, h3, h4, h5, h6, h7, h8, (fun _ => rfl), h10, h11, h12, h13, h14, h15, h16, h17, h18, h19, h20, h21, h22, h23, h24⟩
      · have e9 := h9 (zdq hd 9 rfl)
        go_wp2_with fail
        exact hK _ (.pointer (some ⟨w.heap.size, j - m + i, none⟩)) _ (by simp only [Act.put, pA, pB, pC, e9]) ⟨hB, hz, x0, q0, n0, s1, s2, s3, s4, h0, h1, h2, h3, h4, h5, h6, h7, h8, h9, (fun _ => rfl), h11, h12, h13, h14, h15, h16, h17, h18, h19, h20, h21, h22, h23, h24⟩
      · have e10 := h10 (zdq hd 10 rfl)
        have s0 := q0 (by
         cases hL : L 25 with
         | false => rfl
         | true => exact absurd rfl (hn 25 _ rfl hL ⟨11, .phase⟩ (by simp) rfl))
        have cc := s0.cell (i := j - m + i) (by omega)
        rw [stpr_at] at cc
        go_wp2_with fail
        exact hK _ (.int .u8 (A (j - m + i) : Int)) _ (by simp only [Act.put, pA, pB, pC, e10]) ⟨hB, hz, x0, q0, n0, s1, s2, s3, s4, h0, h1, h2, h3, h4, h5, h6, h7, h8, h9, h10, (fun _ => rfl), h12, h13, h14, h15, h16, h17, h18, h19, h20, h21, h22, h23, h24⟩
      · go_wp2_with fail
        exact hK _ (.int .i64 (p : Int)) _ (by simp only [Act.put, pA, pB, pC ]) ⟨hB, hz, x0, q0, n0, s1, s2, s3, s4, h0, h1, h2, h3, h4, h5, h6, h7, h8, h9, h10, h11, (fun _ => rfl), h13, h14, h15, h16, h17, h18, h19, h20, h21, h22, h23, h24⟩
      · have e12 := h12 (zdq hd 12 rfl)
        go_wp2_with fail
        exact hK _ (.int .u8 (p : Int)) _ (by simp only [Act.put, pA, pB, pC, e12]) ⟨hB, hz, x0, q0, n0, s1, s2, s3, s4, h0, h1, h2, h3, h4, h5, h6, h7, h8, h9, h10, h11, h12, (fun _ => rfl), h14, h15, h16, h17, h18, h19, h20, h21, h22, h23, h24⟩
      · go_wp2_with fail
        exact hK _ (.int .u8 (τ : Int)) _ (by simp only [Act.put, pA, pB, pC ]) ⟨hB, hz, x0, q0, n0, s1, s2, s3, s4, h0, h1, h2, h3, h4, h5, h6, h7, h8, h9, h10, h11, h12, h13, (fun _ => rfl), h15, h16, h17, h18, h19, h20, h21, h22, h23, h24⟩
      · have e13 := h13 (zdq hd 13 rfl)
        have e14 := h14 (zdq hd 14 rfl)
        go_wp2_with fail
        exact hK _ (.int .u8 ((p : Int) - (τ : Int))) _ (by simp only [Act.put, pA, pB, pC, e13, e14]) ⟨hB, hz, x0, q0, n0, s1, s2, s3, s4, h0, h1, h2, h3, h4, h5, h6, h7, h8, h9, h10, h11, h12, h13, h14, (fun _ => rfl), h16, h17, h18, h19, h20, h21, h22, h23, h24⟩
      · go_wp2_with fail
        exact hK _ (.int .i64 (i : Int)) _ (by simp only [Act.put, pA, pB, pC ]) ⟨hB, hz, x0, q0, n0, s1, s2, s3, s4, h0, h1, h2, h3, h4, h5, h6, h7, h8, h9, h10, h11, h12, h13, h14, h15, (fun _ => rfl), h17, h18, h19, h20, h21, h22, h23, h24⟩
      · have e16 := h16 (zdq hd 16 rfl)
        go_wp2_with fail
        exact hK _ (.pointer (some ⟨w.heap.size + 1, i, none⟩)) _ (by simp only [Act.put, pA, pB, pC, e16]) ⟨hB, hz, x0, q0, n0, s1, s2, s3, s4, h0, h1, h2, h3, h4, h5, h6, h7, h8, h9, h10, h11, h12, h13, h14, h15, h16, (fun _ => rfl), h18, h19, h20, h21, h22, h23, h24⟩
      · have e17 := h17 (zdq hd 17 rfl)
        have cc := s1.cell (i := i) (by omega)
        go_wp2_with fail
        exact hK _ (.int .u8 (b i : Int)) _ (by simp only [Act.put, pA, pB, pC, e17]) ⟨hB, hz, x0, q0, n0, s1, s2, s3, s4, h0, h1, h2, h3, h4, h5, h6, h7, h8, h9, h10, h11, h12, h13, h14, h15, h16, h17, (fun _ => rfl), h19, h20, h21, h22, h23, h24⟩
      · have e15 := h15 (zdq hd 15 rfl)
        have e18 := h18 (zdq hd 18 rfl)
        go_wp2_with fail
        exact hK _ (.int .u8 (((p : Int) - (τ : Int)) * (b i : Int))) _ (by simp only [Act.put, pA, pB, pC, e15, e18]) ⟨hB, hz, x0, q0, n0, s1, s2, s3, s4, h0, h1, h2, h3, h4, h5, h6, h7, h8, h9, h10, h11, h12, h13, h14, h15, h16, h17, h18, (fun _ => rfl), h20, h21, h22, h23, h24⟩
      · have e11 := h11 (zdq hd 11 rfl)
        have e19 := h19 (zdq hd 19 rfl)
        go_wp2_with fail
        exact hK _ (.int .u8 ((A (j - m + i) : Int) + (((p : Int) - (τ : Int)) * (b i : Int)))) _ (by simp only [Act.put, pA, pB, pC, e11, e19]) ⟨hB, hz, x0, q0, n0, s1, s2, s3, s4, h0, h1, h2, h3, h4, h5, h6, h7, h8, h9, h10, h11, h12, h13, h14, h15, h16, h17, h18, h19, (fun _ => rfl), h21, h22, h23, h24⟩
      · go_wp2_with fail
        exact hK _ (.int .i64 (p : Int)) _ (by simp only [Act.put, pA, pB, pC ]) ⟨hB, hz, x0, q0, n0, s1, s2, s3, s4, h0, h1, h2, h3, h4, h5, h6, h7, h8, h9, h10, h11, h12, h13, h14, h15, h16, h17, h18, h19, h20, (fun _ => rfl), h22, h23, h24⟩
      · have e21 := h21 (zdq hd 21 rfl)
        go_wp2_with fail
        exact hK _ (.int .u8 (p : Int)) _ (by simp only [Act.put, pA, pB, pC, e21]) ⟨hB, hz, x0, q0, n0, s1, s2, s3, s4, h0, h1, h2, h3, h4, h5, h6, h7, h8, h9, h10, h11, h12, h13, h14, h15, h16, h17, h18, h19, h20, h21, (fun _ => rfl), h23, h24⟩
      · have e20 := h20 (zdq hd 20 rfl)
        have e22 := h22 (zdq hd 22 rfl)
        go_wp2_with fail
        exact hK _ (.int .u8 (((A (j - m + i) : Int) + (((p : Int) - (τ : Int)) * (b i : Int))) % (p : Int))) _ (by simp only [Act.put, pA, pB, pC, e20, e22]) ⟨hB, hz, x0, q0, n0, s1, s2, s3, s4, h0, h1, h2, h3, h4, h5, h6, h7, h8, h9, h10, h11, h12, h13, h14, h15, h16, h17, h18, h19, h20, h21, h22, (fun _ => rfl), h24⟩
      · have e4 := h4 (zdq hd 4 rfl)
        go_wp2_with fail
        exact hK _ (.pointer (some ⟨w.heap.size, j - m + i, none⟩)) _ (by simp only [Act.put, pA, pB, pC, e4]) ⟨hB, hz, x0, q0, n0, s1, s2, s3, s4, h0, h1, h2, h3, h4, h5, h6, h7, h8, h9, h10, h11, h12, h13, h14, h15, h16, h17, h18, h19, h20, h21, h22, h23, (fun _ => rfl)⟩
      · have e24 := h24 (zdq hd 24 rfl)
        have e23 := h23 (zdq hd 23 rfl)
        obtain ⟨gz, hk⟩ := x0
        have zz := hk.frozen (j - m + i)
        have cc := hk.cell (i := j - m + i) (by omega)
        go_wp2_with fail
        exact hK _ undef _ (by simp only [Act.put, pA, pB, pC, e24, e23]) ⟨hB.setCell (by simp <;> omega) _, (by simpa using hz), ⟨_, hk.set (v := (A (j - m + i) + (p - A j * inv % p) * b i) % p) HE.out⟩, (fun h => absurd h (by simp [setL])), (fun _ => by cases hL : L 25 with | false => exact ((q0 hL).set (v := (A (j - m + i) + (p - A j * inv % p) * b i) % p) HE.out).congr (fun k _ => stpr_next p inv m b j A i k) | true => exact ((n0 hL).set (v := (A (j - m + i) + (p - A j * inv % p) * b i) % p) HE.out).congr (fun k _ => upd_again (stpr_next p inv m b j A i) k)), (s1).setOther (by simp <;> omega), (s2).setOther (by simp <;> omega), (s3).setOther (by simp <;> omega), (s4).setOther (by simp <;> omega), h0, h1, h2, h3, h4, h5, h6, h7, h8, h9, h10, h11, h12, h13, h14, h15, h16, h17, h18, h19, h20, h21, h22, h23, h24⟩
    · intro L v wx hL ⟨hB, hz, x0, q0, n0, s1, s2, s3, s4, h0, h1, h2, h3, h4, h5, h6, h7, h8, h9, h10, h11, h12, h13, h14, h15, h16, h17, h18, h19, h20, h21, h22, h23, h24⟩
      have r0 := n0 (hL 25 (by decide))
      have e0 := h0 (hL 0 (by decide))
      have e1 := h1 (hL 1 (by decide))
      have e2 := h2 (hL 2 (by decide))
      have e3 := h3 (hL 3 (by decide))
      have e4 := h4 (hL 4 (by decide))
      have e5 := h5 (hL 5 (by decide))
      have e6 := h6 (hL 6 (by decide))
      have e7 := h7 (hL 7 (by decide))
      have e8 := h8 (hL 8 (by decide))
      have e9 := h9 (hL 9 (by decide))
      have e10 := h10 (hL 10 (by decide))
      have e11 := h11 (hL 11 (by decide))
      have e12 := h12 (hL 12 (by decide))
      have e13 := h13 (hL 13 (by decide))
      have e14 := h14 (hL 14 (by decide))
      have e15 := h15 (hL 15 (by decide))
      have e16 := h16 (hL 16 (by decide))
      have e17 := h17 (hL 17 (by decide))
      have e18 := h18 (hL 18 (by decide))
      have e19 := h19 (hL 19 (by decide))
      have e20 := h20 (hL 20 (by decide))
      have e21 := h21 (hL 21 (by decide))
      have e22 := h22 (hL 22 (by decide))
      have e23 := h23 (hL 23 (by decide))
      have e24 := h24 (hL 24 (by decide))
      clear hL x0 q0 n0 h0 h1 h2 h3 h4 h5 h6 h7 h8 h9 h10 h11 h12 h13 h14 h15 h16 h17 h18 h19 h20 h21 h22 h23 h24
      simp only [Exit.then, e0, e1, e2, e3, e4, e5, e6, e7, e8, e9, e10, e11, e12, e13, e14, e15, e16, e17, e18, e19, e20, e21, e22, e23, e24]
      clear e0 e1 e2 e3 e4 e5 e6 e7 e8 e9 e10 e11 e12 e13 e14 e15 e16 e17 e18 e19 e20 e21 e22 e23 e24
      go_wp2_with fail
      go_roundw
      case rel => exact ⟨i + 1, by omega, by go_num, hB, r0, s1, s2, s3, s4⟩
      case measure => simp [intOf] <;> omega
  · have e : i = m + 1 := by omega
    subst e
    have b0f := b0.congr (fun k _ => stpr_full p inv m b A h1 k)
    go_wp2_with fail
    go_step3
    simp only [Exit.then]
    apply_assumption
    go_wp2_with fail
    go_step3
    refine ⟨⟨j, _, _, _, _, _, _, _, _, _, _, _, _, _, _, _, _, _, _, _, _, _, _, _, _, _, _, _, _, _, _, _, _, _, _, _, _, _, _, _, _, _, _, _, _, _, _, _, _, _, _, _, _, _, _, _, _, _, _, _, _, _, _, _, _, _, _, _, rfl, hb, b0f.congr (fun k _ => HN.out k), b1, b2, b3, b4, h1, by omega, Or.inl ⟨rfl, rfl⟩⟩, ?_⟩
    simp [ldM, intOf] <;> omega
end Go.Proofs.Ytelgefgphhebnaa
end
section
namespace Go.Proofs.Ytelgefgphhebnaa
open Go.RowKit
set_option linter.unusedVariables false
set_option linter.unusedSimpArgs false
attribute [local irreducible] deg invN dS qS stp stpr
set_option maxRecDepth 100000 in
set_option maxHeartbeats 3200000 in
theorem ld_done (p m inv : Nat) (a b : Nat → Nat) (w : World) (v9 : Value) (u13 u14 u15 u16 u17 u18 u19 u20 u21 u22 u23 u24 u25 u26 u27 u28 u29 u30 u31 u32 u33 u34 u35 u36 u37 u38 u39 u40 u41 u42 u43 u44 u45 u46 u47 u48 u49 u50 u51 u52 u53 u54 u55 u56 u57 u58 u59 u60 u61 u62 u63 u64 u65 u66 u67 u68 u69 u70 u71 u72 u73 u74 u75 u76 u77 : Value) (x12 : Value) (wr : World) (J : Nat → Act → World → Prop) (A B : Nat → Nat) (hb : Below w.heap.size w wr) (b0 : Blk wr w.heap.size 128 151 A) (b1 : Blk wr (w.heap.size + 1) 64 28 b) (b2 : Blk wr (w.heap.size + 1 + 1) 128 151 (fun _ => 0)) (b3 : Blk wr (w.heap.size + 1 + 1 + 1) 64 28 (fun _ => 0)) (b4 : Blk wr (w.heap.size + 1 + 1 + 1 + 1) 128 151 B) (Q : Exit → Act → World → Prop)
 (hQ : Q = bodyPost Try.prog Try.f148 fun e w' => e = .returned (.tuple #[.agg (zb 128 B), .agg (zb 64 A)]) ∧ Below w.heap.size w w') :
 (behind Try.f148 0).wp Try.prog (Exit.jumps J Q) { tmps := #[.int .i64 (p : Int), .agg (zb 128 a), .agg (zb 64 b), undef, .pointer (some ⟨w.heap.size, 0, none⟩), .pointer (some ⟨w.heap.size + 1, 0, none⟩), .pointer (some ⟨w.heap.size + 1 + 1, 0, none⟩), .pointer (some ⟨w.heap.size + 1 + 1 + 1, 0, none⟩), .pointer (some ⟨w.heap.size + 1 + 1 + 1 + 1, 0, none⟩), v9, .int .i64 (m : Int), .int .u8 (inv : Int), x12, u13, u14, u15, u16, u17, u18, u19, u20, u21, u22, u23, u24, u25, u26, u27, u28, u29, u30, u31, u32, u33, u34, u35, u36, u37, u38, u39, u40, u41, u42, u43, u44, u45, u46, u47, u48, u49, u50, u51, u52, u53, u54, u55, u56, u57, u58, u59, u60, u61, u62, u63, u64, u65, u66, u67, u68, u69, u70, u71, u72, u73, u74, u75, u76, u77], defers := [] } wr := by
 have HQ := Lib.hid hQ
 clear hQ
 have hat := fun (W : World) (a : Option Addr) => run_arrayAt (P := Try.prog) (w := W) 28 5 64 a 64 128 Try.underlying28 (by omega)
 simp only [tailOf, behind, Try.f148, Option.bind_some, scopeIn, Option.getD_some, findLabel, Nat.reduceBEq, if_true, if_false, Bool.false_eq_true, beq_self_eq_true]
 go_wp2_with fail
 have lt_b0 : (w.heap.size) < wr.heap.size := b0.lt
 have lt_b4 : (w.heap.size + 1 + 1 + 1 + 1) < wr.heap.size := b4.lt
 have lt_b2 : (w.heap.size + 1 + 1) < wr.heap.size := b2.lt
 have lt_b3 : (w.heap.size + 1 + 1 + 1) < wr.heap.size := b3.lt
 have hbase : w.heap.size ≤ wr.heap.size := hb.size
 refine zq Try.mixed (by kernel_rfl) (by kernel_rfl) (fun v => by (simp only [frL, Act.put, pA, pB, pC, Nat.reduceAdd, Nat.zero_add]; exact rfl))
  (fun L v wx => Below w.heap.size w wx ∧ wr.heap.size ≤ wx.heap.size ∧ Blk wx (w.heap.size) 128 151 (A) ∧ Blk wx (w.heap.size + 1 + 1 + 1 + 1) 128 151 (B) ∧ (∃ g, Blk wx (w.heap.size + 1 + 1) 128 151 (g)) ∧ (L 4 = false → Blk wx (w.heap.size + 1 + 1) 128 151 (fun _ => 0)) ∧ (L 4 = true → Blk wx (w.heap.size + 1 + 1) 128 151 (B)) ∧ (∃ g, Blk wx (w.heap.size + 1 + 1 + 1) 64 28 (g)) ∧ (L 5 = false → Blk wx (w.heap.size + 1 + 1 + 1) 64 28 (fun _ => 0)) ∧ (L 5 = true → Blk wx (w.heap.size + 1 + 1 + 1) 64 28 (A)) ∧ (L 0 = true → v 0 = (.agg (zb 128 (B)))) ∧ (L 1 = true → v 1 = (.slice (some ⟨w.heap.size, 0, none⟩) 64 128)) ∧ (L 2 = true → v 2 = (.pointer (some ⟨w.heap.size, 0, none⟩) )) ∧ (L 3 = true → v 3 = (.agg (zb 64 (A))))) ?_ ?_ ?_
 · intro v hv0
   exact ⟨hb.drew, Nat.le_refl _, b0.drew, b4.drew, ⟨_, b2.drew⟩, (fun _ => b2.drew), (fun h => by cases h), ⟨_, b3.drew⟩, (fun _ => b3.drew), (fun h => by cases h), (fun h => by cases h), (fun h => by cases h), (fun h => by cases h), (fun h => by cases h)⟩
 · refine (.cons rfl ?_ (.cons rfl ?_ (.cons rfl ?_ (.cons rfl ?_ (.cons rfl ?_ (.cons rfl ?_ (.nil _)))))))
   all_goals intro L v wx hd hn ⟨hB, hz, s0, s1, x2, q2, n2, x3, q3, n3, h0, h1, h2, h3⟩ K hK
   · refine wp_load_blk 151 _ rfl _ rfl 128 151 _ s1 _ Try.underlying151 Try.size151 ?_
     exact hK _ _ _ rfl ⟨hB, hz, s0, s1, x2, q2, n2, x3, q3, n3, (fun _ => rfl), h1, h2, h3⟩
   · go_wp2_with fail
     exact hK _ (.slice (some ⟨w.heap.size, 0, none⟩) 64 128) _ (by simp only [Act.put, pA, pB, pC ]) ⟨hB, hz, s0, s1, x2, q2, n2, x3, q3, n3, h0, (fun _ => rfl), h2, h3⟩
   · have e1 := h1 (zdq hd 1 rfl)
     go_wp2_with fail
     exact hK _ (.pointer (some ⟨w.heap.size, 0, none⟩) ) _ (by simp only [Act.put, pA, pB, pC, e1]) ⟨hB, hz, s0, s1, x2, q2, n2, x3, q3, n3, h0, h1, (fun _ => rfl), h3⟩
   · have e2 := h2 (zdq hd 2 rfl)
     refine wp_load_mid 28 _ rfl _ (0) e2 _ _ (s0.pre (m := 64) (by omega)) Try.underlying28 rfl (by rw [zl]; exact Try.size28) ?_
     exact hK _ _ _ rfl ⟨hB, hz, s0, s1, x2, q2, n2, x3, q3, n3, h0, h1, h2, (fun _ => rfl)⟩
   · have e0 := h0 (zdq hd 0 rfl)
     obtain ⟨gz, hk⟩ := x2
     refine zsb 151 _ _ rfl _ 128 (B) rfl e0 151 gz hk Try.size151 ?_
     exact hK _ undef _ rfl ⟨zr hB (by omega) _, (by simpa [World.setRow] using hz), (s0).rowOther (by omega), (s1).rowOther (by omega), ⟨_, hk.row _⟩, (fun h => absurd h (by simp [setL])), (fun _ => hk.row _), (let ⟨g, h⟩ := x3; ⟨g, (h).rowOther (by omega)⟩), (fun h => (q3 h).rowOther (by omega)), (fun h => (n3 h).rowOther (by omega)), h0, h1, h2, h3⟩
   · have e3 := h3 (zdq hd 3 rfl)
     obtain ⟨gz, hk⟩ := x3
     refine zsb 28 _ _ rfl _ 64 (A) rfl e3 28 gz hk Try.size28 ?_
     exact hK _ undef _ rfl ⟨zr hB (by omega) _, (by simpa [World.setRow] using hz), (s0).rowOther (by omega), (s1).rowOther (by omega), (let ⟨g, h⟩ := x2; ⟨g, (h).rowOther (by omega)⟩), (fun h => (q2 h).rowOther (by omega)), (fun h => (n2 h).rowOther (by omega)), ⟨_, hk.row _⟩, (fun h => absurd h (by simp [setL])), (fun _ => hk.row _), h0, h1, h2, h3⟩
 · intro L v wx hL ⟨hB, hz, s0, s1, x2, q2, n2, x3, q3, n3, h0, h1, h2, h3⟩
   have r2 := n2 (hL 4 (by decide))
   have r3 := n3 (hL 5 (by decide))
   have e0 := h0 (hL 0 (by decide))
   have e1 := h1 (hL 1 (by decide))
   have e2 := h2 (hL 2 (by decide))
   have e3 := h3 (hL 3 (by decide))
   clear hL x2 q2 n2 x3 q3 n3 h0 h1 h2 h3
   simp only [Exit.then, e0, e1, e2, e3]
   clear e0 e1 e2 e3
   go_wp2_with fail
   show Q .ret _ _
   rw [HQ.out]
   refine bodyPost_ret (results_bb rfl _ _ _ 128 151 5 _ _ 64 28 5 _ rfl r2 Try.underlying151 Try.size151 rfl r3 Try.underlying28 Try.size28) rfl ⟨rfl, hB⟩
set_option maxRecDepth 100000 in
set_option maxHeartbeats 3200000 in
theorem longDivision_any (p m : Nat) (a b : Nat → Nat) (w : World) (hp : p = 2 ∨ p = 3 ∨ p = 5 ∨ p = 7) (ha : ∀ k, k < 128 → a k < p) (hb : ∀ k, k < 64 → b k < p) (hm : deg b = (m : Int)) (hbm : 0 < b m) (hm6 : m < 64) :
 Calls Try.prog 148 #[.int .i64 (p : Int), .agg (zb 128 a), .agg (zb 64 b)] w fun e w' => e = .returned (.tuple #[.agg (zb 128 (quoW p (invN p (b m)) m b a)), .agg (zb 64 (resW p (invN p (b m)) m b a))]) ∧ Below w.heap.size w w' := by
 obtain ⟨inv, hinv⟩ : ∃ v, v = invN p (b m) := ⟨_, rfl⟩
 have hi7 : inv < p := by have := (invF hp hbm (hb m hm6)).2.1; omega
 have p2 : 2 ≤ p := by omega
 have p7 : p ≤ 7 := by omega
 rw [← hinv]
 have HA := Lib.hid ha; clear ha
 have HB := Lib.hid hb; clear hb
 have HI := Lib.hid hinv; clear hinv
 have HM := Lib.hid hm; clear hm
 go_enter Try.func148, Try.ntmps148
 go_wp2
 refine wp_scope_labels (fun l a' w' => ldJ p m inv a b w l a' w') (fun l a' _ => ldM l a') ?_ ?_
 · go_upto_region 2 with (fail)
   rw [← zero128, ← z64]
   obtain ⟨wo, hwo⟩ : ∃ wo : World, wo = (((((w.alloc (.cells (zb 128 a) 151)).alloc (.cells (zb 64 b) 28)).alloc (.cells (zb 128 fun _ => 0) 151)).alloc (.cells (zb 64 fun _ => 0) 28)).alloc (.cells (zb 128 fun _ => 0) 151)) := ⟨_, rfl⟩
   have b0 : Blk wo (w.heap.size) 128 151 a := by subst hwo; have := (((((Blk.new w 128 151 a).alloc (.cells (zb 64 b) 28)).alloc (.cells (zb 128 fun _ => 0) 151)).alloc (.cells (zb 64 fun _ => 0) 28)).alloc (.cells (zb 128 fun _ => 0) 151)); simpa using this
   have b1 : Blk wo (w.heap.size + 1) 64 28 b := by subst hwo; have := ((((Blk.new (w.alloc (.cells (zb 128 a) 151)) 64 28 b).alloc (.cells (zb 128 fun _ => 0) 151)).alloc (.cells (zb 64 fun _ => 0) 28)).alloc (.cells (zb 128 fun _ => 0) 151)); simpa using this
   have b2 : Blk wo (w.heap.size + 1 + 1) 128 151 (fun _ => 0) := by subst hwo; have := (((Blk.new ((w.alloc (.cells (zb 128 a) 151)).alloc (.cells (zb 64 b) 28)) 128 151 (fun _ => 0)).alloc (.cells (zb 64 fun _ => 0) 28)).alloc (.cells (zb 128 fun _ => 0) 151)); simpa using this
   have b3 : Blk wo (w.heap.size + 1 + 1 + 1) 64 28 (fun _ => 0) := by subst hwo; have := ((Blk.new (((w.alloc (.cells (zb 128 a) 151)).alloc (.cells (zb 64 b) 28)).alloc (.cells (zb 128 fun _ => 0) 151)) 64 28 (fun _ => 0)).alloc (.cells (zb 128 fun _ => 0) 151)); simpa using this
   have b4 : Blk wo (w.heap.size + 1 + 1 + 1 + 1) 128 151 (fun _ => 0) := by subst hwo; have := (Blk.new ((((w.alloc (.cells (zb 128 a) 151)).alloc (.cells (zb 64 b) 28)).alloc (.cells (zb 128 fun _ => 0) 151)).alloc (.cells (zb 64 fun _ => 0) 28)) 128 151 (fun _ => 0)); simpa using this
   have hb : Below w.heap.size w wo := by subst hwo; exact ((((((Below.refl _ _).alloc (Nat.le_refl _) _).alloc (by simp) _).alloc (by simp; omega) _).alloc (by simp; omega) _).alloc (by simp; omega) _)
   rw [← hwo]
   clear hwo
   have ha : Below wo.heap.size wo wo := Below.refl _ _
   go_upto_region 4 with (first | refine zlb rfl 28 _ rfl _ rfl 64 28 _ (b1.below (by assumption) b1.lt) 5 Try.underlying28 Try.size28 ?_ | (go_at_call 77; refine (acc (degree_any _ _) (by assumption)).mono ?_; rintro e w1 ⟨rfl, h1, ha⟩; rw [HM.out]))
   replace hb := hb.trans (ha.mono hb.size)
   replace b0 := b0.zw ha
   replace b1 := b1.zw ha
   replace b2 := b2.zw ha
   replace b3 := b3.zw ha
   replace b4 := b4.zw ha
   clear ha h1
   have c1 := b1.cell (i := m) hm6
   go_wp2_with (first | (go_at_call 162; refine (inverseNumber_any p (b m) _ hp hbm (HB.out m hm6)).mono ?_; rintro e w1 ⟨rfl, rfl⟩; rw [← HI.out]))
   go_step3
   simp only [Exit.then]
   apply_assumption
   have hA : a = dS p inv m b a (127 - 127) := by rw [Nat.sub_self, dS_zero]
   have b4' := b4.congr (g := qS p inv m b a (127 - 127)) (fun k _ => by rw [Nat.sub_self, qS_zero])
   by_cases h0 : a 127 = 0
   · exact wp_mono (ld_zero p m inv a b w _ _ _ _ _ _ _ _ _ _ _ _ _ _ _ _ _ _ _ _ _ _ _ _ _ _ _ _ _ _ _ _ _ _ _ _ _ _ _ _ _ _ _ _ _ _ _ _ _ _ _ _ _ _ _ _ _ _ _ _ _ _ _ _ _ _ 127 w1 _ a hb b0 b1 b2 b3 b4' (by omega) (by omega) hA HA.out h0) jumps_less
   · exact wp_mono (ld_take p m inv a b w _ _ _ _ _ _ _ _ _ _ _ _ _ _ _ _ _ _ _ _ _ _ _ _ _ _ _ _ _ _ _ _ _ _ _ _ _ _ _ _ _ _ _ _ _ _ _ _ _ _ _ _ _ _ _ _ _ _ _ _ _ _ _ _ _ _ 127 w1 _ a hb b0 b1 b2 b3 b4' (by omega) (by omega) hA HA.out h0 p2 p7 hi7 HB.out hm6) jumps_less
 · intro l a' w' hJ
   obtain ⟨t, v9, v12, u13, u14, u15, u16, u17, u18, u19, u20, u21, u22, u23, u24, u25, u26, u27, u28, u29, u30, u31, u32, u33, u34, u35, u36, u37, u38, u39, u40, u41, u42, u43, u44, u45, u46, u47, u48, u49, u50, u51, u52, u53, u54, u55, u56, u57, u58, u59, u60, u61, u62, u63, u64, u65, u66, u67, u68, u69, u70, u71, u72, u73, u74, u75, u76, u77, rfl, hb, b0, b1, b2, b3, b4, ht1, ht2, hl⟩ := hJ
   rcases hl with ⟨rfl, rfl⟩ | ⟨rfl, rfl, ht3⟩ | ⟨rfl, rfl⟩
   · refine ⟨behind Try.f148 1, rfl, ?_⟩
     by_cases hlt : m < t
     · obtain ⟨j, rfl⟩ : ∃ j, t = j + 1 := ⟨t - 1, by omega⟩
       rw [show ((j + 1 : Nat) : Int) - 1 = (j : Int) by omega]
       rw [show 128 - (j + 1) = 127 - j by omega] at b0 b4
       rw [show ldM 1 ({ tmps := #[.int .i64 (p : Int), .agg (zb 128 a), .agg (zb 64 b), undef, .pointer (some ⟨w.heap.size, 0, none⟩), .pointer (some ⟨w.heap.size + 1, 0, none⟩), .pointer (some ⟨w.heap.size + 1 + 1, 0, none⟩), .pointer (some ⟨w.heap.size + 1 + 1 + 1, 0, none⟩), .pointer (some ⟨w.heap.size + 1 + 1 + 1 + 1, 0, none⟩), v9, .int .i64 (m : Int), .int .u8 (inv : Int), .int .i64 (j : Int), u13, u14, u15, u16, u17, u18, u19, u20, u21, u22, u23, u24, u25, u26, u27, u28, u29, u30, u31, u32, u33, u34, u35, u36, u37, u38, u39, u40, u41, u42, u43, u44, u45, u46, u47, u48, u49, u50, u51, u52, u53, u54, u55, u56, u57, u58, u59, u60, u61, u62, u63, u64, u65, u66, u67, u68, u69, u70, u71, u72, u73, u74, u75, u76, u77], defers := [] } : Act) = 3 * (j + 1) + 2 by simp [ldM, intOf] <;> omega]
       by_cases h0 : dS p inv m b a (127 - j) j = 0
       · exact behind_tail rfl (ld_zero p m inv a b w v9 u13 u14 u15 u16 u17 u18 u19 u20 u21 u22 u23 u24 u25 u26 u27 u28 u29 u30 u31 u32 u33 u34 u35 u36 u37 u38 u39 u40 u41 u42 u43 u44 u45 u46 u47 u48 u49 u50 u51 u52 u53 u54 u55 u56 u57 u58 u59 u60 u61 u62 u63 u64 u65 u66 u67 u68 u69 u70 u71 u72 u73 u74 u75 u76 u77 j w' _ _ hb b0 b1 b2 b3 b4 (by omega) (by omega) rfl (dS_lt (by omega) HA.out _) h0)
       · exact behind_tail rfl (ld_take p m inv a b w v9 u13 u14 u15 u16 u17 u18 u19 u20 u21 u22 u23 u24 u25 u26 u27 u28 u29 u30 u31 u32 u33 u34 u35 u36 u37 u38 u39 u40 u41 u42 u43 u44 u45 u46 u47 u48 u49 u50 u51 u52 u53 u54 u55 u56 u57 u58 u59 u60 u61 u62 u63 u64 u65 u66 u67 u68 u69 u70 u71 u72 u73 u74 u75 u76 u77 j w' _ _ hb b0 b1 b2 b3 b4 (by omega) (by omega) rfl (dS_lt (by omega) HA.out _) h0 p2 p7 hi7 HB.out hm6)
     · have e : t = m := by omega
       subst e
       rw [show ldM 1 ({ tmps := #[.int .i64 (p : Int), .agg (zb 128 a), .agg (zb 64 b), undef, .pointer (some ⟨w.heap.size, 0, none⟩), .pointer (some ⟨w.heap.size + 1, 0, none⟩), .pointer (some ⟨w.heap.size + 1 + 1, 0, none⟩), .pointer (some ⟨w.heap.size + 1 + 1 + 1, 0, none⟩), .pointer (some ⟨w.heap.size + 1 + 1 + 1 + 1, 0, none⟩), v9, .int .i64 (t : Int), .int .u8 (inv : Int), .int .i64 ((t : Int) - 1), u13, u14, u15, u16, u17, u18, u19, u20, u21, u22, u23, u24, u25, u26, u27, u28, u29, u30, u31, u32, u33, u34, u35, u36, u37, u38, u39, u40, u41, u42, u43, u44, u45, u46, u47, u48, u49, u50, u51, u52, u53, u54, u55, u56, u57, u58, u59, u60, u61, u62, u63, u64, u65, u66, u67, u68, u69, u70, u71, u72, u73, u74, u75, u76, u77], defers := [] } : Act) = 3 * t + 2 by simp [ldM, intOf] <;> omega]
       exact ld_stop p t inv a b w v9 u13 u14 u15 u16 u17 u18 u19 u20 u21 u22 u23 u24 u25 u26 u27 u28 u29 u30 u31 u32 u33 u34 u35 u36 u37 u38 u39 u40 u41 u42 u43 u44 u45 u46 u47 u48 u49 u50 u51 u52 u53 u54 u55 u56 u57 u58 u59 u60 u61 u62 u63 u64 u65 u66 u67 u68 u69 u70 u71 u72 u73 u74 u75 u76 u77 w' _ hb b0 b1 b2 b3 b4 ht2
   · refine ⟨behind Try.f148 2, rfl, ?_⟩
     rw [show ldM 2 ({ tmps := #[.int .i64 (p : Int), .agg (zb 128 a), .agg (zb 64 b), undef, .pointer (some ⟨w.heap.size, 0, none⟩), .pointer (some ⟨w.heap.size + 1, 0, none⟩), .pointer (some ⟨w.heap.size + 1 + 1, 0, none⟩), .pointer (some ⟨w.heap.size + 1 + 1 + 1, 0, none⟩), .pointer (some ⟨w.heap.size + 1 + 1 + 1 + 1, 0, none⟩), v9, .int .i64 (m : Int), .int .u8 (inv : Int), .int .i64 (t : Int), u13, u14, u15, u16, u17, u18, u19, u20, u21, u22, u23, u24, u25, u26, u27, u28, u29, u30, u31, u32, u33, u34, u35, u36, u37, u38, u39, u40, u41, u42, u43, u44, u45, u46, u47, u48, u49, u50, u51, u52, u53, u54, u55, u56, u57, u58, u59, u60, u61, u62, u63, u64, u65, u66, u67, u68, u69, u70, u71, u72, u73, u74, u75, u76, u77], defers := [] } : Act) = 3 * (t + 1) + 1 by simp [ldM, intOf] <;> omega]
     exact ld_next p m inv a b w v9 u13 u14 u15 u16 u17 u18 u19 u20 u21 u22 u23 u24 u25 u26 u27 u28 u29 u30 u31 u32 u33 u34 u35 u36 u37 u38 u39 u40 u41 u42 u43 u44 u45 u46 u47 u48 u49 u50 u51 u52 u53 u54 u55 u56 u57 u58 u59 u60 u61 u62 u63 u64 u65 u66 u67 u68 u69 u70 u71 u72 u73 u74 u75 u76 u77 t w' _ hb b0 b1 b2 b3 b4 ht1 ht3
   · refine ⟨behind Try.f148 0, rfl, ?_⟩
     exact ld_done p t inv a b w v9 u13 u14 u15 u16 u17 u18 u19 u20 u21 u22 u23 u24 u25 u26 u27 u28 u29 u30 u31 u32 u33 u34 u35 u36 u37 u38 u39 u40 u41 u42 u43 u44 u45 u46 u47 u48 u49 u50 u51 u52 u53 u54 u55 u56 u57 u58 u59 u60 u61 u62 u63 u64 u65 u66 u67 u68 u69 u70 u71 u72 u73 u74 u75 u76 u77 _ w' _ _ _ hb b0 b1 b2 b3 b4 _ rfl
end Go.Proofs.Ytelgefgphhebnaa
end
section
namespace Go.Proofs.Ytelgefgphhebnaa
open Go.RowKit
set_option linter.unusedVariables false
set_option linter.unusedSimpArgs false
attribute [local irreducible] deg invN dS qS stp stpr quoP resP
theorem splice_cut (a g : Nat → Nat) (hg : ∀ k, 64 ≤ k → g k = 0) : splice (bl 128 g) 0 (bl 64 a) = bl 128 (cut a) := by
 unfold splice
 apply List.ext_getElem?
 intro i
 by_cases h : i < 64
 · rw [List.take_zero, List.nil_append, List.getElem?_append_left (by rw [zl]; exact h)]
   have e1 := bcells_get (f := a) h
   have e2 := bcells_get (f := cut a) (show i < 128 by omega)
   simp only [List.getElem?_toArray] at e1 e2
   rw [e1, e2, cut_in a h]
 · rw [List.take_zero, List.nil_append, List.getElem?_append_right (by rw [zl]; omega), zl, List.getElem?_drop]
   by_cases h2 : i < 128
   · have e1 := bcells_get (f := g) (show 0 + 64 + (i - 64) < 128 by omega)
     have e2 := bcells_get (f := cut a) h2
     simp only [List.getElem?_toArray] at e1 e2
     rw [e1, e2, zcz a (by omega), hg _ (by omega)]
   · rw [List.getElem?_eq_none (by rw [zl]; omega), List.getElem?_eq_none (by rw [zl]; omega)]
theorem wp_copy_splice {P : Program} {o : Oper} {a : Act} {w : World} {K : Act → World → Prop} {Q : Exit → Act → World → Prop} (hgd : o.guard = none) (d s : Operand) (dT sT : TypeId)
 (ho : o.op = .call { callee := .builtin .copy, args := #[d, s], argTypes := #[dT, sT] }) (elem : TypeId) (hu : P.underlying dT = some (.slice elem)) (hsz : (P.info? elem).map (·.size) = some 1)
 (dp sp : Option Addr) (dLen dCap sLen sCap : Nat) (hd : a.eval d = .slice dp dLen dCap) (hs : a.eval s = .slice sp sLen sCap)
 (g off : Nat) (cur : List Value) (t : TypeId) (hg : w.heap[g]? = some (.cells cur.toArray t (0, 0))) (cs : List Value) (hn : cs.length = Nat.min sLen dLen)
 (hpos : 0 < cs.length → dp = some ⟨g, off, none⟩ ∧ ∃ ad, sp = some ad ∧ ∀ j v, cs[j]? = some v → w.cell? (ad.add j) = some v)
 (hfit : off + cs.length ≤ cur.length) (h1 : ∀ v ∈ cs, v.oneCell' = true) (B : Nat) (w0 : World) (hb : Below B w0 w) (hBg : B ≤ g)
 (h : ∀ w', Hid (w'.heap[g]? = some (.cells (splice cur off cs).toArray t (0, 0))) → Below B w0 w' → K (a.put o.dst (goInt cs.length)) w') : Oper.wp P o a w K Q := by
 have := step_copy_splice (P := P) (ops := #[]) (K := K) (Q := Q) (E := True) hgd d s dT sT ho elem hu hsz dp sp dLen dCap sLen sCap hd hs g off cur t hg cs hn hpos hfit h1 B w0 hb hBg h
 rwa [if_pos (by simp [Region.wanted, hgd])] at this
set_option maxRecDepth 100000 in
set_option maxHeartbeats 3200000 in
theorem quotientAndRest_any (p : Nat) (a b : Nat → Nat) (w : World) (hp : p = 2 ∨ p = 3 ∨ p = 5 ∨ p = 7) (ha : ∀ k, k < 64 → a k < p) (hbp : ∀ k, k < 64 → b k < p) (hd : 0 ≤ deg b) :
 Calls Try.prog 115 #[.int .i64 (p : Int), .agg (zb 64 a), .agg (zb 64 b)] w fun e w' => e = .returned (.tuple #[.agg (zb 64 (quoP p a b)), .agg (zb 64 (resP p a b))]) ∧ Below w.heap.size w w' := by
 obtain ⟨m, hm⟩ : ∃ m : Nat, deg b = (m : Int) := ⟨(deg b).toNat, by omega⟩
 obtain ⟨hm6, hbm, _⟩ := deg_top hm
 have p0 : 0 < p := by omega
 have HL := Lib.hid (fun W => longDivision_any p m (cut a) b W hp (fun k _ => cut_all p0 ha k) hbp hm hbm hm6)
 have HQ := Lib.hid (quoP_at (p := p) (a := a) hm)
 have HR := Lib.hid (resP_at (p := p) (a := a) hm)
 clear hm hd ha hbp
 go_enter Try.func115, Try.ntmps115
 go_upto_region 2 with (fail)
 rw [← zero128, ← z64]
 obtain ⟨wo, hwo⟩ : ∃ wo : World, wo = (((((w.alloc (.cells (zb 64 a) 28)).alloc (.cells (zb 64 b) 28)).alloc (.cells (zb 64 fun _ => 0) 28)).alloc (.cells (zb 64 fun _ => 0) 28)).alloc (.cells (zb 128 fun _ => 0) 151)) := ⟨_, rfl⟩
 have b0 : Blk wo (w.heap.size) 64 28 a := by subst hwo; have := (((((Blk.new w 64 28 a).alloc (.cells (zb 64 b) 28)).alloc (.cells (zb 64 fun _ => 0) 28)).alloc (.cells (zb 64 fun _ => 0) 28)).alloc (.cells (zb 128 fun _ => 0) 151)); simpa using this
 have b1 : Blk wo (w.heap.size + 1) 64 28 b := by subst hwo; have := ((((Blk.new (w.alloc (.cells (zb 64 a) 28)) 64 28 b).alloc (.cells (zb 64 fun _ => 0) 28)).alloc (.cells (zb 64 fun _ => 0) 28)).alloc (.cells (zb 128 fun _ => 0) 151)); simpa using this
 have b2 : Blk wo (w.heap.size + 1 + 1) 64 28 (fun _ => 0) := by subst hwo; have := (((Blk.new ((w.alloc (.cells (zb 64 a) 28)).alloc (.cells (zb 64 b) 28)) 64 28 (fun _ => 0)).alloc (.cells (zb 64 fun _ => 0) 28)).alloc (.cells (zb 128 fun _ => 0) 151)); simpa using this
 have b3 : Blk wo (w.heap.size + 1 + 1 + 1) 64 28 (fun _ => 0) := by subst hwo; have := ((Blk.new (((w.alloc (.cells (zb 64 a) 28)).alloc (.cells (zb 64 b) 28)).alloc (.cells (zb 64 fun _ => 0) 28)) 64 28 (fun _ => 0)).alloc (.cells (zb 128 fun _ => 0) 151)); simpa using this
 have b4 : Blk wo (w.heap.size + 1 + 1 + 1 + 1) 128 151 (fun _ => 0) := by subst hwo; have := (Blk.new ((((w.alloc (.cells (zb 64 a) 28)).alloc (.cells (zb 64 b) 28)).alloc (.cells (zb 64 fun _ => 0) 28)).alloc (.cells (zb 64 fun _ => 0) 28)) 128 151 (fun _ => 0)); simpa using this
 have hb : Below w.heap.size w wo := by subst hwo; exact ((((((Below.refl _ _).alloc (Nat.le_refl _) _).alloc (by simp) _).alloc (by simp; omega) _).alloc (by simp; omega) _).alloc (by simp; omega) _)
 rw [← hwo]
 clear hwo
 have lt_b0 : (w.heap.size) < wo.heap.size := b0.lt
 have lt_b1 : (w.heap.size + 1) < wo.heap.size := b1.lt
 have lt_b2 : (w.heap.size + 1 + 1) < wo.heap.size := b2.lt
 have lt_b3 : (w.heap.size + 1 + 1 + 1) < wo.heap.size := b3.lt
 have lt_b4 : (w.heap.size + 1 + 1 + 1 + 1) < wo.heap.size := b4.lt
 have hbase : w.heap.size ≤ wo.heap.size := hb.size
 refine zq Try.mixed (by kernel_rfl) (by kernel_rfl) (fun v => by (simp only [frL, Act.put, pA, pB, pC, Nat.reduceAdd, Nat.zero_add]; exact rfl))
  (fun L v wx => Below w.heap.size w wx ∧ wo.heap.size ≤ wx.heap.size ∧ Blk wx (w.heap.size) 64 28 (a) ∧ Blk wx (w.heap.size + 1) 64 28 (b) ∧ Blk wx (w.heap.size + 1 + 1) 64 28 (fun _ => 0) ∧ Blk wx (w.heap.size + 1 + 1 + 1) 64 28 (fun _ => 0) ∧ (∃ g, Blk wx (w.heap.size + 1 + 1 + 1 + 1) 128 151 (g)) ∧ (L 2 = false → Blk wx (w.heap.size + 1 + 1 + 1 + 1) 128 151 (fun _ => 0)) ∧ (L 2 = true → Blk wx (w.heap.size + 1 + 1 + 1 + 1) 128 151 (cut a)) ∧ (L 0 = true → v 0 = (.slice (some ⟨w.heap.size + 1 + 1 + 1 + 1, 0, none⟩) 128 128)) ∧ (L 1 = true → v 1 = (.slice (some ⟨w.heap.size, 0, none⟩) 64 64)) ∧ (L 2 = true → v 2 = (goInt ((64 : Nat) : Int)))) ?_ ?_ ?_
 · intro v hv0
   exact ⟨hb.drew, Nat.le_refl _, b0.drew, b1.drew, b2.drew, b3.drew, ⟨_, b4.drew⟩, (fun _ => b4.drew), (fun h => by cases h), (fun h => by cases h), (fun h => by cases h), (fun h => by cases h)⟩
 · refine (.cons rfl ?_ (.cons rfl ?_ (.cons rfl ?_ (.nil _))))
   all_goals intro L v wx hd hn ⟨hB, hz, s0, s1, s2, s3, x4, q4, n4, h0, h1, h2⟩ K hK
   · go_wp2_with fail
     exact hK _ (.slice (some ⟨w.heap.size + 1 + 1 + 1 + 1, 0, none⟩) 128 128) _ (by simp only [Act.put, pA, pB, pC ]) ⟨hB, hz, s0, s1, s2, s3, x4, q4, n4, (fun _ => rfl), h1, h2⟩
   · go_wp2_with fail
     exact hK _ (.slice (some ⟨w.heap.size, 0, none⟩) 64 64) _ (by simp only [Act.put, pA, pB, pC ]) ⟨hB, hz, s0, s1, s2, s3, x4, q4, n4, h0, (fun _ => rfl), h2⟩
   · have e0 := h0 (zdq hd 0 rfl)
     have e1 := h1 (zdq hd 1 rfl)
     obtain ⟨gz, hk, hgz⟩ : ∃ g, Blk wx (w.heap.size + 1 + 1 + 1 + 1) 128 151 g ∧ ∀ k, 64 ≤ k → g k = 0 := by
      cases hL : L 2 with
      | false => exact ⟨_, q4 hL, fun _ _ => rfl⟩
      | true => exact ⟨_, n4 hL, fun k hk => zcz a hk⟩
     have hg : wx.heap[w.heap.size + 1 + 1 + 1 + 1]? = some (.cells (bl 128 gz).toArray 151 (0, 0)) := by unfold Blk at hk; exact hk
     refine wp_copy_splice rfl _ _ 152 152 rfl 5 Try.underlying152 Try.size5 _ _ _ _ _ _ e0 e1 (w.heap.size + 1 + 1 + 1 + 1) 0 (bl 128 gz) 151 hg (bl 64 a) (by rw [zl]; rfl) (fun _ => ⟨rfl, _, rfl, fun j v hv => by rw [addr_zero_add]; have := s0.range j v hv; rwa [Nat.zero_add] at this⟩) (by rw [zl, zl]; omega) bl_one (w.heap.size + 1 + 1 + 1 + 1) wx (Below.refl _ _) (Nat.le_refl _) ?_
     intro wy hyg hy
     have hnew : Blk wy (w.heap.size + 1 + 1 + 1 + 1) 128 151 (cut a) := by unfold Blk; rw [hyg.out, splice_cut a gz hgz]
     rw [zl]
     exact hK _ (goInt ((64 : Nat) : Int)) _ (by simp only [Act.put, pA, pB, pC, e0, e1]) ⟨hB.trans (hy.mono (by omega)), (Nat.le_trans hz hy.size), (s0).below hy (by omega), (s1).below hy (by omega), (s2).below hy (by omega), (s3).below hy (by omega), ⟨_, hnew⟩, (fun h => absurd h (by simp [setL])), (fun _ => hnew), h0, h1, (fun _ => rfl)⟩
 · intro L v wx hL ⟨hB, hz, s0, s1, s2, s3, x4, q4, n4, h0, h1, h2⟩
   have r4 := n4 (hL 2 (by decide))
   have e0 := h0 (hL 0 (by decide))
   have e1 := h1 (hL 1 (by decide))
   have e2 := h2 (hL 2 (by decide))
   clear hL x4 q4 n4 h0 h1 h2
   simp only [Exit.then, e0, e1, e2]
   clear e0 e1 e2
   replace hb := hB
   replace b1 := s1
   replace b2 := s2
   replace b3 := s3
   replace b4 := r4
   clear hB s1 s2 s3 r4 hz
   have hx10 : ∀ w1 : World, Blk ((w1.alloc (.cells (zb 128 fun _ => 0) 151)).alloc (.cells (zb 64 fun _ => 0) 28)) (w1.heap.size + 1) 64 28 (fun _ => 0) := fun w1 => by
    have := Blk.new (w1.alloc (.cells (zb 128 fun _ => 0) 151)) 64 28 (fun _ => 0)
    simpa using this
   have HX := Lib.hid hx10
   clear hx10
   go_upto_region 4 with (first | refine zlb rfl 151 _ rfl _ rfl 128 151 _ (b4) 5 Try.underlying151 Try.size151 ?_ | refine zlb rfl 28 _ rfl _ rfl 64 28 _ (b1) 5 Try.underlying28 Try.size28 ?_ | (go_at_call 148; refine (HL.out _).mono ?_; rintro e w1 ⟨rfl, h1⟩; rw [← HQ.out, ← HR.out]) | (rw [← zero128, ← z64]; refine wpList_store_blk rfl 151 _ _ rfl _ 128 (quoP p a b) rfl rfl 151 _ ((Blk.new w1 128 151 (fun _ => 0)).alloc _) Try.size151 ?_) | (refine wpList_store_blk rfl 28 _ _ rfl _ 64 (resP p a b) rfl rfl 28 _ ((HX.out w1).rowOther (by omega)) Try.size28 ?_))
   have a9 := (((Blk.new w1 128 151 (fun _ => 0)).alloc (.cells (zb 64 fun _ => 0) 28)).row (quoP p a b)).rowOther (k := w1.heap.size + 1) (cs := zb 64 (resP p a b)) (by omega)
   have a10 := ((HX.out w1).rowOther (k := w1.heap.size) (cs := zb 128 (quoP p a b)) (by omega)).row (resP p a b)
   have hb4 := zr (zr (((Below.refl w1.heap.size w1).alloc (Nat.le_refl _) (.cells (zb 128 fun _ => 0) 151)).alloc (by simp) (.cells (zb 64 fun _ => 0) 28)) (Nat.le_refl _) (zb 128 (quoP p a b))) (show w1.heap.size ≤ w1.heap.size + 1 by omega) (zb 64 (resP p a b))
   obtain ⟨w4, hw4⟩ : ∃ w4 : World, w4 = (((w1.alloc (.cells (zb 128 fun _ => 0) 151)).alloc (.cells (zb 64 fun _ => 0) 28)).setRow w1.heap.size (zb 128 (quoP p a b))).setRow (w1.heap.size + 1) (zb 64 (resP p a b)) := ⟨_, rfl⟩
   rw [← hw4] at a9 a10 hb4 ⊢
   clear hw4
   replace b2 := b2.zw h1
   replace b3 := b3.zw h1
   have hl3 := b3.lt
   replace b2 := b2.zw hb4
   replace b3 := b3.zw hb4
   replace hb := (hb.trans (h1.mono hb.size))
   replace hb := hb.trans (hb4.mono hb.size)
   obtain ⟨n9, hn9⟩ : ∃ n9, n9 = w1.heap.size := ⟨_, rfl⟩
   rw [← hn9] at a9 a10 hl3 ⊢
   clear hn9 hb4 h1 b1 b4
   have hat := fun (W : World) (a : Option Addr) => run_arrayAt (P := Try.prog) (w := W) 28 5 64 a 64 128 Try.underlying28 (by omega)
   have lt_a9 : (n9) < w4.heap.size := a9.lt
   have lt_a10 : (n9 + 1) < w4.heap.size := a10.lt
   have lt_b2 : (w.heap.size + 1 + 1) < w4.heap.size := b2.lt
   have lt_b3 : (w.heap.size + 1 + 1 + 1) < w4.heap.size := b3.lt
   have hbase : w.heap.size ≤ w4.heap.size := hb.size
   refine zq Try.mixed (by kernel_rfl) (by kernel_rfl) (fun v => by (simp only [frL, Act.put, pA, pB, pC, Nat.reduceAdd, Nat.zero_add]; exact rfl))
    (fun L v wx => Below w.heap.size w wx ∧ w4.heap.size ≤ wx.heap.size ∧ Blk wx (n9) 128 151 (quoP p a b) ∧ Blk wx (n9 + 1) 64 28 (resP p a b) ∧ (∃ g, Blk wx (w.heap.size + 1 + 1) 64 28 (g)) ∧ (L 4 = false → Blk wx (w.heap.size + 1 + 1) 64 28 (fun _ => 0)) ∧ (L 4 = true → Blk wx (w.heap.size + 1 + 1) 64 28 (quoP p a b)) ∧ (∃ g, Blk wx (w.heap.size + 1 + 1 + 1) 64 28 (g)) ∧ (L 5 = false → Blk wx (w.heap.size + 1 + 1 + 1) 64 28 (fun _ => 0)) ∧ (L 5 = true → Blk wx (w.heap.size + 1 + 1 + 1) 64 28 (resP p a b)) ∧ (L 0 = true → v 0 = (.slice (some ⟨n9, 0, none⟩) 64 128)) ∧ (L 1 = true → v 1 = (.pointer (some ⟨n9, 0, none⟩) )) ∧ (L 2 = true → v 2 = (.agg (zb 64 (quoP p a b)))) ∧ (L 3 = true → v 3 = (.agg (zb 64 (resP p a b))))) ?_ ?_ ?_
   · intro v hv0
     exact ⟨hb.drew, Nat.le_refl _, a9.drew, a10.drew, ⟨_, b2.drew⟩, (fun _ => b2.drew), (fun h => by cases h), ⟨_, b3.drew⟩, (fun _ => b3.drew), (fun h => by cases h), (fun h => by cases h), (fun h => by cases h), (fun h => by cases h), (fun h => by cases h)⟩
   · refine (.cons rfl ?_ (.cons rfl ?_ (.cons rfl ?_ (.cons rfl ?_ (.cons rfl ?_ (.cons rfl ?_ (.nil _)))))))
     all_goals intro L v wx hd hn ⟨hB, hz, s0, s1, x2, q2, n2, x3, q3, n3, h0, h1, h2, h3⟩ K hK
     · go_wp2_with fail
       exact hK _ (.slice (some ⟨n9, 0, none⟩) 64 128) _ (by simp only [Act.put, pA, pB, pC ]) ⟨hB, hz, s0, s1, x2, q2, n2, x3, q3, n3, (fun _ => rfl), h1, h2, h3⟩
     · have e0 := h0 (zdq hd 0 rfl)
       go_wp2_with fail
       exact hK _ (.pointer (some ⟨n9, 0, none⟩) ) _ (by simp only [Act.put, pA, pB, pC, e0]) ⟨hB, hz, s0, s1, x2, q2, n2, x3, q3, n3, h0, (fun _ => rfl), h2, h3⟩
     · have e1 := h1 (zdq hd 1 rfl)
       refine wp_load_mid 28 _ rfl _ (0) e1 _ _ (s0.pre (m := 64) (by omega)) Try.underlying28 rfl (by rw [zl]; exact Try.size28) ?_
       exact hK _ _ _ rfl ⟨hB, hz, s0, s1, x2, q2, n2, x3, q3, n3, h0, h1, (fun _ => rfl), h3⟩
     · refine wp_load_blk 28 _ rfl _ rfl 64 28 _ s1 _ Try.underlying28 Try.size28 ?_
       exact hK _ _ _ rfl ⟨hB, hz, s0, s1, x2, q2, n2, x3, q3, n3, h0, h1, h2, (fun _ => rfl)⟩
     · have e2 := h2 (zdq hd 2 rfl)
       obtain ⟨gz, hk⟩ := x2
       refine zsb 28 _ _ rfl _ 64 (quoP p a b) rfl e2 28 gz hk Try.size28 ?_
       exact hK _ undef _ rfl ⟨zr hB (by omega) _, (by simpa [World.setRow] using hz), (s0).rowOther (by omega), (s1).rowOther (by omega), ⟨_, hk.row _⟩, (fun h => absurd h (by simp [setL])), (fun _ => hk.row _), (let ⟨g, h⟩ := x3; ⟨g, (h).rowOther (by omega)⟩), (fun h => (q3 h).rowOther (by omega)), (fun h => (n3 h).rowOther (by omega)), h0, h1, h2, h3⟩
     · have e3 := h3 (zdq hd 3 rfl)
       obtain ⟨gz, hk⟩ := x3
       refine zsb 28 _ _ rfl _ 64 (resP p a b) rfl e3 28 gz hk Try.size28 ?_
       exact hK _ undef _ rfl ⟨zr hB (by omega) _, (by simpa [World.setRow] using hz), (s0).rowOther (by omega), (s1).rowOther (by omega), (let ⟨g, h⟩ := x2; ⟨g, (h).rowOther (by omega)⟩), (fun h => (q2 h).rowOther (by omega)), (fun h => (n2 h).rowOther (by omega)), ⟨_, hk.row _⟩, (fun h => absurd h (by simp [setL])), (fun _ => hk.row _), h0, h1, h2, h3⟩
   · intro L v wx hL ⟨hB, hz, s0, s1, x2, q2, n2, x3, q3, n3, h0, h1, h2, h3⟩
     have r2 := n2 (hL 4 (by decide))
     have r3 := n3 (hL 5 (by decide))
     have e0 := h0 (hL 0 (by decide))
     have e1 := h1 (hL 1 (by decide))
     have e2 := h2 (hL 2 (by decide))
     have e3 := h3 (hL 3 (by decide))
     clear hL x2 q2 n2 x3 q3 n3 h0 h1 h2 h3
     simp only [Exit.then, e0, e1, e2, e3]
     clear e0 e1 e2 e3
     go_wp2_with fail
     show bodyPost Try.prog Try.f115 _ .ret _ _
     refine bodyPost_ret (results_bb rfl _ _ _ 64 28 5 _ _ 64 28 5 _ rfl r2 Try.underlying28 Try.size28 rfl r3 Try.underlying28 Try.size28) rfl ⟨rfl, hB⟩
end Go.Proofs.Ytelgefgphhebnaa
end
section
namespace Go.Proofs.Ytelgefgphhebnaa
open Go.RowKit
set_option linter.unusedVariables false
set_option linter.unusedSimpArgs false
attribute [local irreducible] deg invN dS qS stp stpr quoP resP
theorem Try.noGuard28 : Try.prog.eqGuardType Try.prog.depth 28 = false := by kernel_rfl
theorem eqN_zero (f : Nat → Nat) : eqN 64 f (fun _ => 0) = decide (deg f < 0) := by
 by_cases h : deg f < 0
 · rw [eqN_iff.2 (deg_neg_iff.1 h)]; simp [h]
 · have : eqN 64 f (fun _ => 0) = false := by
    cases he : eqN 64 f (fun _ => 0) with
    | false => rfl
    | true => exact absurd (deg_neg_iff.2 (eqN_iff.1 he)) h
   rw [this]; simp [h]
end Go.Proofs.Ytelgefgphhebnaa
end
section
namespace Go.Proofs.Ytelgefgphhebnaa
open Go.RowKit
set_option linter.unusedVariables false
/-- three polynomials, one behind the other -/
def c3 (r u v : Nat → Nat) : Nat → Nat := fun k => if k < 64 then r k else if k < 128 then u (k - 64) else v (k - 128)
theorem Try.size169 : (Try.prog.info? 169).map (·.size) = some 192 := by kernel_rfl
theorem built_ru (r u : Nat → Nat) : Try.prog.built 169 [(0, .agg (zb 64 r)), (1, .agg (zb 64 u))] = some (zb 192 (c3 r u fun _ => 0)) := by
 unfold zb bl; kernel_rfl
theorem built_rv (r v : Nat → Nat) : Try.prog.built 169 [(0, .agg (zb 64 r)), (2, .agg (zb 64 v))] = some (zb 192 (c3 r (fun _ => 0) v)) := by
 unfold zb bl; kernel_rfl
theorem built_ruv (r u v : Nat → Nat) : Try.prog.built 169 [(0, .agg (zb 64 r)), (1, .agg (zb 64 u)), (2, .agg (zb 64 v))] = some (zb 192 (c3 r u v)) := by
 unfold zb bl; kernel_rfl
theorem built_one : Try.prog.built 28 [(0, .int .u8 1)] = some (zb 64 oneP) := by
 unfold zb bl; kernel_rfl
theorem Blk.mid {w : World} {b n : Nat} {t : TypeId} {f : Nat → Nat} (h : Blk w b n t f) {o m : Nat} (hm : o + m ≤ n) {g : Nat → Nat} (hg : ∀ k, k < m → f (o + k) = g k) : w.rangeAt b o (bl m g) := by
 intro j v hv
 have hj : j < m := by
  have := (List.getElem?_eq_some_iff.1 hv).1
  rwa [zl] at this
 have e : (bl m g)[j]? = some (.int .u8 (g j : Int)) := by have := bcells_get (f := g) hj; simpa using this
 rw [e] at hv
 injection hv with hv
 subst hv
 rw [← hg j hj]
 exact h.cell (by omega)
theorem c3_0 (r u v : Nat → Nat) : ∀ k, k < 64 → c3 r u v (0 + k) = r k := by intro k hk; unfold c3; rw [Nat.zero_add, if_pos hk]
theorem c3_1 (r u v : Nat → Nat) : ∀ k, k < 64 → c3 r u v (64 + k) = u k := by intro k hk; unfold c3; rw [if_neg (by omega), if_pos (by omega), show 64 + k - 64 = k by omega]
theorem c3_2 (r u v : Nat → Nat) : ∀ k, k < 64 → c3 r u v (128 + k) = v k := by intro k hk; unfold c3; rw [if_neg (by omega), if_neg (by omega), show 128 + k - 128 = k by omega]
end Go.Proofs.Ytelgefgphhebnaa
end
section
namespace Go.Proofs.Ytelgefgphhebnaa
open Go.RowKit
set_option linter.unusedVariables false
set_option linter.unusedSimpArgs false
attribute [local irreducible] deg invN dS qS stp stpr quoP resP
theorem one64 : zb 64 oneP = #[.int .u8 1, .int .u8 0, .int .u8 0, .int .u8 0, .int .u8 0, .int .u8 0, .int .u8 0, .int .u8 0, .int .u8 0, .int .u8 0, .int .u8 0, .int .u8 0, .int .u8 0, .int .u8 0, .int .u8 0, .int .u8 0, .int .u8 0, .int .u8 0, .int .u8 0, .int .u8 0, .int .u8 0, .int .u8 0, .int .u8 0, .int .u8 0, .int .u8 0, .int .u8 0, .int .u8 0, .int .u8 0, .int .u8 0, .int .u8 0, .int .u8 0, .int .u8 0, .int .u8 0, .int .u8 0, .int .u8 0, .int .u8 0, .int .u8 0, .int .u8 0, .int .u8 0, .int .u8 0, .int .u8 0, .int .u8 0, .int .u8 0, .int .u8 0, .int .u8 0, .int .u8 0, .int .u8 0, .int .u8 0, .int .u8 0, .int .u8 0, .int .u8 0, .int .u8 0, .int .u8 0, .int .u8 0, .int .u8 0, .int .u8 0, .int .u8 0, .int .u8 0, .int .u8 0, .int .u8 0, .int .u8 0, .int .u8 0, .int .u8 0, .int .u8 0] := by simp only [zb, bl, oneP]; kernel_rfl
set_option maxRecDepth 100000 in
set_option maxHeartbeats 400000 in
theorem scaled_any (p : Nat) (f : Nat → Nat) (c : Nat) (w : World) (hp1 : 2 ≤ p) (hp2 : p ≤ 7) (hf : ∀ i, i < 64 → f i < p) (hc : c < p) :
 Calls Try.prog 163 #[.int .i64 (p : Int), .agg (zb 64 f), .int .u8 (c : Int)] w fun e w' => e = .returned (.agg (zb 64 (sclP p f c))) ∧ Below w.heap.size w w' := by
 go_enter Try.func163, Try.ntmps163
 go_wp2_with fail
 have HF := Lib.hid hf; clear hf
 rw [← z64]
 go_loopw [8] (fun i wr => ∃ k : Nat, k ≤ 64 ∧ i = .int .i64 (k : Int) ∧ Below w.heap.size w wr ∧ Blk wr w.heap.size 64 28 (fun i => if i < k then sclP p f c i else f i) ∧ Blk wr (w.heap.size + 1) 64 28 (fun _ => 0)) (fun i _ => 64 - (intOf i).toNat)
 case atStart =>
  refine ⟨0, by omega, rfl, (((Below.refl _ _).alloc (Nat.le_refl _) _).alloc (by simp) _), ?_, ?_⟩
  · exact ((Blk.new w _ _ _).alloc _).congr (by simp)
  · have := (Blk.new (w.alloc (.cells (zb 64 f) 28)) 64 28 (fun _ => 0)); simpa using this
 case round =>
  obtain ⟨k, hk, rfl, hb, h0, h1⟩ := hrel
  by_cases hlt : k < 64
  · have c4 : wr.cell? ⟨w.heap.size, k, none⟩ = some (.int .u8 (f k : Int)) := by rw [h0.cell hlt]; simp
    have z4 := h0.frozen k
    have b1 : f k < p := HF.out k hlt
    obtain ⟨m1, m2⟩ := small_nat_mul hp2 b1 hc
    go_wp2_with fail
    go_roundw
    case rel =>
     refine ⟨k + 1, by omega, by go_num, (hb.setCell (by simp) _), ?_, ?_⟩
     · exact ((h0.set (v := sclP p f c k) (by unfold sclP; push_cast; rfl)).congr (fun i _ => upd_lt (a := sclP p f c) rfl i))
     · exact (h1.setOther (by simp))
    case measure => simp [intOf]; omega
  · have e : k = 64 := by omega
    subst e
    go_wp2_with (first | refine zlb rfl 28 _ rfl _ rfl 64 28 _ (h0) 5 Try.underlying28 Try.size28 ?_ | refine wpList_store_blk rfl 28 _ _ rfl _ 64 ((fun i => if i < 64 then sclP p f c i else f i)) rfl rfl 28 _ (h1) Try.size28 ?_)
    refine bodyPost_ret (zrb rfl _ _ _ 64 28 5 _ rfl (h1.row _) Try.underlying28 Try.size28) rfl ⟨?_, ?_⟩
    · rw [zbc (g := sclP p f c)]
      intro i hi; simp [hi]
    · exact below_setRow hb (by omega) _
set_option maxRecDepth 100000 in
theorem l01One_any (w : World) : Calls Try.prog 108 #[] w fun e w' => e = .returned (.agg (zb 64 oneP)) ∧ Below w.heap.size w w' := by
 go_enter Try.func108, Try.ntmps108
 go_upto_region 1 with (fail)
 rw [← z64]
 have b0 := Blk.new w 64 28 (fun _ => 0)
 go_wp2_with (first | (refine wpList_store_blk rfl 28 _ _ rfl _ 64 oneP rfl (by rw [one64]; rfl) 28 _ b0 Try.size28 ?_))
 refine bodyPost_ret (zrb rfl _ _ _ 64 28 5 _ rfl (b0.row _) Try.underlying28 Try.size28) rfl ⟨rfl, zr (zal _ _) (Nat.le_refl _) _⟩
/-- the degree of what lies in a block, and one more -/
def degAt (w : World) (b : Nat) : Nat := match w.heap[b]? with
 | some (.cells cs _ _) => (deg (fun i => match cs[i]? with
  | some (.int _ v) => v.toNat
  | _ => 0) + 1).toNat
 | _ => 0
theorem degAt_blk {w : World} {b n : Nat} {t : TypeId} {f : Nat → Nat} (h : Blk w b n t f) (hn : 64 ≤ n) : degAt w b = (deg f + 1).toNat := by
 unfold degAt
 have e : w.heap[b]? = some (.cells (zb n f) t (0, 0)) := by unfold Blk at h; exact h
 rw [e]
 simp only
 rw [deg_congr (g := f) (fun k hk => by rw [bcells_get (f := f) (show k < n by omega)]; simp)]
theorem new2 (w : World) (g0 g1 : Nat → Nat) : Blk ((w.alloc (.cells (zb 64 fun _ => 0) 28)).alloc (.cells (zb 64 fun _ => 0) 28)) (w.heap.size) 64 28 (fun _ => 0) ∧ Blk (((w.alloc (.cells (zb 64 fun _ => 0) 28)).alloc (.cells (zb 64 fun _ => 0) 28)).setRow (w.heap.size) (zb 64 g0)) (w.heap.size + 1) 64 28 (fun _ => 0) ∧ Blk ((((w.alloc (.cells (zb 64 fun _ => 0) 28)).alloc (.cells (zb 64 fun _ => 0) 28)).setRow (w.heap.size) (zb 64 g0)).setRow (w.heap.size + 1) (zb 64 g1)) (w.heap.size) 64 28 g0 ∧ Blk ((((w.alloc (.cells (zb 64 fun _ => 0) 28)).alloc (.cells (zb 64 fun _ => 0) 28)).setRow (w.heap.size) (zb 64 g0)).setRow (w.heap.size + 1) (zb 64 g1)) (w.heap.size + 1) 64 28 g1 ∧ Below w.heap.size w ((((w.alloc (.cells (zb 64 fun _ => 0) 28)).alloc (.cells (zb 64 fun _ => 0) 28)).setRow (w.heap.size) (zb 64 g0)).setRow (w.heap.size + 1) (zb 64 g1)) := by
 have e0 : Blk ((w.alloc (.cells (zb 64 fun _ => 0) 28)).alloc (.cells (zb 64 fun _ => 0) 28)) (w.heap.size) 64 28 (fun _ => 0) := by have := ((Blk.new w 64 28 (fun _ => 0)).alloc (.cells (zb 64 fun _ => 0) 28)); simpa using this
 have e1 : Blk ((w.alloc (.cells (zb 64 fun _ => 0) 28)).alloc (.cells (zb 64 fun _ => 0) 28)) (w.heap.size + 1) 64 28 (fun _ => 0) := by have := (Blk.new (w.alloc (.cells (zb 64 fun _ => 0) 28)) 64 28 (fun _ => 0)); simpa using this
 have hb : Below w.heap.size w ((w.alloc (.cells (zb 64 fun _ => 0) 28)).alloc (.cells (zb 64 fun _ => 0) 28)) := (((Below.refl w.heap.size w).alloc (Nat.le_refl _) (.cells (zb 64 fun _ => 0) 28)).alloc (by simp) (.cells (zb 64 fun _ => 0) 28))
 exact ⟨e0, (e1.rowOther (by omega)), ((e0.row g0).rowOther (by omega)), ((e1.rowOther (by omega)).row g1), (zr (zr hb (by omega) _) (by omega) _)⟩
theorem new4 (w : World) (g0 g1 g2 g3 : Nat → Nat) : Blk ((((w.alloc (.cells (zb 64 fun _ => 0) 28)).alloc (.cells (zb 64 fun _ => 0) 28)).alloc (.cells (zb 64 fun _ => 0) 28)).alloc (.cells (zb 64 fun _ => 0) 28)) (w.heap.size) 64 28 (fun _ => 0) ∧ Blk (((((w.alloc (.cells (zb 64 fun _ => 0) 28)).alloc (.cells (zb 64 fun _ => 0) 28)).alloc (.cells (zb 64 fun _ => 0) 28)).alloc (.cells (zb 64 fun _ => 0) 28)).setRow (w.heap.size) (zb 64 g0)) (w.heap.size + 1) 64 28 (fun _ => 0) ∧ Blk ((((((w.alloc (.cells (zb 64 fun _ => 0) 28)).alloc (.cells (zb 64 fun _ => 0) 28)).alloc (.cells (zb 64 fun _ => 0) 28)).alloc (.cells (zb 64 fun _ => 0) 28)).setRow (w.heap.size) (zb 64 g0)).setRow (w.heap.size + 1) (zb 64 g1)) (w.heap.size + 1 + 1) 64 28 (fun _ => 0) ∧ Blk (((((((w.alloc (.cells (zb 64 fun _ => 0) 28)).alloc (.cells (zb 64 fun _ => 0) 28)).alloc (.cells (zb 64 fun _ => 0) 28)).alloc (.cells (zb 64 fun _ => 0) 28)).setRow (w.heap.size) (zb 64 g0)).setRow (w.heap.size + 1) (zb 64 g1)).setRow (w.heap.size + 1 + 1) (zb 64 g2)) (w.heap.size + 1 + 1 + 1) 64 28 (fun _ => 0) ∧ Blk ((((((((w.alloc (.cells (zb 64 fun _ => 0) 28)).alloc (.cells (zb 64 fun _ => 0) 28)).alloc (.cells (zb 64 fun _ => 0) 28)).alloc (.cells (zb 64 fun _ => 0) 28)).setRow (w.heap.size) (zb 64 g0)).setRow (w.heap.size + 1) (zb 64 g1)).setRow (w.heap.size + 1 + 1) (zb 64 g2)).setRow (w.heap.size + 1 + 1 + 1) (zb 64 g3)) (w.heap.size) 64 28 g0 ∧ Blk ((((((((w.alloc (.cells (zb 64 fun _ => 0) 28)).alloc (.cells (zb 64 fun _ => 0) 28)).alloc (.cells (zb 64 fun _ => 0) 28)).alloc (.cells (zb 64 fun _ => 0) 28)).setRow (w.heap.size) (zb 64 g0)).setRow (w.heap.size + 1) (zb 64 g1)).setRow (w.heap.size + 1 + 1) (zb 64 g2)).setRow (w.heap.size + 1 + 1 + 1) (zb 64 g3)) (w.heap.size + 1) 64 28 g1 ∧ Blk ((((((((w.alloc (.cells (zb 64 fun _ => 0) 28)).alloc (.cells (zb 64 fun _ => 0) 28)).alloc (.cells (zb 64 fun _ => 0) 28)).alloc (.cells (zb 64 fun _ => 0) 28)).setRow (w.heap.size) (zb 64 g0)).setRow (w.heap.size + 1) (zb 64 g1)).setRow (w.heap.size + 1 + 1) (zb 64 g2)).setRow (w.heap.size + 1 + 1 + 1) (zb 64 g3)) (w.heap.size + 1 + 1) 64 28 g2 ∧ Blk ((((((((w.alloc (.cells (zb 64 fun _ => 0) 28)).alloc (.cells (zb 64 fun _ => 0) 28)).alloc (.cells (zb 64 fun _ => 0) 28)).alloc (.cells (zb 64 fun _ => 0) 28)).setRow (w.heap.size) (zb 64 g0)).setRow (w.heap.size + 1) (zb 64 g1)).setRow (w.heap.size + 1 + 1) (zb 64 g2)).setRow (w.heap.size + 1 + 1 + 1) (zb 64 g3)) (w.heap.size + 1 + 1 + 1) 64 28 g3 ∧ Below w.heap.size w ((((((((w.alloc (.cells (zb 64 fun _ => 0) 28)).alloc (.cells (zb 64 fun _ => 0) 28)).alloc (.cells (zb 64 fun _ => 0) 28)).alloc (.cells (zb 64 fun _ => 0) 28)).setRow (w.heap.size) (zb 64 g0)).setRow (w.heap.size + 1) (zb 64 g1)).setRow (w.heap.size + 1 + 1) (zb 64 g2)).setRow (w.heap.size + 1 + 1 + 1) (zb 64 g3)) := by
 have e0 : Blk ((((w.alloc (.cells (zb 64 fun _ => 0) 28)).alloc (.cells (zb 64 fun _ => 0) 28)).alloc (.cells (zb 64 fun _ => 0) 28)).alloc (.cells (zb 64 fun _ => 0) 28)) (w.heap.size) 64 28 (fun _ => 0) := by have := ((((Blk.new w 64 28 (fun _ => 0)).alloc (.cells (zb 64 fun _ => 0) 28)).alloc (.cells (zb 64 fun _ => 0) 28)).alloc (.cells (zb 64 fun _ => 0) 28)); simpa using this
 have e1 : Blk ((((w.alloc (.cells (zb 64 fun _ => 0) 28)).alloc (.cells (zb 64 fun _ => 0) 28)).alloc (.cells (zb 64 fun _ => 0) 28)).alloc (.cells (zb 64 fun _ => 0) 28)) (w.heap.size + 1) 64 28 (fun _ => 0) := by have := (((Blk.new (w.alloc (.cells (zb 64 fun _ => 0) 28)) 64 28 (fun _ => 0)).alloc (.cells (zb 64 fun _ => 0) 28)).alloc (.cells (zb 64 fun _ => 0) 28)); simpa using this
 have e2 : Blk ((((w.alloc (.cells (zb 64 fun _ => 0) 28)).alloc (.cells (zb 64 fun _ => 0) 28)).alloc (.cells (zb 64 fun _ => 0) 28)).alloc (.cells (zb 64 fun _ => 0) 28)) (w.heap.size + 1 + 1) 64 28 (fun _ => 0) := by have := ((Blk.new ((w.alloc (.cells (zb 64 fun _ => 0) 28)).alloc (.cells (zb 64 fun _ => 0) 28)) 64 28 (fun _ => 0)).alloc (.cells (zb 64 fun _ => 0) 28)); simpa using this
 have e3 : Blk ((((w.alloc (.cells (zb 64 fun _ => 0) 28)).alloc (.cells (zb 64 fun _ => 0) 28)).alloc (.cells (zb 64 fun _ => 0) 28)).alloc (.cells (zb 64 fun _ => 0) 28)) (w.heap.size + 1 + 1 + 1) 64 28 (fun _ => 0) := by have := (Blk.new (((w.alloc (.cells (zb 64 fun _ => 0) 28)).alloc (.cells (zb 64 fun _ => 0) 28)).alloc (.cells (zb 64 fun _ => 0) 28)) 64 28 (fun _ => 0)); simpa using this
 have hb : Below w.heap.size w ((((w.alloc (.cells (zb 64 fun _ => 0) 28)).alloc (.cells (zb 64 fun _ => 0) 28)).alloc (.cells (zb 64 fun _ => 0) 28)).alloc (.cells (zb 64 fun _ => 0) 28)) := (((((Below.refl w.heap.size w).alloc (Nat.le_refl _) (.cells (zb 64 fun _ => 0) 28)).alloc (by simp) (.cells (zb 64 fun _ => 0) 28)).alloc (by simp; omega) (.cells (zb 64 fun _ => 0) 28)).alloc (by simp; omega) (.cells (zb 64 fun _ => 0) 28))
 exact ⟨e0, (e1.rowOther (by omega)), ((e2.rowOther (by omega)).rowOther (by omega)), (((e3.rowOther (by omega)).rowOther (by omega)).rowOther (by omega)), ((((e0.row g0).rowOther (by omega)).rowOther (by omega)).rowOther (by omega)), ((((e1.rowOther (by omega)).row g1).rowOther (by omega)).rowOther (by omega)), ((((e2.rowOther (by omega)).rowOther (by omega)).row g2).rowOther (by omega)), ((((e3.rowOther (by omega)).rowOther (by omega)).rowOther (by omega)).row g3), (zr (zr (zr (zr hb (by omega) _) (by omega) _) (by omega) _) (by omega) _)⟩
end Go.Proofs.Ytelgefgphhebnaa
end
section
namespace Go.Proofs.Ytelgefgphhebnaa
attribute [local irreducible] deg invN
/-- the sum of t below n -/
def cs : Nat → (Nat → Int) → Int
 | 0, _ => 0
 | n + 1, t => cs n t + t n
theorem cs_z (t : Nat → Int) : cs 0 t = 0 := rfl
theorem cs_s (n : Nat) (t : Nat → Int) : cs (n + 1) t = cs n t + t n := rfl
theorem cs_congr {s t : Nat → Int} : ∀ n, (∀ i, i < n → s i = t i) → cs n s = cs n t
 | 0, _ => rfl
 | n + 1, h => by rw [cs_s, cs_s, cs_congr n (fun i hi => h i (by omega)), h n (by omega)]
theorem cs_add (s t : Nat → Int) : ∀ n, cs n (fun i => s i + t i) = cs n s + cs n t
 | 0 => rfl
 | n + 1 => by rw [cs_s, cs_s, cs_s, cs_add s t n]; omega
theorem cs_mul (c : Int) (t : Nat → Int) : ∀ n, cs n (fun i => c * t i) = c * cs n t
 | 0 => by rw [cs_z, cs_z, Int.mul_zero]
 | n + 1 => by rw [cs_s, cs_s, cs_mul c t n, Int.mul_add]
theorem cs_mulr (c : Int) (t : Nat → Int) (n : Nat) : cs n (fun i => t i * c) = cs n t * c := by
 rw [Int.mul_comm, ← cs_mul]
 exact cs_congr n (fun i _ => Int.mul_comm _ _)
theorem cs_zero {t : Nat → Int} : ∀ n, (∀ i, i < n → t i = 0) → cs n t = 0
 | 0, _ => rfl
 | n + 1, h => by rw [cs_s, cs_zero n (fun i hi => h i (by omega)), h n (by omega)]; rfl
theorem cs_front (t : Nat → Int) : ∀ n, cs (n + 1) t = t 0 + cs n (fun i => t (i + 1))
 | 0 => by rw [cs_s, cs_z, cs_z]; omega
 | n + 1 => by rw [cs_s, cs_front t n, cs_s]; omega
theorem cs_rev (t : Nat → Int) : ∀ n, cs (n + 1) t = cs (n + 1) (fun i => t (n - i))
 | 0 => rfl
 | n + 1 => by
  rw [cs_front (fun i => t (n + 1 - i)) (n + 1), cs_s, cs_rev t n, Nat.sub_zero]
  have : cs (n + 1) (fun i => t (n + 1 - (i + 1))) = cs (n + 1) (fun i => t (n - i)) := cs_congr _ (fun i _ => by rw [show n + 1 - (i + 1) = n - i by omega])
  omega
theorem cs_tri (F : Nat → Nat → Int) : ∀ n, cs (n + 1) (fun i => cs (i + 1) (fun j => F i j)) = cs (n + 1) (fun j => cs (n - j + 1) (fun l => F (j + l) j))
 | 0 => rfl
 | n + 1 => by
  rw [cs_s, cs_tri F n, cs_s (n + 1) (fun j => cs (n + 1 - j + 1) (fun l => F (j + l) j))]
  have h1 : cs (n + 1) (fun j => cs (n + 1 - j + 1) (fun l => F (j + l) j)) = cs (n + 1) (fun j => cs (n - j + 1) (fun l => F (j + l) j) + F (n + 1) j) := cs_congr _ (fun j hj => by
   rw [show n + 1 - j + 1 = (n - j + 1) + 1 by omega, cs_s, show j + (n - j + 1) = n + 1 by omega])
  have h2 : cs (n + 1 - (n + 1) + 1) (fun l => F (n + 1 + l) (n + 1)) = F (n + 1) (n + 1) := by
   rw [Nat.sub_self, cs_s, cs_z]; simp
  rw [h1, cs_add, h2, cs_s (n + 1) (fun j => F (n + 1) j)]
  have h3 : cs (n + 1) (F (n + 1)) = cs (n + 1) (fun j => F (n + 1) j) := rfl
  omega
/-- all but one of the terms are divided by p -/
theorem cs_dvd {p : Int} {t : Nat → Int} : ∀ n, (∀ i, i < n → p ∣ t i) → p ∣ cs n t
 | 0, _ => ⟨0, by rw [cs_z, Int.mul_zero]⟩
 | n + 1, h => by rw [cs_s]; exact Int.dvd_add (cs_dvd n (fun i hi => h i (by omega))) (h n (by omega))
theorem cs_but {p : Int} {t : Nat → Int} {j : Nat} : ∀ n, j < n → (∀ i, i < n → i ≠ j → p ∣ t i) → p ∣ cs n t - t j
 | 0, h, _ => by omega
 | n + 1, hj, h => by
  rw [cs_s]
  by_cases e : j = n
  · subst e
    have := cs_dvd (p := p) j (fun i hi => h i (by omega) (by omega))
    rwa [show cs j t + t j - t j = cs j t by omega]
  · have h1 := cs_but n (by omega) (fun i hi hne => h i (by omega) hne)
    rw [show cs n t + t n - t j = (cs n t - t j) + t n by omega]
    exact Int.dvd_add h1 (h n (by omega) (fun e' => e e'.symm))
/-- the product -/
def mz (f g : Nat → Int) : Nat → Int := fun k => cs (k + 1) (fun i => f i * g (k - i))
theorem mz_comm (f g : Nat → Int) : mz f g = mz g f := by
 funext k
 unfold mz
 rw [cs_rev]
 exact cs_congr _ (fun i hi => by rw [show k - (k - i) = i by omega, Int.mul_comm])
theorem mz_assoc (f g h : Nat → Int) : mz (mz f g) h = mz f (mz g h) := by
 funext k
 unfold mz
 have h1 : cs (k + 1) (fun i => cs (i + 1) (fun j => f j * g (i - j)) * h (k - i)) = cs (k + 1) (fun i => cs (i + 1) (fun j => (fun i j => f j * g (i - j) * h (k - i)) i j)) := cs_congr _ (fun i _ => by
  rw [← cs_mulr])
 rw [h1, cs_tri]
 exact cs_congr _ (fun j hj => by
  rw [← cs_mul]
  exact cs_congr _ (fun l hl => by
   show f j * g (j + l - j) * h (k - (j + l)) = _
   rw [show j + l - j = l by omega, show k - (j + l) = k - j - l by omega, Int.mul_assoc]))
def az (f g : Nat → Int) : Nat → Int := fun k => f k + g k
def sz (f g : Nat → Int) : Nat → Int := fun k => f k - g k
def cz (c : Int) (f : Nat → Int) : Nat → Int := fun k => c * f k
theorem mz_az (f g h : Nat → Int) : mz (az f g) h = az (mz f h) (mz g h) := by
 funext k
 unfold mz az
 rw [← cs_add]
 exact cs_congr _ (fun i _ => Int.add_mul _ _ _)
theorem mz_cz (c : Int) (f h : Nat → Int) : mz (cz c f) h = cz c (mz f h) := by
 funext k
 unfold mz cz
 rw [← cs_mul]
 exact cs_congr _ (fun i _ => Int.mul_assoc _ _ _)
theorem mz_sz (f g h : Nat → Int) : mz (sz f g) h = sz (mz f h) (mz g h) := by
 have : sz f g = az f (cz (-1) g) := by funext k; unfold sz az cz; omega
 rw [this, mz_az, mz_cz]
 funext k; unfold sz az cz; omega
def fin (f : Nat → Int) : Prop := ∃ N, ∀ k, N ≤ k → f k = 0
theorem fin_az {f g : Nat → Int} (hf : fin f) (hg : fin g) : fin (az f g) := by
 obtain ⟨N, h⟩ := hf; obtain ⟨M, h'⟩ := hg
 exact ⟨N + M, fun k hk => by unfold az; rw [h k (by omega), h' k (by omega)]; rfl⟩
theorem fin_cz {f : Nat → Int} (c : Int) (hf : fin f) : fin (cz c f) := by
 obtain ⟨N, h⟩ := hf
 exact ⟨N, fun k hk => by unfold cz; rw [h k hk, Int.mul_zero]⟩
theorem fin_mz {f g : Nat → Int} (hf : fin f) (hg : fin g) : fin (mz f g) := by
 obtain ⟨N, h⟩ := hf; obtain ⟨M, h'⟩ := hg
 exact ⟨N + M, fun k hk => cs_zero _ (fun i hi => by
  by_cases h1 : N ≤ i
  · rw [h i h1, Int.zero_mul]
  · rw [h' (k - i) (by omega), Int.mul_zero])⟩
/-- the same modulo p -/
def cg (p : Int) (f g : Nat → Int) : Prop := ∀ k, p ∣ f k - g k
theorem cg_refl (p : Int) (f : Nat → Int) : cg p f f := fun k => ⟨0, by omega⟩
theorem cg_symm {p : Int} {f g : Nat → Int} (h : cg p f g) : cg p g f := fun k => by
 rw [show g k - f k = -(f k - g k) by omega]; exact Int.dvd_neg.2 (h k)
theorem cg_trans {p : Int} {f g h : Nat → Int} (h1 : cg p f g) (h2 : cg p g h) : cg p f h := fun k => by
 rw [show f k - h k = (f k - g k) + (g k - h k) by omega]; exact Int.dvd_add (h1 k) (h2 k)
theorem cg_az {p : Int} {f g f' g' : Nat → Int} (h1 : cg p f f') (h2 : cg p g g') : cg p (az f g) (az f' g') := fun k => by
 unfold az
 rw [show f k + g k - (f' k + g' k) = (f k - f' k) + (g k - g' k) by omega]; exact Int.dvd_add (h1 k) (h2 k)
theorem cg_mz {p : Int} {f f' g : Nat → Int} (h1 : cg p f f') : cg p (mz f g) (mz f' g) := fun k => by
 have : mz f g k - mz f' g k = mz (sz f f') g k := by rw [mz_sz]; rfl
 rw [this]
 exact cs_dvd _ (fun i _ => by
  obtain ⟨c, hc⟩ := h1 i
  exact ⟨c * g (k - i), by unfold sz; rw [hc, Int.mul_assoc]⟩)
theorem cg_mz2 {p : Int} {f f' g g' : Nat → Int} (h1 : cg p f f') (h2 : cg p g g') : cg p (mz f g) (mz f' g') := by
 refine cg_trans (cg_mz h1) ?_
 rw [mz_comm f' g, mz_comm f' g']
 exact cg_mz h2
/-- the same modulo p and m -/
def rm (p : Int) (m f g : Nat → Int) : Prop := ∃ q, fin q ∧ cg p (sz f g) (mz q m)
theorem rm_of_cg {p : Int} {m f g : Nat → Int} (h : cg p f g) : rm p m f g := by
 refine ⟨fun _ => 0, ⟨0, fun _ _ => rfl⟩, fun k => ?_⟩
 have : mz (fun _ => 0) m k = 0 := cs_zero _ (fun i _ => Int.zero_mul _)
 rw [this, Int.sub_zero]
 exact h k
theorem rm_refl (p : Int) (m f : Nat → Int) : rm p m f f := rm_of_cg (cg_refl p f)
theorem rm_symm {p : Int} {m f g : Nat → Int} (h : rm p m f g) : rm p m g f := by
 obtain ⟨q, hq, hc⟩ := h
 refine ⟨cz (-1) q, fin_cz _ hq, fun k => ?_⟩
 rw [mz_cz]
 have := hc k
 unfold cz sz at *
 rw [show g k - f k - -1 * mz q m k = -(f k - g k - mz q m k) by omega]
 exact Int.dvd_neg.2 this
theorem rm_az {p : Int} {m f g f' g' : Nat → Int} (h1 : rm p m f f') (h2 : rm p m g g') : rm p m (az f g) (az f' g') := by
 obtain ⟨q, hq, hc⟩ := h1; obtain ⟨r, hr, hd⟩ := h2
 refine ⟨az q r, fin_az hq hr, fun k => ?_⟩
 rw [mz_az]
 have h1 := hc k
 have h2 := hd k
 unfold az sz at *
 rw [show f k + g k - (f' k + g' k) - (mz q m k + mz r m k) = (f k - f' k - mz q m k) + (g k - g' k - mz r m k) by omega]
 exact Int.dvd_add h1 h2
theorem rm_trans {p : Int} {m f g h : Nat → Int} (h1 : rm p m f g) (h2 : rm p m g h) : rm p m f h := by
 obtain ⟨q, hq, hc⟩ := h1; obtain ⟨r, hr, hd⟩ := h2
 refine ⟨az q r, fin_az hq hr, fun k => ?_⟩
 rw [mz_az]
 have h1 := hc k
 have h2 := hd k
 unfold az sz at *
 rw [show f k - h k - (mz q m k + mz r m k) = (f k - g k - mz q m k) + (g k - h k - mz r m k) by omega]
 exact Int.dvd_add h1 h2
theorem rm_mz {p : Int} {m f f' g : Nat → Int} (hg : fin g) (h : rm p m f f') : rm p m (mz f g) (mz f' g) := by
 obtain ⟨q, hq, hc⟩ := h
 refine ⟨mz q g, fin_mz hq hg, ?_⟩
 rw [← mz_sz, mz_assoc, mz_comm g m, ← mz_assoc]
 exact cg_mz hc
theorem rm_mz2 {p : Int} {m f f' g g' : Nat → Int} (hg : fin g) (hf : fin f') (h1 : rm p m f f') (h2 : rm p m g g') : rm p m (mz f g) (mz f' g') := by
 refine rm_trans (rm_mz hg h1) ?_
 rw [mz_comm f' g, mz_comm f' g']
 exact rm_mz hf h2
theorem rm_zero {p : Int} {m q : Nat → Int} (hq : fin q) : rm p m (mz q m) (fun _ => 0) :=
 ⟨q, hq, fun k => ⟨0, by show mz q m k - 0 - mz q m k = p * 0; omega⟩⟩
theorem dvd_unit {p x y v : Int} (hv : p ∣ y * v - 1) (h : p ∣ x * y) : p ∣ x := by
 obtain ⟨a, ha⟩ := hv
 obtain ⟨b, hb⟩ := h
 refine ⟨b * v - x * a, ?_⟩
 have h1 : x * (y * v - 1) = x * (p * a) := by rw [ha]
 rw [Int.mul_sub, ← Int.mul_assoc, hb, Int.mul_one] at h1
 have h2 : p * b * v = p * (b * v) := Int.mul_assoc _ _ _
 have h3 : x * (p * a) = p * (x * a) := by rw [← Int.mul_assoc, Int.mul_comm x p, Int.mul_assoc]
 rw [Int.mul_sub]
 omega
/-- a rest of a lesser degree is the only one -/
theorem rm_unique {p : Int} {m f g : Nat → Int} {d : Nat} {v : Int} (hv : p ∣ m d * v - 1) (hm : ∀ k, d < k → m k = 0) (hd : ∀ k, d ≤ k → p ∣ f k - g k) (h : rm p m f g) : cg p f g := by
 obtain ⟨q, ⟨N, hN⟩, hc⟩ := h
 have key : ∀ i n, n + i = N → ∀ k, n ≤ k → p ∣ q k := by
  intro i
  induction i with
  | zero => intro n hn k hk; rw [hN k (by omega)]; exact ⟨0, by omega⟩
  | succ i ih =>
   intro n hn k hk
   have ih' := ih (n + 1) (by omega)
   by_cases e : k = n
   · subst e
     have h1 := hc (k + d)
     have h2 := hd (k + d) (by omega)
     have h3 : p ∣ mz q m (k + d) - q k * m (k + d - k) := cs_but (t := fun i => q i * m (k + d - i)) _ (by omega) (fun i hi hne => by
      by_cases hlt : i < k
      · rw [hm (k + d - i) (by omega), Int.mul_zero]; exact ⟨0, by omega⟩
      · obtain ⟨c, hc'⟩ := ih' i (by omega)
        exact ⟨c * m (k + d - i), by rw [hc', Int.mul_assoc]⟩)
     rw [show k + d - k = d by omega] at h3
     have h4 : p ∣ q k * m d := by
      unfold sz at h1
      have := Int.dvd_sub (Int.dvd_sub h2 h1) h3
      rwa [show f (k + d) - g (k + d) - (f (k + d) - g (k + d) - mz q m (k + d)) - (mz q m (k + d) - q k * m d) = q k * m d by omega] at this
     exact dvd_unit hv h4
   · exact ih' k (by omega)
 intro k
 have h1 := hc k
 have h2 : p ∣ mz q m k := cs_dvd _ (fun i _ => by
  obtain ⟨c, hc'⟩ := key N 0 (by omega) i (by omega)
  exact ⟨c * m (k - i), by rw [hc', Int.mul_assoc]⟩)
 have := Int.dvd_add h1 h2
 unfold sz at this
 rwa [show f k - g k - mz q m k + mz q m k = f k - g k by omega] at this
/-- powers -/
def pwz (f : Nat → Int) : Nat → (Nat → Int)
 | 0 => fun k => if k = 0 then 1 else 0
 | n + 1 => mz (pwz f n) f
theorem mz_one (f : Nat → Int) : mz (fun k => if k = 0 then 1 else 0) f = f := by
 funext k
 unfold mz
 rw [cs_front, cs_zero k (fun i hi => by show (if i + 1 = 0 then (1 : Int) else 0) * _ = 0; rw [if_neg (by omega), Int.zero_mul])]
 simp
theorem fin_one : fin (fun k => if k = 0 then 1 else 0) := ⟨1, fun k hk => by show (if k = 0 then (1 : Int) else 0) = 0; rw [if_neg (by omega)]⟩
theorem fin_pwz {f : Nat → Int} (hf : fin f) : ∀ n, fin (pwz f n)
 | 0 => fin_one
 | n + 1 => fin_mz (fin_pwz hf n) hf
theorem pwz_add (f : Nat → Int) (a : Nat) : ∀ b, pwz f (a + b) = mz (pwz f a) (pwz f b)
 | 0 => by rw [Nat.add_zero, mz_comm]; exact (mz_one _).symm
 | b + 1 => by
  rw [← Nat.add_assoc]
  show mz (pwz f (a + b)) f = mz (pwz f a) (mz (pwz f b) f)
  rw [pwz_add f a b, mz_assoc]
theorem pwz_two (f : Nat → Int) : ∀ n, pwz f (2 * n) = pwz (mz f f) n
 | 0 => rfl
 | n + 1 => by
  rw [show 2 * (n + 1) = 2 * n + 1 + 1 by omega]
  show mz (mz (pwz f (2 * n)) f) f = mz (pwz (mz f f) n) (mz f f)
  rw [mz_assoc, pwz_two f n]
theorem rm_pwz {p : Int} {m f f' : Nat → Int} (hf : fin f) (hf' : fin f') (h : rm p m f f') : ∀ n, rm p m (pwz f n) (pwz f' n)
 | 0 => rm_refl _ _ _
 | n + 1 => rm_mz2 hf (fin_pwz hf' n) (rm_pwz hf hf' h n) h
/-- a polynomial's cells as a series -/
def lz (f : Nat → Nat) : Nat → Int := fun k => (cut f k : Int)
theorem fin_lz (f : Nat → Nat) : fin (lz f) := ⟨64, fun k hk => by unfold lz; rw [zcz f hk]; rfl⟩
theorem mod_dvd (p : Nat) (x : Nat) : (p : Int) ∣ ((x % p : Nat) : Int) - (x : Int) := by
 have := Nat.div_add_mod x p
 refine ⟨-((x / p : Nat) : Int), ?_⟩
 rw [Int.mul_neg, ← Int.natCast_mul]
 omega
theorem cv_mz (p : Nat) (f g : Nat → Nat) (k : Nat) : ∀ i, (p : Int) ∣ (cv p f g i k : Int) - cs i (fun j => if j ≤ k then (f j : Int) * (g (k - j) : Int) else 0)
 | 0 => ⟨0, by rw [cv_zero, cs_z]; omega⟩
 | i + 1 => by
  rw [cv_succ, cs_s]
  have h1 := mod_dvd p (cv p f g i k + (if i ≤ k then f i * g (k - i) else 0))
  have h2 := cv_mz p f g k i
  have h3 : (((if i ≤ k then f i * g (k - i) else 0 : Nat)) : Int) = (if i ≤ k then (f i : Int) * (g (k - i) : Int) else 0) := by split <;> push_cast <;> rfl
  have := Int.dvd_add h1 h2
  rw [Int.natCast_add, h3] at this
  obtain ⟨c, hc⟩ := this
  exact ⟨c, by omega⟩
theorem cs_more {t : Nat → Int} (n : Nat) : ∀ d, (∀ i, n ≤ i → i < n + d → t i = 0) → cs (n + d) t = cs n t
 | 0, _ => rfl
 | d + 1, h => by
  rw [← Nat.add_assoc, cs_s, cs_more n d (fun i h1 h2 => h i h1 (by omega)), h (n + d) (by omega) (by omega)]
  omega
/-- the coefficients of the product, modulo p -/
theorem prd_mz (p : Nat) (f g : Nat → Nat) (k : Nat) : (p : Int) ∣ (prd p f g k : Int) - mz (lz f) (lz g) k := by
 have h := cv_mz p (cut f) (cut g) k 64
 have e : cs 64 (fun j => if j ≤ k then (cut f j : Int) * (cut g (k - j) : Int) else 0) = mz (lz f) (lz g) k := by
  unfold mz lz
  by_cases hk : k + 1 ≤ 64
  · have := cs_more (t := fun j => if j ≤ k then (cut f j : Int) * (cut g (k - j) : Int) else 0) (k + 1) (64 - (k + 1)) (fun i h1 _ => by rw [if_neg (by omega)])
    rw [show k + 1 + (64 - (k + 1)) = 64 by omega] at this
    rw [this]
    exact cs_congr _ (fun i hi => by rw [if_pos (by omega)])
  · have := cs_more (t := fun j => (cut f j : Int) * (cut g (k - j) : Int)) 64 (k + 1 - 64) (fun i h1 _ => by rw [zcz f h1]; simp)
    rw [show 64 + (k + 1 - 64) = k + 1 by omega] at this
    rw [this]
    exact cs_congr _ (fun i hi => by rw [if_pos (by omega)])
 rw [e] at h
 exact h
theorem prd_cg {p : Nat} {f g : Nat → Nat} (hp : 0 < p) (h : deg f + deg g ≤ 63) : cg p (lz (prd p f g)) (mz (lz f) (lz g)) := by
 intro k
 by_cases hk : k < 64
 · have := prd_mz p f g k
   unfold lz at this ⊢
   rwa [cut_in _ hk]
 · have h0 := prd_above hp (f := f) (g := g) (k := k) (by omega)
   have := prd_mz p f g k
   unfold lz at this ⊢
   rw [zcz _ (by omega)]
   rwa [h0] at this
/-- two series of cells below p that are the same modulo p are the same -/
theorem lz_inj {p : Nat} {f g : Nat → Nat} (hf : ∀ k, k < 64 → f k < p) (hg : ∀ k, k < 64 → g k < p) (h : cg p (lz f) (lz g)) : ∀ k, k < 64 → f k = g k := by
 intro k hk
 have h1 := h k
 unfold lz at h1
 rw [cut_in _ hk, cut_in _ hk] at h1
 have h2 := hf k hk
 have h3 := hg k hk
 obtain ⟨c, hc⟩ := h1
 have : c = 0 := by
  have hp : (0 : Int) < p := by omega
  by_cases h4 : c = 0
  · exact h4
  · exfalso
    by_cases h5 : 0 < c
    · have : (p : Int) * 1 ≤ p * c := Int.mul_le_mul_of_nonneg_left (by omega) (by omega)
      omega
    · have : (p : Int) * c ≤ p * (-1) := Int.mul_le_mul_of_nonneg_left (by omega) (by omega)
      omega
 subst this
 omega
end Go.Proofs.Ytelgefgphhebnaa
end
