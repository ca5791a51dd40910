/-
  What the rows of this claim rest on: arrays of bytes, walks of the functions, plain mathematics.
-/
import Derived.Test.YtoncepgcfifgbaaZh1
section
namespace Go.Proofs.Ytoncepgcfifgbaa
open Go.RowKit
set_option linter.unusedVariables false
set_option linter.unusedSimpArgs false
attribute [local irreducible] deg invN dS qS stp stpr
/-- the first scope within a code -/
def scopeIn : Code → Option Code
 | .seq a b => match scopeIn a with
  | some c => some c
  | none => scopeIn b
 | .scope c => some c
 | _ => none
/-- what stands behind a label of the first scope -/
def behind (fn : Func) (l : Nat) : Code := (findLabel ((fn.body.bind scopeIn).getD .skip) l).getD .skip
def tailOf : Code → Code
 | .seq _ b => b
 | c => c
theorem behind_tail {fn : Func} {l : Nat} {P : Program} {Q : Exit → Act → World → Prop} {a : Act} {w : World} (hs : behind fn l = .seq .skip (tailOf (behind fn l))) (h : (tailOf (behind fn l)).wp P Q a w) : (behind fn l).wp P Q a w :=
 (congrArg (fun c : Code => c.wp P Q a w) hs).mpr (wp_seq (wp_skip h))
theorem jumps_less {J : Nat → Act → World → Prop} {M : Nat → Act → Nat} {N : Nat} {Q : Exit → Act → World → Prop} : ∀ e a w, Exit.jumps (fun l a w => J l a w ∧ M l a < N) Q e a w → Exit.jumps J Q e a w
 | .goto _, _, _, h => h.1
 | .normal, _, _, h => h
 | .exit _, _, _, h => h
 | .ret, _, _, h => h
 | .panic _, _, _, h => h
 | .outgrown, _, _, h => h
/-- the relation of the three labels: done 0, look 1, next 2 -/
def ldJ (p m inv : Nat) (a b : Nat → Nat) (w : World) (l : Nat) (a' : Act) (w' : World) : Prop :=
 ∃ (t : Nat) (v9 : Value) (v12 : Int) (u13 u14 u15 u16 u17 u18 u19 u20 u21 u22 u23 u24 u25 u26 u27 u28 u29 u30 u31 u32 u33 u34 u35 u36 u37 u38 u39 u40 u41 u42 u43 u44 u45 u46 u47 u48 u49 u50 u51 u52 u53 u54 u55 u56 u57 u58 u59 u60 u61 u62 u63 u64 u65 u66 u67 u68 u69 u70 u71 u72 u73 u74 u75 u76 u77 : Value), a' = { tmps := #[.int .i64 (p : Int), .agg (zb 128 a), .agg (zb 64 b), undef, .pointer (some ⟨w.heap.size, 0, none⟩), .pointer (some ⟨w.heap.size + 1, 0, none⟩), .pointer (some ⟨w.heap.size + 1 + 1, 0, none⟩), .pointer (some ⟨w.heap.size + 1 + 1 + 1, 0, none⟩), .pointer (some ⟨w.heap.size + 1 + 1 + 1 + 1, 0, none⟩), v9, .int .i64 (m : Int), .int .u8 (inv : Int), .int .i64 v12, u13, u14, u15, u16, u17, u18, u19, u20, u21, u22, u23, u24, u25, u26, u27, u28, u29, u30, u31, u32, u33, u34, u35, u36, u37, u38, u39, u40, u41, u42, u43, u44, u45, u46, u47, u48, u49, u50, u51, u52, u53, u54, u55, u56, u57, u58, u59, u60, u61, u62, u63, u64, u65, u66, u67, u68, u69, u70, u71, u72, u73, u74, u75, u76, u77], defers := [] } ∧ Below w.heap.size w w' ∧ Blk w' w.heap.size 128 124 (dS p inv m b a (128 - t)) ∧ Blk w' (w.heap.size + 1) 64 23 b ∧ Blk w' (w.heap.size + 1 + 1) 128 124 (fun _ => 0) ∧ Blk w' (w.heap.size + 1 + 1 + 1) 64 23 (fun _ => 0) ∧ Blk w' (w.heap.size + 1 + 1 + 1 + 1) 128 124 (qS p inv m b a (128 - t)) ∧ m ≤ t ∧ t ≤ 128 ∧ ((l = 1 ∧ v12 = (t : Int) - 1) ∨ (l = 2 ∧ v12 = (t : Int) ∧ t ≤ 127) ∨ (l = 0 ∧ t = m))
def ldM (l : Nat) (a' : Act) : Nat := 3 * (intOf (a'.tmps.getD 12 undef) + 1).toNat + (if l = 1 then 2 else if l = 2 then 1 else 0)
set_option maxRecDepth 100000 in
set_option maxHeartbeats 1600000 in
theorem ld_next (p m inv : Nat) (a b : Nat → Nat) (w : World) (v9 : Value) (u13 u14 u15 u16 u17 u18 u19 u20 u21 u22 u23 u24 u25 u26 u27 u28 u29 u30 u31 u32 u33 u34 u35 u36 u37 u38 u39 u40 u41 u42 u43 u44 u45 u46 u47 u48 u49 u50 u51 u52 u53 u54 u55 u56 u57 u58 u59 u60 u61 u62 u63 u64 u65 u66 u67 u68 u69 u70 u71 u72 u73 u74 u75 u76 u77 : Value) (t : Nat) (wr : World) (Q : Exit → Act → World → Prop) (hb : Below w.heap.size w wr) (b0 : Blk wr w.heap.size 128 124 (dS p inv m b a (128 - t))) (b1 : Blk wr (w.heap.size + 1) 64 23 b) (b2 : Blk wr (w.heap.size + 1 + 1) 128 124 (fun _ => 0)) (b3 : Blk wr (w.heap.size + 1 + 1 + 1) 64 23 (fun _ => 0)) (b4 : Blk wr (w.heap.size + 1 + 1 + 1 + 1) 128 124 (qS p inv m b a (128 - t))) (h1 : m ≤ t) (h2 : t ≤ 127) :
 (behind Try.f176 2).wp Try.prog (Exit.jumps (fun l' a' w' => ldJ p m inv a b w l' a' w' ∧ ldM l' a' < 3 * (t + 1) + 1) Q) { tmps := #[.int .i64 (p : Int), .agg (zb 128 a), .agg (zb 64 b), undef, .pointer (some ⟨w.heap.size, 0, none⟩), .pointer (some ⟨w.heap.size + 1, 0, none⟩), .pointer (some ⟨w.heap.size + 1 + 1, 0, none⟩), .pointer (some ⟨w.heap.size + 1 + 1 + 1, 0, none⟩), .pointer (some ⟨w.heap.size + 1 + 1 + 1 + 1, 0, none⟩), v9, .int .i64 (m : Int), .int .u8 (inv : Int), .int .i64 (t : Int), u13, u14, u15, u16, u17, u18, u19, u20, u21, u22, u23, u24, u25, u26, u27, u28, u29, u30, u31, u32, u33, u34, u35, u36, u37, u38, u39, u40, u41, u42, u43, u44, u45, u46, u47, u48, u49, u50, u51, u52, u53, u54, u55, u56, u57, u58, u59, u60, u61, u62, u63, u64, u65, u66, u67, u68, u69, u70, u71, u72, u73, u74, u75, u76, u77], defers := [] } wr := by
 simp only [tailOf, behind, Try.f176, Option.bind_some, scopeIn, Option.getD_some, findLabel, Nat.reduceBEq, if_true, if_false, Bool.false_eq_true, beq_self_eq_true]
 go_wp2_with fail
 go_step3
 refine ⟨⟨t, _, _, _, _, _, _, _, _, _, _, _, _, _, _, _, _, _, _, _, _, _, _, _, _, _, _, _, _, _, _, _, _, _, _, _, _, _, _, _, _, _, _, _, _, _, _, _, _, _, _, _, _, _, _, _, _, _, _, _, _, _, _, _, _, _, _, _, rfl, hb, b0, b1, b2, b3, b4, h1, by omega, Or.inl ⟨rfl, rfl⟩⟩, ?_⟩
 simp [ldM, intOf] <;> omega
set_option maxRecDepth 100000 in
set_option maxHeartbeats 1600000 in
theorem ld_stop (p m inv : Nat) (a b : Nat → Nat) (w : World) (v9 : Value) (u13 u14 u15 u16 u17 u18 u19 u20 u21 u22 u23 u24 u25 u26 u27 u28 u29 u30 u31 u32 u33 u34 u35 u36 u37 u38 u39 u40 u41 u42 u43 u44 u45 u46 u47 u48 u49 u50 u51 u52 u53 u54 u55 u56 u57 u58 u59 u60 u61 u62 u63 u64 u65 u66 u67 u68 u69 u70 u71 u72 u73 u74 u75 u76 u77 : Value) (wr : World) (Q : Exit → Act → World → Prop) (hb : Below w.heap.size w wr) (b0 : Blk wr w.heap.size 128 124 (dS p inv m b a (128 - m))) (b1 : Blk wr (w.heap.size + 1) 64 23 b) (b2 : Blk wr (w.heap.size + 1 + 1) 128 124 (fun _ => 0)) (b3 : Blk wr (w.heap.size + 1 + 1 + 1) 64 23 (fun _ => 0)) (b4 : Blk wr (w.heap.size + 1 + 1 + 1 + 1) 128 124 (qS p inv m b a (128 - m))) (h1 : m ≤ 128) :
 (behind Try.f176 1).wp Try.prog (Exit.jumps (fun l' a' w' => ldJ p m inv a b w l' a' w' ∧ ldM l' a' < 3 * m + 2) Q) { tmps := #[.int .i64 (p : Int), .agg (zb 128 a), .agg (zb 64 b), undef, .pointer (some ⟨w.heap.size, 0, none⟩), .pointer (some ⟨w.heap.size + 1, 0, none⟩), .pointer (some ⟨w.heap.size + 1 + 1, 0, none⟩), .pointer (some ⟨w.heap.size + 1 + 1 + 1, 0, none⟩), .pointer (some ⟨w.heap.size + 1 + 1 + 1 + 1, 0, none⟩), v9, .int .i64 (m : Int), .int .u8 (inv : Int), .int .i64 ((m : Int) - 1), u13, u14, u15, u16, u17, u18, u19, u20, u21, u22, u23, u24, u25, u26, u27, u28, u29, u30, u31, u32, u33, u34, u35, u36, u37, u38, u39, u40, u41, u42, u43, u44, u45, u46, u47, u48, u49, u50, u51, u52, u53, u54, u55, u56, u57, u58, u59, u60, u61, u62, u63, u64, u65, u66, u67, u68, u69, u70, u71, u72, u73, u74, u75, u76, u77], defers := [] } wr := by
 simp only [tailOf, behind, Try.f176, Option.bind_some, scopeIn, Option.getD_some, findLabel, Nat.reduceBEq, if_true, if_false, Bool.false_eq_true, beq_self_eq_true]
 go_wp2_with fail
 go_step3
 refine ⟨⟨m, _, _, _, _, _, _, _, _, _, _, _, _, _, _, _, _, _, _, _, _, _, _, _, _, _, _, _, _, _, _, _, _, _, _, _, _, _, _, _, _, _, _, _, _, _, _, _, _, _, _, _, _, _, _, _, _, _, _, _, _, _, _, _, _, _, _, _, rfl, hb, b0, b1, b2, b3, b4, by omega, by omega, Or.inr (Or.inr ⟨rfl, rfl⟩)⟩, ?_⟩
 simp [ldM, intOf]
set_option maxRecDepth 100000 in
set_option maxHeartbeats 1600000 in
theorem ld_zero (p m inv : Nat) (a b : Nat → Nat) (w : World) (v9 : Value) (u13 u14 u15 u16 u17 u18 u19 u20 u21 u22 u23 u24 u25 u26 u27 u28 u29 u30 u31 u32 u33 u34 u35 u36 u37 u38 u39 u40 u41 u42 u43 u44 u45 u46 u47 u48 u49 u50 u51 u52 u53 u54 u55 u56 u57 u58 u59 u60 u61 u62 u63 u64 u65 u66 u67 u68 u69 u70 u71 u72 u73 u74 u75 u76 u77 : Value) (j : Nat) (wr : World) (Q : Exit → Act → World → Prop) (A : Nat → Nat) (hb : Below w.heap.size w wr) (b0 : Blk wr w.heap.size 128 124 A) (b1 : Blk wr (w.heap.size + 1) 64 23 b) (b2 : Blk wr (w.heap.size + 1 + 1) 128 124 (fun _ => 0)) (b3 : Blk wr (w.heap.size + 1 + 1 + 1) 64 23 (fun _ => 0)) (b4 : Blk wr (w.heap.size + 1 + 1 + 1 + 1) 128 124 (qS p inv m b a (127 - j))) (h1 : m ≤ j) (h2 : j ≤ 127)
 (hA : A = dS p inv m b a (127 - j)) (hAp : ∀ k, k < 128 → A k < p) (h0 : A j = 0) :
 (tailOf (behind Try.f176 1)).wp Try.prog (Exit.jumps (fun l' a' w' => ldJ p m inv a b w l' a' w' ∧ ldM l' a' < 3 * (j + 1) + 2) Q) { tmps := #[.int .i64 (p : Int), .agg (zb 128 a), .agg (zb 64 b), undef, .pointer (some ⟨w.heap.size, 0, none⟩), .pointer (some ⟨w.heap.size + 1, 0, none⟩), .pointer (some ⟨w.heap.size + 1 + 1, 0, none⟩), .pointer (some ⟨w.heap.size + 1 + 1 + 1, 0, none⟩), .pointer (some ⟨w.heap.size + 1 + 1 + 1 + 1, 0, none⟩), v9, .int .i64 (m : Int), .int .u8 (inv : Int), .int .i64 (j : Int), u13, u14, u15, u16, u17, u18, u19, u20, u21, u22, u23, u24, u25, u26, u27, u28, u29, u30, u31, u32, u33, u34, u35, u36, u37, u38, u39, u40, u41, u42, u43, u44, u45, u46, u47, u48, u49, u50, u51, u52, u53, u54, u55, u56, u57, u58, u59, u60, u61, u62, u63, u64, u65, u66, u67, u68, u69, u70, u71, u72, u73, u74, u75, u76, u77], defers := [] } wr := by
 have HN := Lib.hid (show ∀ k, stp p inv m b j A k = dS p inv m b a (128 - j) k by
  intro k; rw [show 128 - j = 127 - j + 1 by omega, dS_succ, show 127 - (127 - j) = j by omega, hA])
 have HS := Lib.hid (show ∀ k, qS p inv m b a (127 - j) k = qS p inv m b a (128 - j) k by
  intro k
  rw [show 128 - j = 127 - j + 1 by omega]
  exact (qS_skip (p := p) (inv := inv) (m := m) b a (i := 127 - j) (by omega) (by rw [show 127 - (127 - j) = j by omega, ← hA]; exact h0) k).symm)
 have HAP := Lib.hid hAp
 have H0 := Lib.hid h0
 have c0 := b0.cell (i := j) (by omega)
 rw [h0] at c0
 clear hA hAp h0
 simp only [tailOf, behind, Try.f176, Option.bind_some, scopeIn, Option.getD_some, findLabel, Nat.reduceBEq, if_true, if_false, Bool.false_eq_true, beq_self_eq_true]
 go_wp2_with fail
 go_step3
 refine ⟨⟨j, _, _, _, _, _, _, _, _, _, _, _, _, _, _, _, _, _, _, _, _, _, _, _, _, _, _, _, _, _, _, _, _, _, _, _, _, _, _, _, _, _, _, _, _, _, _, _, _, _, _, _, _, _, _, _, _, _, _, _, _, _, _, _, _, _, _, _, rfl, hb, b0.congr (fun k hk => by rw [← HN.out k]; exact (stp_skip HAP.out H0.out hk).symm), b1, b2, b3, b4.congr (fun k _ => HS.out k), h1, by omega, Or.inr (Or.inl ⟨rfl, rfl, h2⟩)⟩, ?_⟩
 simp [ldM, intOf]
set_option maxRecDepth 100000 in
set_option maxHeartbeats 3200000 in
theorem ld_take (p m inv : Nat) (a b : Nat → Nat) (w : World) (v9 : Value) (u13 u14 u15 u16 u17 u18 u19 u20 u21 u22 u23 u24 u25 u26 u27 u28 u29 u30 u31 u32 u33 u34 u35 u36 u37 u38 u39 u40 u41 u42 u43 u44 u45 u46 u47 u48 u49 u50 u51 u52 u53 u54 u55 u56 u57 u58 u59 u60 u61 u62 u63 u64 u65 u66 u67 u68 u69 u70 u71 u72 u73 u74 u75 u76 u77 : Value) (j : Nat) (wr : World) (Q : Exit → Act → World → Prop) (A : Nat → Nat) (hb : Below w.heap.size w wr) (b0 : Blk wr w.heap.size 128 124 A) (b1 : Blk wr (w.heap.size + 1) 64 23 b) (b2 : Blk wr (w.heap.size + 1 + 1) 128 124 (fun _ => 0)) (b3 : Blk wr (w.heap.size + 1 + 1 + 1) 64 23 (fun _ => 0)) (b4 : Blk wr (w.heap.size + 1 + 1 + 1 + 1) 128 124 (qS p inv m b a (127 - j))) (h1 : m ≤ j) (h2 : j ≤ 127)
 (hA : A = dS p inv m b a (127 - j)) (hAp : ∀ k, k < 128 → A k < p) (h0 : A j ≠ 0) (p2 : 2 ≤ p) (p7 : p ≤ 7) (hi7 : inv < p) (hbp : ∀ k, k < 64 → b k < p) (hm6 : m < 64) :
 (tailOf (behind Try.f176 1)).wp Try.prog (Exit.jumps (fun l' a' w' => ldJ p m inv a b w l' a' w' ∧ ldM l' a' < 3 * (j + 1) + 2) Q) { tmps := #[.int .i64 (p : Int), .agg (zb 128 a), .agg (zb 64 b), undef, .pointer (some ⟨w.heap.size, 0, none⟩), .pointer (some ⟨w.heap.size + 1, 0, none⟩), .pointer (some ⟨w.heap.size + 1 + 1, 0, none⟩), .pointer (some ⟨w.heap.size + 1 + 1 + 1, 0, none⟩), .pointer (some ⟨w.heap.size + 1 + 1 + 1 + 1, 0, none⟩), v9, .int .i64 (m : Int), .int .u8 (inv : Int), .int .i64 (j : Int), u13, u14, u15, u16, u17, u18, u19, u20, u21, u22, u23, u24, u25, u26, u27, u28, u29, u30, u31, u32, u33, u34, u35, u36, u37, u38, u39, u40, u41, u42, u43, u44, u45, u46, u47, u48, u49, u50, u51, u52, u53, u54, u55, u56, u57, u58, u59, u60, u61, u62, u63, u64, u65, u66, u67, u68, u69, u70, u71, u72, u73, u74, u75, u76, u77], defers := [] } wr := by
 have HN := Lib.hid (show ∀ k, stp p inv m b j A k = dS p inv m b a (128 - j) k by
  intro k; rw [show 128 - j = 127 - j + 1 by omega, dS_succ, show 127 - (127 - j) = j by omega, hA])
 have HQ := Lib.hid (show ∀ k, upd (qS p inv m b a (127 - j)) (j - m) (A j * inv % p) k = qS p inv m b a (128 - j) k by
  intro k
  have := qS_next (p := p) (inv := inv) b a (i := 127 - j) (m := m) (by omega) k
  rw [show 127 - (127 - j) = j by omega, ← hA] at this
  rw [show 128 - j = 127 - j + 1 by omega]
  exact this)
 have HAP := Lib.hid hAp
 have HB := Lib.hid hbp
 have hjA : A j < p := hAp j (by omega)
 have c0 := b0.cell (i := j) (by omega)
 have h0' : (A j : Int) ≠ 0 := by omega
 obtain ⟨m1, m2⟩ := small_nat_mul p7 hjA hi7
 obtain ⟨τ, hτ⟩ : ∃ τ : Nat, τ = A j * inv % p := ⟨_, rfl⟩
 have hτp : τ < p := by rw [hτ]; exact Nat.mod_lt _ (by omega)
 have hτe : (A j : Int) * (inv : Int) % (p : Int) = (τ : Int) := by rw [hτ]; push_cast; rfl
 have HT := Lib.hid hτ
 have hjm : ((j : Int) - (m : Int)).toNat = j - m := by omega
 have z4 := b4.frozen (j - m)
 have c4 := b4.cell (i := j - m) (by omega)
 clear hA hAp h0 hτ hbp
 simp only [tailOf, behind, Try.f176, Option.bind_some, scopeIn, Option.getD_some, findLabel, Nat.reduceBEq, if_true, if_false, Bool.false_eq_true, beq_self_eq_true]
 go_wp2_with fail
 rw [hτe]
 simp only [show decide (j < m) = false by simp <;> omega, show ((A j : Int) == 0) = false by simp <;> omega]
 have b4q : Blk (wr.setCell ⟨w.heap.size + 1 + 1 + 1 + 1, j - m, none⟩ (.int .u8 (τ : Int))) (w.heap.size + 1 + 1 + 1 + 1) 128 124 (qS p inv m b a (128 - j)) := (b4.set rfl).congr (fun k _ => by rw [← HQ.out k, HT.out])
 have hbq : Below w.heap.size w (wr.setCell ⟨w.heap.size + 1 + 1 + 1 + 1, j - m, none⟩ (.int .u8 (τ : Int))) := hb.setCell (by simp; omega) _
 have b0q := (b0.congr (fun k _ => (stpr_zero p inv m b j A k).symm)).setOther (a := ⟨w.heap.size + 1 + 1 + 1 + 1, j - m, none⟩) (v := .int .u8 (τ : Int)) (by simp <;> omega)
 have b1q := b1.setOther (a := ⟨w.heap.size + 1 + 1 + 1 + 1, j - m, none⟩) (v := .int .u8 (τ : Int)) (by simp <;> omega)
 have b2q := b2.setOther (a := ⟨w.heap.size + 1 + 1 + 1 + 1, j - m, none⟩) (v := .int .u8 (τ : Int)) (by simp <;> omega)
 have b3q := b3.setOther (a := ⟨w.heap.size + 1 + 1 + 1 + 1, j - m, none⟩) (v := .int .u8 (τ : Int)) (by simp <;> omega)
 obtain ⟨w5, hw5⟩ : ∃ w5, w5 = wr.setCell ⟨w.heap.size + 1 + 1 + 1 + 1, j - m, none⟩ (.int .u8 (τ : Int)) := ⟨_, rfl⟩
 rw [← hw5] at b4q hbq b0q b1q b2q b3q ⊢
 clear hw5 hb b0 b1 b2 b3 b4 c0 c4 z4 hτe m1 m2 h0' hjm
 go_loopw [43] (fun c wr => ∃ i : Nat, i ≤ m + 1 ∧ c = .int .i64 (i : Int) ∧ Below w.heap.size w wr ∧ Blk wr w.heap.size 128 124 (stpr p inv m b j A i) ∧ Blk wr (w.heap.size + 1) 64 23 b ∧ Blk wr (w.heap.size + 1 + 1) 128 124 (fun _ => 0) ∧ Blk wr (w.heap.size + 1 + 1 + 1) 64 23 (fun _ => 0) ∧ Blk wr (w.heap.size + 1 + 1 + 1 + 1) 128 124 (qS p inv m b a (128 - j))) (fun c _ => m + 1 - (intOf c).toNat)
 case atStart => exact ⟨0, by omega, rfl, hbq, b0q, b1q, b2q, b3q, b4q⟩
 case round =>
  clear hbq b0q b1q b2q b3q b4q
  obtain ⟨i, hi, rfl, hb, b0, b1, b2, b3, b4⟩ := hrel
  by_cases hlt : i < m + 1
  · have v1 := HAP.out (j - m + i) (by omega)
    have v2 := HB.out i (by omega)
    have hji : ((j : Int) - (m : Int) + (i : Int)).toNat = j - m + i := by omega
    have hc : ((p - A j * inv % p : Nat) : Int) = (p : Int) - (τ : Int) := by rw [← HT.out]; omega
    have HE := Lib.hid (show ((A (j - m + i) : Int) + ((p : Int) - (τ : Int)) * (b i : Int)) % (p : Int) = (((A (j - m + i) + (p - A j * inv % p) * b i) % p : Nat) : Int) by rw [Int.natCast_emod, Int.natCast_add, Int.natCast_mul, hc])
    have m3 : 0 ≤ ((p : Int) - (τ : Int)) * (b i : Int) := Int.mul_nonneg (by omega) (by omega)
    have m4 : ((p : Int) - (τ : Int)) * (b i : Int) ≤ 42 := by
     have : ((p : Int) - (τ : Int)) * (b i : Int) ≤ 7 * 6 := Int.mul_le_mul (by omega) (by omega) (by omega) (by omega)
     omega
    clear hc
    go_wp2_with fail
    simp only [show decide ((i : Int) < (m : Int) + 1) = true by simp <;> omega]
    have lt_b0 : (w.heap.size) < wr.heap.size := b0.lt
    have lt_b1 : (w.heap.size + 1) < wr.heap.size := b1.lt
    have lt_b2 : (w.heap.size + 1 + 1) < wr.heap.size := b2.lt
    have lt_b3 : (w.heap.size + 1 + 1 + 1) < wr.heap.size := b3.lt
    have lt_b4 : (w.heap.size + 1 + 1 + 1 + 1) < wr.heap.size := b4.lt
    have hbase : w.heap.size ≤ wr.heap.size := hb.size
    refine zq Try.mixed (by kernel_rfl) (by kernel_rfl) (fun v => by (simp only [frL, Act.put, pA, pB, pC, Nat.reduceAdd, Nat.zero_add]; exact rfl))
     (fun L v wx => Below w.heap.size w wx ∧ wr.heap.size ≤ wx.heap.size ∧ (∃ g, Blk wx (w.heap.size) 128 124 (g)) ∧ (L 25 = false → Blk wx (w.heap.size) 128 124 (stpr p inv m b j A i)) ∧ (L 25 = true → Blk wx (w.heap.size) 128 124 (stpr p inv m b j A (i + 1))) ∧ Blk wx (w.heap.size + 1) 64 23 (b) ∧ Blk wx (w.heap.size + 1 + 1) 128 124 (fun _ => 0) ∧ Blk wx (w.heap.size + 1 + 1 + 1) 64 23 (fun _ => 0) ∧ Blk wx (w.heap.size + 1 + 1 + 1 + 1) 128 124 (qS p inv m b a (128 - j)) ∧ (L 0 = true → v 0 = (.int .i64 (j : Int))) ∧ (L 1 = true → v 1 = (.int .i64 (m : Int))) ∧ (L 2 = true → v 2 = (.int .i64 ((j : Int) - (m : Int)))) ∧ (L 3 = true → v 3 = (.int .i64 (i : Int))) ∧ (L 4 = true → v 4 = (.int .i64 ((j : Int) - (m : Int) + (i : Int)))) ∧ (L 5 = true → v 5 = (.int .i64 (j : Int))) ∧ (L 6 = true → v 6 = (.int .i64 (m : Int))) ∧ (L 7 = true → v 7 = (.int .i64 ((j : Int) - (m : Int)))) ∧ (L 8 = true → v 8 = (.int .i64 (i : Int))) ∧ (L 9 = true → v 9 = (.int .i64 ((j : Int) - (m : Int) + (i : Int)))) ∧ (L 10 = true → v 10 = (.pointer (some ⟨w.heap.size, j - m + i, none⟩))) ∧ (L 11 = true → v 11 = (.int .u8 (A (j - m + i) : Int))) ∧ (L 12 = true → v 12 = (.int .i64 (p : Int))) ∧ (L 13 = true → v 13 = (.int .u8 (p : Int))) ∧ (L 14 = true → v 14 = (.int .u8 (τ : Int))) ∧ (L 15 = true → v 15 = (.int .u8 ((p : Int) - (τ : Int)))) ∧ (L 16 = true → v 16 = (.int .i64 (i : Int))) ∧ (L 17 = true → v 17 = (.pointer (some ⟨w.heap.size + 1, i, none⟩))) ∧ (L 18 = true → v 18 = (.int .u8 (b i : Int))) ∧ (L 19 = true → v 19 = (.int .u8 (((p : Int) - (τ : Int)) * (b i : Int)))) ∧ (L 20 = true → v 20 = (.int .u8 ((A (j - m + i) : Int) + (((p : Int) - (τ : Int)) * (b i : Int))))) ∧ (L 21 = true → v 21 = (.int .i64 (p : Int))) ∧ (L 22 = true → v 22 = (.int .u8 (p : Int))) ∧ (L 23 = true → v 23 = (.int .u8 (((A (j - m + i) : Int) + (((p : Int) - (τ : Int)) * (b i : Int))) % (p : Int)))) ∧ (L 24 = true → v 24 = (.pointer (some ⟨w.heap.size, j - m + i, none⟩)))) ?_ ?_ ?_
    · intro v hv0
      exact ⟨hb.drew, Nat.le_refl _, ⟨_, b0.drew⟩, (fun _ => b0.drew), (fun h => by cases h), b1.drew, b2.drew, b3.drew, b4.drew, (fun h => by cases h), (fun h => by cases h), (fun h => by cases h), (fun h => by cases h), (fun h => by cases h), (fun h => by cases h), (fun h => by cases h), (fun h => by cases h), (fun h => by cases h), (fun h => by cases h), (fun h => by cases h), (fun h => by cases h), (fun h => by cases h), (fun h => by cases h), (fun h => by cases h), (fun h => by cases h), (fun h => by cases h), (fun h => by cases h), (fun h => by cases h), (fun h => by cases h), (fun h => by cases h), (fun h => by cases h), (fun h => by cases h), (fun h => by cases h), (fun h => by cases h)⟩
    · refine (.cons rfl ?_ (.cons rfl ?_ (.cons rfl ?_ (.cons rfl ?_ (.cons rfl ?_ (.cons rfl ?_ (.cons rfl ?_ (.cons rfl ?_ (.cons rfl ?_ (.cons rfl ?_ (.cons rfl ?_ (.cons rfl ?_ (.cons rfl ?_ (.cons rfl ?_ (.cons rfl ?_ (.cons rfl ?_ (.cons rfl ?_ (.cons rfl ?_ (.cons rfl ?_ (.cons rfl ?_ (.cons rfl ?_ (.cons rfl ?_ (.cons rfl ?_ (.cons rfl ?_ (.cons rfl ?_ (.cons rfl ?_ (.nil _)))))))))))))))))))))))))))
      all_goals intro L v wx hd hn ⟨hB, hz, x0, q0, n0, s1, s2, s3, s4, h0, h1, h2, h3, h4, h5, h6, h7, h8, h9, h10, h11, h12, h13, h14, h15, h16, h17, h18, h19, h20, h21, h22, h23, h24⟩ K hK
      · go_wp2_with fail
        exact hK _ (.int .i64 (j : Int)) _ (by simp only [Act.put, pA, pB, pC ]) ⟨hB, hz, x0, q0, n0, s1, s2, s3, s4, (fun _ => rfl), h1, h2, h3, h4, h5, h6, h7, h8, h9, h10, h11, h12, h13, h14, h15, h16, h17, h18, h19, h20, h21, h22, h23, h24⟩
      · go_wp2_with fail
        exact hK _ (.int .i64 (m : Int)) _ (by simp only [Act.put, pA, pB, pC ]) ⟨hB, hz, x0, q0, n0, s1, s2, s3, s4, h0, (fun _ => rfl), h2, h3, h4, h5, h6, h7, h8, h9, h10, h11, h12, h13, h14, h15, h16, h17, h18, h19, h20, h21, h22, h23, h24⟩
      · have e0 := h0 (zdq hd 0 rfl)
        have e1 := h1 (zdq hd 1 rfl)
        go_wp2_with fail
        exact hK _ (.int .i64 ((j : Int) - (m : Int))) _ (by simp only [Act.put, pA, pB, pC, e0, e1]) ⟨hB, hz, x0, q0, n0, s1, s2, s3, s4, h0, h1, (fun _ => rfl), h3, h4, h5, h6, h7, h8, h9, h10, h11, h12, h13, h14, h15, h16, h17, h18, h19, h20, h21, h22, h23, h24⟩
      · go_wp2_with fail
        exact hK _ (.int .i64 (i : Int)) _ (by simp only [Act.put, pA, pB, pC ]) ⟨hB, hz, x0, q0, n0, s1, s2, s3, s4, h0, h1, h2, (fun _ => rfl), h4, h5, h6, h7, h8, h9, h10, h11, h12, h13, h14, h15, h16, h17, h18, h19, h20, h21, h22, h23, h24⟩
      · have e2 := h2 (zdq hd 2 rfl)
        have e3 := h3 (zdq hd 3 rfl)
        go_wp2_with fail
        exact hK _ (.int .i64 ((j : Int) - (m : Int) + (i : Int))) _ (by simp only [Act.put, pA, pB, pC, e2, e3]) ⟨hB, hz, x0, q0, n0, s1, s2, s3, s4, h0, h1, h2, h3, (fun _ => rfl), h5, h6, h7, h8, h9, h10, h11, h12, h13, h14, h15, h16, h17, h18, h19, h20, h21, h22, h23, h24⟩
      · go_wp2_with fail
        exact hK _ (.int .i64 (j : Int)) _ (by simp only [Act.put, pA, pB, pC ]) ⟨hB, hz, x0, q0, n0, s1, s2, s3, s4, h0, h1, h2, h3, h4, (fun _ => rfl), h6, h7, h8, h9, h10, h11, h12, h13, h14, h15, h16, h17, h18, h19, h20, h21, h22, h23, h24⟩
      · go_wp2_with fail
        exact hK _ (.int .i64 (m : Int)) _ (by simp only [Act.put, pA, pB, pC ]) ⟨hB, hz, x0, q0, n0, s1, s2, s3, s4, h0, h1, h2, h3, h4, h5, (fun _ => rfl), h7, h8, h9, h10, h11, h12, h13, h14, h15, h16, h17, h18, h19, h20, h21, h22, h23, h24⟩
      · have e5 := h5 (zdq hd 5 rfl)
        have e6 := h6 (zdq hd 6 rfl)
        go_wp2_with fail
        exact hK _ (.int .i64 ((j : Int) - (m : Int))) _ (by simp only [Act.put, pA, pB, pC, e5, e6]) ⟨hB, hz, x0, q0, n0, s1, s2, s3, s4, h0, h1, h2, h3, h4, h5, h6, (fun _ => rfl), h8, h9, h10, h11, h12, h13, h14, h15, h16, h17, h18, h19, h20, h21, h22, h23, h24⟩
      · go_wp2_with fail
        exact hK _ (.int .i64 (i : Int)) _ (by simp only [Act.put, pA, pB, pC ]) ⟨hB, hz, x0, q0, n0, s1, s2, s3, s4, h0, h1, h2, h3, h4, h5, h6, h7, (fun _ => rfl), h9, h10, h11, h12, h13, h14, h15, h16, h17, h18, h19, h20, h21, h22, h23, h24⟩
      · have e7 := h7 (zdq hd 7 rfl)
        have e8 := h8 (zdq hd 8 rfl)
        go_wp2_with fail
        exact hK _ (.int .i64 ((j : Int) - (m : Int) + (i : Int))) _ (by simp only [Act.put, pA, pB, pC, e7, e8]) ⟨hB, hz, x0, q0, n0, s1, s2, s3, s4, h0, h1, h2, h3, h4, h5, h6, h7, h8, (fun _ => rfl), h10, h11, h12, h13, h14, h15, h16, h17, h18, h19, h20, h21, h22, h23, h24⟩
      · have e9 := h9 (zdq hd 9 rfl)
        go_wp2_with fail
        exact hK _ (.pointer (some ⟨w.heap.size, j - m + i, none⟩)) _ (by simp only [Act.put, pA, pB, pC, e9]) ⟨hB, hz, x0, q0, n0, s1, s2, s3, s4, h0, h1, h2, h3, h4, h5, h6, h7, h8, h9, (fun _ => rfl), h11, h12, h13, h14, h15, h16, h17, h18, h19, h20, h21, h22, h23, h24⟩
      · have e10 := h10 (zdq hd 10 rfl)
        have s0 := q0 (by
         cases hL : L 25 with
         | false => rfl
         | true => exact absurd rfl (hn 25 _ rfl hL ⟨11, .phase⟩ (by simp) rfl))
        have cc := s0.cell (i := j - m + i) (by omega)
        rw [stpr_at] at cc
        go_wp2_with fail
        exact hK _ (.int .u8 (A (j - m + i) : Int)) _ (by simp only [Act.put, pA, pB, pC, e10]) ⟨hB, hz, x0, q0, n0, s1, s2, s3, s4, h0, h1, h2, h3, h4, h5, h6, h7, h8, h9, h10, (fun _ => rfl), h12, h13, h14, h15, h16, h17, h18, h19, h20, h21, h22, h23, h24⟩
      · go_wp2_with fail
        exact hK _ (.int .i64 (p : Int)) _ (by simp only [Act.put, pA, pB, pC ]) ⟨hB, hz, x0, q0, n0, s1, s2, s3, s4, h0, h1, h2, h3, h4, h5, h6, h7, h8, h9, h10, h11, (fun _ => rfl), h13, h14, h15, h16, h17, h18, h19, h20, h21, h22, h23, h24⟩
      · have e12 := h12 (zdq hd 12 rfl)
        go_wp2_with fail
        exact hK _ (.int .u8 (p : Int)) _ (by simp only [Act.put, pA, pB, pC, e12]) ⟨hB, hz, x0, q0, n0, s1, s2, s3, s4, h0, h1, h2, h3, h4, h5, h6, h7, h8, h9, h10, h11, h12, (fun _ => rfl), h14, h15, h16, h17, h18, h19, h20, h21, h22, h23, h24⟩
      · go_wp2_with fail
        exact hK _ (.int .u8 (τ : Int)) _ (by simp only [Act.put, pA, pB, pC ]) ⟨hB, hz, x0, q0, n0, s1, s2, s3, s4, h0, h1, h2, h3, h4, h5, h6, h7, h8, h9, h10, h11, h12, h13, (fun _ => rfl), h15, h16, h17, h18, h19, h20, h21, h22, h23, h24⟩
      · have e13 := h13 (zdq hd 13 rfl)
        have e14 := h14 (zdq hd 14 rfl)
        go_wp2_with fail
        exact hK _ (.int .u8 ((p : Int) - (τ : Int))) _ (by simp only [Act.put, pA, pB, pC, e13, e14]) ⟨hB, hz, x0, q0, n0, s1, s2, s3, s4, h0, h1, h2, h3, h4, h5, h6, h7, h8, h9, h10, h11, h12, h13, h14, (fun _ => rfl), h16, h17, h18, h19, h20, h21, h22, h23, h24⟩
      · go_wp2_with fail
        exact hK _ (.int .i64 (i : Int)) _ (by simp only [Act.put, pA, pB, pC ]) ⟨hB, hz, x0, q0, n0, s1, s2, s3, s4, h0, h1, h2, h3, h4, h5, h6, h7, h8, h9, h10, h11, h12, h13, h14, h15, (fun _ => rfl), h17, h18, h19, h20, h21, h22, h23, h24⟩
      · have e16 := h16 (zdq hd 16 rfl)
        go_wp2_with fail
        exact hK _ (.pointer (some ⟨w.heap.size + 1, i, none⟩)) _ (by simp only [Act.put, pA, pB, pC, e16]) ⟨hB, hz, x0, q0, n0, s1, s2, s3, s4, h0, h1, h2, h3, h4, h5, h6, h7, h8, h9, h10, h11, h12, h13, h14, h15, h16, (fun _ => rfl), h18, h19, h20, h21, h22, h23, h24⟩
      · have e17 := h17 (zdq hd 17 rfl)
        have cc := s1.cell (i := i) (by omega)
        go_wp2_with fail
        exact hK _ (.int .u8 (b i : Int)) _ (by simp only [Act.put, pA, pB, pC, e17]) ⟨hB, hz, x0, q0, n0, s1, s2, s3, s4, h0, h1, h2, h3, h4, h5, h6, h7, h8, h9, h10, h11, h12, h13, h14, h15, h16, h17, (fun _ => rfl), h19, h20, h21, h22, h23, h24⟩
      · have e15 := h15 (zdq hd 15 rfl)
        have e18 := h18 (zdq hd 18 rfl)
        go_wp2_with fail
        exact hK _ (.int .u8 (((p : Int) - (τ : Int)) * (b i : Int))) _ (by simp only [Act.put, pA, pB, pC, e15, e18]) ⟨hB, hz, x0, q0, n0, s1, s2, s3, s4, h0, h1, h2, h3, h4, h5, h6, h7, h8, h9, h10, h11, h12, h13, h14, h15, h16, h17, h18, (fun _ => rfl), h20, h21, h22, h23, h24⟩
      · have e11 := h11 (zdq hd 11 rfl)
        have e19 := h19 (zdq hd 19 rfl)
        go_wp2_with fail
        exact hK _ (.int .u8 ((A (j - m + i) : Int) + (((p : Int) - (τ : Int)) * (b i : Int)))) _ (by simp only [Act.put, pA, pB, pC, e11, e19]) ⟨hB, hz, x0, q0, n0, s1, s2, s3, s4, h0, h1, h2, h3, h4, h5, h6, h7, h8, h9, h10, h11, h12, h13, h14, h15, h16, h17, h18, h19, (fun _ => rfl), h21, h22, h23, h24⟩
      · go_wp2_with fail
        exact hK _ (.int .i64 (p : Int)) _ (by simp only [Act.put, pA, pB, pC ]) ⟨hB, hz, x0, q0, n0, s1, s2, s3, s4, h0, h1, h2, h3, h4, h5, h6, h7, h8, h9, h10, h11, h12, h13, h14, h15, h16, h17, h18, h19, h20, (fun _ => rfl), h22, h23, h24⟩
      · have e21 := h21 (zdq hd 21 rfl)
        go_wp2_with fail
        exact hK _ (.int .u8 (p : Int)) _ (by simp only [Act.put, pA, pB, pC, e21]) ⟨hB, hz, x0, q0, n0, s1, s2, s3, s4, h0, h1, h2, h3, h4, h5, h6, h7, h8, h9, h10, h11, h12, h13, h14, h15, h16, h17, h18, h19, h20, h21, (fun _ => rfl), h23, h24⟩
      · have e20 := h20 (zdq hd 20 rfl)
        have e22 := h22 (zdq hd 22 rfl)
        go_wp2_with fail
        exact hK _ (.int .u8 (((A (j - m + i) : Int) + (((p : Int) - (τ : Int)) * (b i : Int))) % (p : Int))) _ (by simp only [Act.put, pA, pB, pC, e20, e22]) ⟨hB, hz, x0, q0, n0, s1, s2, s3, s4, h0, h1, h2, h3, h4, h5, h6, h7, h8, h9, h10, h11, h12, h13, h14, h15, h16, h17, h18, h19, h20, h21, h22, (fun _ => rfl), h24⟩
      · have e4 := h4 (zdq hd 4 rfl)
        go_wp2_with fail
        exact hK _ (.pointer (some ⟨w.heap.size, j - m + i, none⟩)) _ (by simp only [Act.put, pA, pB, pC, e4]) ⟨hB, hz, x0, q0, n0, s1, s2, s3, s4, h0, h1, h2, h3, h4, h5, h6, h7, h8, h9, h10, h11, h12, h13, h14, h15, h16, h17, h18, h19, h20, h21, h22, h23, (fun _ => rfl)⟩
      · have e24 := h24 (zdq hd 24 rfl)
        have e23 := h23 (zdq hd 23 rfl)
        obtain ⟨gz, hk⟩ := x0
        have zz := hk.frozen (j - m + i)
        have cc := hk.cell (i := j - m + i) (by omega)
        go_wp2_with fail
        exact hK _ undef _ (by simp only [Act.put, pA, pB, pC, e24, e23]) ⟨hB.setCell (by simp <;> omega) _, (by simpa using hz), ⟨_, hk.set (v := (A (j - m + i) + (p - A j * inv % p) * b i) % p) HE.out⟩, (fun h => absurd h (by simp [setL])), (fun _ => by cases hL : L 25 with | false => exact ((q0 hL).set (v := (A (j - m + i) + (p - A j * inv % p) * b i) % p) HE.out).congr (fun k _ => stpr_next p inv m b j A i k) | true => exact ((n0 hL).set (v := (A (j - m + i) + (p - A j * inv % p) * b i) % p) HE.out).congr (fun k _ => upd_again (stpr_next p inv m b j A i) k)), (s1).setOther (by simp <;> omega), (s2).setOther (by simp <;> omega), (s3).setOther (by simp <;> omega), (s4).setOther (by simp <;> omega), h0, h1, h2, h3, h4, h5, h6, h7, h8, h9, h10, h11, h12, h13, h14, h15, h16, h17, h18, h19, h20, h21, h22, h23, h24⟩
    · intro L v wx hL ⟨hB, hz, x0, q0, n0, s1, s2, s3, s4, h0, h1, h2, h3, h4, h5, h6, h7, h8, h9, h10, h11, h12, h13, h14, h15, h16, h17, h18, h19, h20, h21, h22, h23, h24⟩
      have r0 := n0 (hL 25 (by decide))
      have e0 := h0 (hL 0 (by decide))
      have e1 := h1 (hL 1 (by decide))
      have e2 := h2 (hL 2 (by decide))
      have e3 := h3 (hL 3 (by decide))
      have e4 := h4 (hL 4 (by decide))
      have e5 := h5 (hL 5 (by decide))
      have e6 := h6 (hL 6 (by decide))
      have e7 := h7 (hL 7 (by decide))
      have e8 := h8 (hL 8 (by decide))
      have e9 := h9 (hL 9 (by decide))
      have e10 := h10 (hL 10 (by decide))
      have e11 := h11 (hL 11 (by decide))
      have e12 := h12 (hL 12 (by decide))
      have e13 := h13 (hL 13 (by decide))
      have e14 := h14 (hL 14 (by decide))
      have e15 := h15 (hL 15 (by decide))
      have e16 := h16 (hL 16 (by decide))
      have e17 := h17 (hL 17 (by decide))
      have e18 := h18 (hL 18 (by decide))
      have e19 := h19 (hL 19 (by decide))
      have e20 := h20 (hL 20 (by decide))
      have e21 := h21 (hL 21 (by decide))
      have e22 := h22 (hL 22 (by decide))
      have e23 := h23 (hL 23 (by decide))
      have e24 := h24 (hL 24 (by decide))
      clear hL x0 q0 n0 h0 h1 h2 h3 h4 h5 h6 h7 h8 h9 h10 h11 h12 h13 h14 h15 h16 h17 h18 h19 h20 h21 h22 h23 h24
      simp only [Exit.then, e0, e1, e2, e3, e4, e5, e6, e7, e8, e9, e10, e11, e12, e13, e14, e15, e16, e17, e18, e19, e20, e21, e22, e23, e24]
      clear e0 e1 e2 e3 e4 e5 e6 e7 e8 e9 e10 e11 e12 e13 e14 e15 e16 e17 e18 e19 e20 e21 e22 e23 e24
      go_wp2_with fail
      go_roundw
      case rel => exact ⟨i + 1, by omega, by go_num, hB, r0, s1, s2, s3, s4⟩
      case measure => simp [intOf] <;> omega
  · have e : i = m + 1 := by omega
    subst e
    have b0f := b0.congr (fun k _ => stpr_full p inv m b A h1 k)
    go_wp2_with fail
    go_step3
    simp only [Exit.then]
    apply_assumption
    go_wp2_with fail
    go_step3
    refine ⟨⟨j, _, _, _, _, _, _, _, _, _, _, _, _, _, _, _, _, _, _, _, _, _, _, _, _, _, _, _, _, _, _, _, _, _, _, _, _, _, _, _, _, _, _, _, _, _, _, _, _, _, _, _, _, _, _, _, _, _, _, _, _, _, _, _, _, _, _, _, rfl, hb, b0f.congr (fun k _ => HN.out k), b1, b2, b3, b4, h1, by omega, Or.inl ⟨rfl, rfl⟩⟩, ?_⟩
    simp [ldM, intOf] <;> omega
end Go.Proofs.Ytoncepgcfifgbaa
end
section
namespace Go.Proofs.Ytoncepgcfifgbaa
open Go.RowKit
set_option linter.unusedVariables false
set_option linter.unusedSimpArgs false
attribute [local irreducible] deg invN dS qS stp stpr
set_option maxRecDepth 100000 in
set_option maxHeartbeats 3200000 in
theorem ld_done (p m inv : Nat) (a b : Nat → Nat) (w : World) (v9 : Value) (u13 u14 u15 u16 u17 u18 u19 u20 u21 u22 u23 u24 u25 u26 u27 u28 u29 u30 u31 u32 u33 u34 u35 u36 u37 u38 u39 u40 u41 u42 u43 u44 u45 u46 u47 u48 u49 u50 u51 u52 u53 u54 u55 u56 u57 u58 u59 u60 u61 u62 u63 u64 u65 u66 u67 u68 u69 u70 u71 u72 u73 u74 u75 u76 u77 : Value) (x12 : Value) (wr : World) (J : Nat → Act → World → Prop) (A B : Nat → Nat) (hb : Below w.heap.size w wr) (b0 : Blk wr w.heap.size 128 124 A) (b1 : Blk wr (w.heap.size + 1) 64 23 b) (b2 : Blk wr (w.heap.size + 1 + 1) 128 124 (fun _ => 0)) (b3 : Blk wr (w.heap.size + 1 + 1 + 1) 64 23 (fun _ => 0)) (b4 : Blk wr (w.heap.size + 1 + 1 + 1 + 1) 128 124 B) (Q : Exit → Act → World → Prop)
 (hQ : Q = bodyPost Try.prog Try.f176 fun e w' => e = .returned (.tuple #[.agg (zb 128 B), .agg (zb 64 A)]) ∧ Below w.heap.size w w') :
 (behind Try.f176 0).wp Try.prog (Exit.jumps J Q) { tmps := #[.int .i64 (p : Int), .agg (zb 128 a), .agg (zb 64 b), undef, .pointer (some ⟨w.heap.size, 0, none⟩), .pointer (some ⟨w.heap.size + 1, 0, none⟩), .pointer (some ⟨w.heap.size + 1 + 1, 0, none⟩), .pointer (some ⟨w.heap.size + 1 + 1 + 1, 0, none⟩), .pointer (some ⟨w.heap.size + 1 + 1 + 1 + 1, 0, none⟩), v9, .int .i64 (m : Int), .int .u8 (inv : Int), x12, u13, u14, u15, u16, u17, u18, u19, u20, u21, u22, u23, u24, u25, u26, u27, u28, u29, u30, u31, u32, u33, u34, u35, u36, u37, u38, u39, u40, u41, u42, u43, u44, u45, u46, u47, u48, u49, u50, u51, u52, u53, u54, u55, u56, u57, u58, u59, u60, u61, u62, u63, u64, u65, u66, u67, u68, u69, u70, u71, u72, u73, u74, u75, u76, u77], defers := [] } wr := by
 have HQ := Lib.hid hQ
 clear hQ
 have hat := fun (W : World) (a : Option Addr) => run_arrayAt (P := Try.prog) (w := W) 23 5 64 a 64 128 Try.underlying23 (by omega)
 simp only [tailOf, behind, Try.f176, Option.bind_some, scopeIn, Option.getD_some, findLabel, Nat.reduceBEq, if_true, if_false, Bool.false_eq_true, beq_self_eq_true]
 go_wp2_with fail
 have lt_b0 : (w.heap.size) < wr.heap.size := b0.lt
 have lt_b4 : (w.heap.size + 1 + 1 + 1 + 1) < wr.heap.size := b4.lt
 have lt_b2 : (w.heap.size + 1 + 1) < wr.heap.size := b2.lt
 have lt_b3 : (w.heap.size + 1 + 1 + 1) < wr.heap.size := b3.lt
 have hbase : w.heap.size ≤ wr.heap.size := hb.size
 refine zq Try.mixed (by kernel_rfl) (by kernel_rfl) (fun v => by (simp only [frL, Act.put, pA, pB, pC, Nat.reduceAdd, Nat.zero_add]; exact rfl))
  (fun L v wx => Below w.heap.size w wx ∧ wr.heap.size ≤ wx.heap.size ∧ Blk wx (w.heap.size) 128 124 (A) ∧ Blk wx (w.heap.size + 1 + 1 + 1 + 1) 128 124 (B) ∧ (∃ g, Blk wx (w.heap.size + 1 + 1) 128 124 (g)) ∧ (L 4 = false → Blk wx (w.heap.size + 1 + 1) 128 124 (fun _ => 0)) ∧ (L 4 = true → Blk wx (w.heap.size + 1 + 1) 128 124 (B)) ∧ (∃ g, Blk wx (w.heap.size + 1 + 1 + 1) 64 23 (g)) ∧ (L 5 = false → Blk wx (w.heap.size + 1 + 1 + 1) 64 23 (fun _ => 0)) ∧ (L 5 = true → Blk wx (w.heap.size + 1 + 1 + 1) 64 23 (A)) ∧ (L 0 = true → v 0 = (.agg (zb 128 (B)))) ∧ (L 1 = true → v 1 = (.slice (some ⟨w.heap.size, 0, none⟩) 64 128)) ∧ (L 2 = true → v 2 = (.pointer (some ⟨w.heap.size, 0, none⟩) )) ∧ (L 3 = true → v 3 = (.agg (zb 64 (A))))) ?_ ?_ ?_
 · intro v hv0
   exact ⟨hb.drew, Nat.le_refl _, b0.drew, b4.drew, ⟨_, b2.drew⟩, (fun _ => b2.drew), (fun h => by cases h), ⟨_, b3.drew⟩, (fun _ => b3.drew), (fun h => by cases h), (fun h => by cases h), (fun h => by cases h), (fun h => by cases h), (fun h => by cases h)⟩
 · refine (.cons rfl ?_ (.cons rfl ?_ (.cons rfl ?_ (.cons rfl ?_ (.cons rfl ?_ (.cons rfl ?_ (.nil _)))))))
   all_goals intro L v wx hd hn ⟨hB, hz, s0, s1, x2, q2, n2, x3, q3, n3, h0, h1, h2, h3⟩ K hK
   · refine wp_load_blk 124 _ rfl _ rfl 128 124 _ s1 _ Try.underlying124 Try.size124 ?_
     exact hK _ _ _ rfl ⟨hB, hz, s0, s1, x2, q2, n2, x3, q3, n3, (fun _ => rfl), h1, h2, h3⟩
   · go_wp2_with fail
     exact hK _ (.slice (some ⟨w.heap.size, 0, none⟩) 64 128) _ (by simp only [Act.put, pA, pB, pC ]) ⟨hB, hz, s0, s1, x2, q2, n2, x3, q3, n3, h0, (fun _ => rfl), h2, h3⟩
   · have e1 := h1 (zdq hd 1 rfl)
     go_wp2_with fail
     exact hK _ (.pointer (some ⟨w.heap.size, 0, none⟩) ) _ (by simp only [Act.put, pA, pB, pC, e1]) ⟨hB, hz, s0, s1, x2, q2, n2, x3, q3, n3, h0, h1, (fun _ => rfl), h3⟩
   · have e2 := h2 (zdq hd 2 rfl)
     refine wp_load_mid 23 _ rfl _ (0) e2 _ _ (s0.pre (m := 64) (by omega)) Try.underlying23 rfl (by rw [zl]; exact Try.size23) ?_
     exact hK _ _ _ rfl ⟨hB, hz, s0, s1, x2, q2, n2, x3, q3, n3, h0, h1, h2, (fun _ => rfl)⟩
   · have e0 := h0 (zdq hd 0 rfl)
     obtain ⟨gz, hk⟩ := x2
     refine zsb 124 _ _ rfl _ 128 (B) rfl e0 124 gz hk Try.size124 ?_
     exact hK _ undef _ rfl ⟨zr hB (by omega) _, (by simpa [World.setRow] using hz), (s0).rowOther (by omega), (s1).rowOther (by omega), ⟨_, hk.row _⟩, (fun h => absurd h (by simp [setL])), (fun _ => hk.row _), (let ⟨g, h⟩ := x3; ⟨g, (h).rowOther (by omega)⟩), (fun h => (q3 h).rowOther (by omega)), (fun h => (n3 h).rowOther (by omega)), h0, h1, h2, h3⟩
   · have e3 := h3 (zdq hd 3 rfl)
     obtain ⟨gz, hk⟩ := x3
     refine zsb 23 _ _ rfl _ 64 (A) rfl e3 23 gz hk Try.size23 ?_
     exact hK _ undef _ rfl ⟨zr hB (by omega) _, (by simpa [World.setRow] using hz), (s0).rowOther (by omega), (s1).rowOther (by omega), (let ⟨g, h⟩ := x2; ⟨g, (h).rowOther (by omega)⟩), (fun h => (q2 h).rowOther (by omega)), (fun h => (n2 h).rowOther (by omega)), ⟨_, hk.row _⟩, (fun h => absurd h (by simp [setL])), (fun _ => hk.row _), h0, h1, h2, h3⟩
 · intro L v wx hL ⟨hB, hz, s0, s1, x2, q2, n2, x3, q3, n3, h0, h1, h2, h3⟩
   have r2 := n2 (hL 4 (by decide))
   have r3 := n3 (hL 5 (by decide))
   have e0 := h0 (hL 0 (by decide))
   have e1 := h1 (hL 1 (by decide))
   have e2 := h2 (hL 2 (by decide))
   have e3 := h3 (hL 3 (by decide))
   clear hL x2 q2 n2 x3 q3 n3 h0 h1 h2 h3
   simp only [Exit.then, e0, e1, e2, e3]
   clear e0 e1 e2 e3
   go_wp2_with fail
   show Q .ret _ _
   rw [HQ.out]
   refine bodyPost_ret (results_bb rfl _ _ _ 128 124 5 _ _ 64 23 5 _ rfl r2 Try.underlying124 Try.size124 rfl r3 Try.underlying23 Try.size23) rfl ⟨rfl, hB⟩
set_option maxRecDepth 100000 in
set_option maxHeartbeats 3200000 in
theorem longDivision_any (p m : Nat) (a b : Nat → Nat) (w : World) (hp : p = 2 ∨ p = 3 ∨ p = 5 ∨ p = 7) (ha : ∀ k, k < 128 → a k < p) (hb : ∀ k, k < 64 → b k < p) (hm : deg b = (m : Int)) (hbm : 0 < b m) (hm6 : m < 64) :
 Calls Try.prog 176 #[.int .i64 (p : Int), .agg (zb 128 a), .agg (zb 64 b)] w fun e w' => e = .returned (.tuple #[.agg (zb 128 (quoW p (invN p (b m)) m b a)), .agg (zb 64 (resW p (invN p (b m)) m b a))]) ∧ Below w.heap.size w w' := by
 obtain ⟨inv, hinv⟩ : ∃ v, v = invN p (b m) := ⟨_, rfl⟩
 have hi7 : inv < p := by have := (invF hp hbm (hb m hm6)).2.1; omega
 have p2 : 2 ≤ p := by omega
 have p7 : p ≤ 7 := by omega
 rw [← hinv]
 have HA := Lib.hid ha; clear ha
 have HB := Lib.hid hb; clear hb
 have HI := Lib.hid hinv; clear hinv
 have HM := Lib.hid hm; clear hm
 go_enter Try.func176, Try.ntmps176
 go_wp2
 refine wp_scope_labels (fun l a' w' => ldJ p m inv a b w l a' w') (fun l a' _ => ldM l a') ?_ ?_
 · go_upto_region 2 with (fail)
   rw [← zero128, ← z64]
   obtain ⟨wo, hwo⟩ : ∃ wo : World, wo = (((((w.alloc (.cells (zb 128 a) 124)).alloc (.cells (zb 64 b) 23)).alloc (.cells (zb 128 fun _ => 0) 124)).alloc (.cells (zb 64 fun _ => 0) 23)).alloc (.cells (zb 128 fun _ => 0) 124)) := ⟨_, rfl⟩
   have b0 : Blk wo (w.heap.size) 128 124 a := by subst hwo; have := (((((Blk.new w 128 124 a).alloc (.cells (zb 64 b) 23)).alloc (.cells (zb 128 fun _ => 0) 124)).alloc (.cells (zb 64 fun _ => 0) 23)).alloc (.cells (zb 128 fun _ => 0) 124)); simpa using this
   have b1 : Blk wo (w.heap.size + 1) 64 23 b := by subst hwo; have := ((((Blk.new (w.alloc (.cells (zb 128 a) 124)) 64 23 b).alloc (.cells (zb 128 fun _ => 0) 124)).alloc (.cells (zb 64 fun _ => 0) 23)).alloc (.cells (zb 128 fun _ => 0) 124)); simpa using this
   have b2 : Blk wo (w.heap.size + 1 + 1) 128 124 (fun _ => 0) := by subst hwo; have := (((Blk.new ((w.alloc (.cells (zb 128 a) 124)).alloc (.cells (zb 64 b) 23)) 128 124 (fun _ => 0)).alloc (.cells (zb 64 fun _ => 0) 23)).alloc (.cells (zb 128 fun _ => 0) 124)); simpa using this
   have b3 : Blk wo (w.heap.size + 1 + 1 + 1) 64 23 (fun _ => 0) := by subst hwo; have := ((Blk.new (((w.alloc (.cells (zb 128 a) 124)).alloc (.cells (zb 64 b) 23)).alloc (.cells (zb 128 fun _ => 0) 124)) 64 23 (fun _ => 0)).alloc (.cells (zb 128 fun _ => 0) 124)); simpa using this
   have b4 : Blk wo (w.heap.size + 1 + 1 + 1 + 1) 128 124 (fun _ => 0) := by subst hwo; have := (Blk.new ((((w.alloc (.cells (zb 128 a) 124)).alloc (.cells (zb 64 b) 23)).alloc (.cells (zb 128 fun _ => 0) 124)).alloc (.cells (zb 64 fun _ => 0) 23)) 128 124 (fun _ => 0)); simpa using this
   have hb : Below w.heap.size w wo := by subst hwo; exact ((((((Below.refl _ _).alloc (Nat.le_refl _) _).alloc (by simp) _).alloc (by simp; omega) _).alloc (by simp; omega) _).alloc (by simp; omega) _)
   rw [← hwo]
   clear hwo
   have ha : Below wo.heap.size wo wo := Below.refl _ _
   go_upto_region 4 with (first | refine zlb rfl 23 _ rfl _ rfl 64 23 _ (b1.below (by assumption) b1.lt) 5 Try.underlying23 Try.size23 ?_ | (go_at_call 92; refine (acc (degree_any _ _) (by assumption)).mono ?_; rintro e w1 ⟨rfl, h1, ha⟩; rw [HM.out]))
   replace hb := hb.trans (ha.mono hb.size)
   replace b0 := b0.zw ha
   replace b1 := b1.zw ha
   replace b2 := b2.zw ha
   replace b3 := b3.zw ha
   replace b4 := b4.zw ha
   clear ha h1
   have c1 := b1.cell (i := m) hm6
   go_wp2_with (first | (go_at_call 178; refine (inverseNumber_any p (b m) _ hp hbm (HB.out m hm6)).mono ?_; rintro e w1 ⟨rfl, rfl⟩; rw [← HI.out]))
   go_step3
   simp only [Exit.then]
   apply_assumption
   have hA : a = dS p inv m b a (127 - 127) := by rw [Nat.sub_self, dS_zero]
   have b4' := b4.congr (g := qS p inv m b a (127 - 127)) (fun k _ => by rw [Nat.sub_self, qS_zero])
   by_cases h0 : a 127 = 0
   · exact wp_mono (ld_zero p m inv a b w _ _ _ _ _ _ _ _ _ _ _ _ _ _ _ _ _ _ _ _ _ _ _ _ _ _ _ _ _ _ _ _ _ _ _ _ _ _ _ _ _ _ _ _ _ _ _ _ _ _ _ _ _ _ _ _ _ _ _ _ _ _ _ _ _ _ 127 w1 _ a hb b0 b1 b2 b3 b4' (by omega) (by omega) hA HA.out h0) jumps_less
   · exact wp_mono (ld_take p m inv a b w _ _ _ _ _ _ _ _ _ _ _ _ _ _ _ _ _ _ _ _ _ _ _ _ _ _ _ _ _ _ _ _ _ _ _ _ _ _ _ _ _ _ _ _ _ _ _ _ _ _ _ _ _ _ _ _ _ _ _ _ _ _ _ _ _ _ 127 w1 _ a hb b0 b1 b2 b3 b4' (by omega) (by omega) hA HA.out h0 p2 p7 hi7 HB.out hm6) jumps_less
 · intro l a' w' hJ
   obtain ⟨t, v9, v12, u13, u14, u15, u16, u17, u18, u19, u20, u21, u22, u23, u24, u25, u26, u27, u28, u29, u30, u31, u32, u33, u34, u35, u36, u37, u38, u39, u40, u41, u42, u43, u44, u45, u46, u47, u48, u49, u50, u51, u52, u53, u54, u55, u56, u57, u58, u59, u60, u61, u62, u63, u64, u65, u66, u67, u68, u69, u70, u71, u72, u73, u74, u75, u76, u77, rfl, hb, b0, b1, b2, b3, b4, ht1, ht2, hl⟩ := hJ
   rcases hl with ⟨rfl, rfl⟩ | ⟨rfl, rfl, ht3⟩ | ⟨rfl, rfl⟩
   · refine ⟨behind Try.f176 1, rfl, ?_⟩
     by_cases hlt : m < t
     · obtain ⟨j, rfl⟩ : ∃ j, t = j + 1 := ⟨t - 1, by omega⟩
       rw [show ((j + 1 : Nat) : Int) - 1 = (j : Int) by omega]
       rw [show 128 - (j + 1) = 127 - j by omega] at b0 b4
       rw [show ldM 1 ({ tmps := #[.int .i64 (p : Int), .agg (zb 128 a), .agg (zb 64 b), undef, .pointer (some ⟨w.heap.size, 0, none⟩), .pointer (some ⟨w.heap.size + 1, 0, none⟩), .pointer (some ⟨w.heap.size + 1 + 1, 0, none⟩), .pointer (some ⟨w.heap.size + 1 + 1 + 1, 0, none⟩), .pointer (some ⟨w.heap.size + 1 + 1 + 1 + 1, 0, none⟩), v9, .int .i64 (m : Int), .int .u8 (inv : Int), .int .i64 (j : Int), u13, u14, u15, u16, u17, u18, u19, u20, u21, u22, u23, u24, u25, u26, u27, u28, u29, u30, u31, u32, u33, u34, u35, u36, u37, u38, u39, u40, u41, u42, u43, u44, u45, u46, u47, u48, u49, u50, u51, u52, u53, u54, u55, u56, u57, u58, u59, u60, u61, u62, u63, u64, u65, u66, u67, u68, u69, u70, u71, u72, u73, u74, u75, u76, u77], defers := [] } : Act) = 3 * (j + 1) + 2 by simp [ldM, intOf] <;> omega]
       by_cases h0 : dS p inv m b a (127 - j) j = 0
       · exact behind_tail rfl (ld_zero p m inv a b w v9 u13 u14 u15 u16 u17 u18 u19 u20 u21 u22 u23 u24 u25 u26 u27 u28 u29 u30 u31 u32 u33 u34 u35 u36 u37 u38 u39 u40 u41 u42 u43 u44 u45 u46 u47 u48 u49 u50 u51 u52 u53 u54 u55 u56 u57 u58 u59 u60 u61 u62 u63 u64 u65 u66 u67 u68 u69 u70 u71 u72 u73 u74 u75 u76 u77 j w' _ _ hb b0 b1 b2 b3 b4 (by omega) (by omega) rfl (dS_lt (by omega) HA.out _) h0)
       · exact behind_tail rfl (ld_take p m inv a b w v9 u13 u14 u15 u16 u17 u18 u19 u20 u21 u22 u23 u24 u25 u26 u27 u28 u29 u30 u31 u32 u33 u34 u35 u36 u37 u38 u39 u40 u41 u42 u43 u44 u45 u46 u47 u48 u49 u50 u51 u52 u53 u54 u55 u56 u57 u58 u59 u60 u61 u62 u63 u64 u65 u66 u67 u68 u69 u70 u71 u72 u73 u74 u75 u76 u77 j w' _ _ hb b0 b1 b2 b3 b4 (by omega) (by omega) rfl (dS_lt (by omega) HA.out _) h0 p2 p7 hi7 HB.out hm6)
     · have e : t = m := by omega
       subst e
       rw [show ldM 1 ({ tmps := #[.int .i64 (p : Int), .agg (zb 128 a), .agg (zb 64 b), undef, .pointer (some ⟨w.heap.size, 0, none⟩), .pointer (some ⟨w.heap.size + 1, 0, none⟩), .pointer (some ⟨w.heap.size + 1 + 1, 0, none⟩), .pointer (some ⟨w.heap.size + 1 + 1 + 1, 0, none⟩), .pointer (some ⟨w.heap.size + 1 + 1 + 1 + 1, 0, none⟩), v9, .int .i64 (t : Int), .int .u8 (inv : Int), .int .i64 ((t : Int) - 1), u13, u14, u15, u16, u17, u18, u19, u20, u21, u22, u23, u24, u25, u26, u27, u28, u29, u30, u31, u32, u33, u34, u35, u36, u37, u38, u39, u40, u41, u42, u43, u44, u45, u46, u47, u48, u49, u50, u51, u52, u53, u54, u55, u56, u57, u58, u59, u60, u61, u62, u63, u64, u65, u66, u67, u68, u69, u70, u71, u72, u73, u74, u75, u76, u77], defers := [] } : Act) = 3 * t + 2 by simp [ldM, intOf] <;> omega]
       exact ld_stop p t inv a b w v9 u13 u14 u15 u16 u17 u18 u19 u20 u21 u22 u23 u24 u25 u26 u27 u28 u29 u30 u31 u32 u33 u34 u35 u36 u37 u38 u39 u40 u41 u42 u43 u44 u45 u46 u47 u48 u49 u50 u51 u52 u53 u54 u55 u56 u57 u58 u59 u60 u61 u62 u63 u64 u65 u66 u67 u68 u69 u70 u71 u72 u73 u74 u75 u76 u77 w' _ hb b0 b1 b2 b3 b4 ht2
   · refine ⟨behind Try.f176 2, rfl, ?_⟩
     rw [show ldM 2 ({ tmps := #[.int .i64 (p : Int), .agg (zb 128 a), .agg (zb 64 b), undef, .pointer (some ⟨w.heap.size, 0, none⟩), .pointer (some ⟨w.heap.size + 1, 0, none⟩), .pointer (some ⟨w.heap.size + 1 + 1, 0, none⟩), .pointer (some ⟨w.heap.size + 1 + 1 + 1, 0, none⟩), .pointer (some ⟨w.heap.size + 1 + 1 + 1 + 1, 0, none⟩), v9, .int .i64 (m : Int), .int .u8 (inv : Int), .int .i64 (t : Int), u13, u14, u15, u16, u17, u18, u19, u20, u21, u22, u23, u24, u25, u26, u27, u28, u29, u30, u31, u32, u33, u34, u35, u36, u37, u38, u39, u40, u41, u42, u43, u44, u45, u46, u47, u48, u49, u50, u51, u52, u53, u54, u55, u56, u57, u58, u59, u60, u61, u62, u63, u64, u65, u66, u67, u68, u69, u70, u71, u72, u73, u74, u75, u76, u77], defers := [] } : Act) = 3 * (t + 1) + 1 by simp [ldM, intOf] <;> omega]
     exact ld_next p m inv a b w v9 u13 u14 u15 u16 u17 u18 u19 u20 u21 u22 u23 u24 u25 u26 u27 u28 u29 u30 u31 u32 u33 u34 u35 u36 u37 u38 u39 u40 u41 u42 u43 u44 u45 u46 u47 u48 u49 u50 u51 u52 u53 u54 u55 u56 u57 u58 u59 u60 u61 u62 u63 u64 u65 u66 u67 u68 u69 u70 u71 u72 u73 u74 u75 u76 u77 t w' _ hb b0 b1 b2 b3 b4 ht1 ht3
   · refine ⟨behind Try.f176 0, rfl, ?_⟩
     exact ld_done p t inv a b w v9 u13 u14 u15 u16 u17 u18 u19 u20 u21 u22 u23 u24 u25 u26 u27 u28 u29 u30 u31 u32 u33 u34 u35 u36 u37 u38 u39 u40 u41 u42 u43 u44 u45 u46 u47 u48 u49 u50 u51 u52 u53 u54 u55 u56 u57 u58 u59 u60 u61 u62 u63 u64 u65 u66 u67 u68 u69 u70 u71 u72 u73 u74 u75 u76 u77 _ w' _ _ _ hb b0 b1 b2 b3 b4 _ rfl
end Go.Proofs.Ytoncepgcfifgbaa
end
section
namespace Go.Proofs.Ytoncepgcfifgbaa
open Go.RowKit
set_option linter.unusedVariables false
set_option linter.unusedSimpArgs false
attribute [local irreducible] deg invN dS qS stp stpr quoP resP
theorem splice_cut (a g : Nat → Nat) (hg : ∀ k, 64 ≤ k → g k = 0) : splice (bl 128 g) 0 (bl 64 a) = bl 128 (cut a) := by
 unfold splice
 apply List.ext_getElem?
 intro i
 by_cases h : i < 64
 · rw [List.take_zero, List.nil_append, List.getElem?_append_left (by rw [zl]; exact h)]
   have e1 := bcells_get (f := a) h
   have e2 := bcells_get (f := cut a) (show i < 128 by omega)
   simp only [List.getElem?_toArray] at e1 e2
   rw [e1, e2, cut_in a h]
 · rw [List.take_zero, List.nil_append, List.getElem?_append_right (by rw [zl]; omega), zl, List.getElem?_drop]
   by_cases h2 : i < 128
   · have e1 := bcells_get (f := g) (show 0 + 64 + (i - 64) < 128 by omega)
     have e2 := bcells_get (f := cut a) h2
     simp only [List.getElem?_toArray] at e1 e2
     rw [e1, e2, zcz a (by omega), hg _ (by omega)]
   · rw [List.getElem?_eq_none (by rw [zl]; omega), List.getElem?_eq_none (by rw [zl]; omega)]
theorem wp_copy_splice {P : Program} {o : Oper} {a : Act} {w : World} {K : Act → World → Prop} {Q : Exit → Act → World → Prop} (hgd : o.guard = none) (d s : Operand) (dT sT : TypeId)
 (ho : o.op = .call { callee := .builtin .copy, args := #[d, s], argTypes := #[dT, sT] }) (elem : TypeId) (hu : P.underlying dT = some (.slice elem)) (hsz : (P.info? elem).map (·.size) = some 1)
 (dp sp : Option Addr) (dLen dCap sLen sCap : Nat) (hd : a.eval d = .slice dp dLen dCap) (hs : a.eval s = .slice sp sLen sCap)
 (g off : Nat) (cur : List Value) (t : TypeId) (hg : w.heap[g]? = some (.cells cur.toArray t (0, 0))) (cs : List Value) (hn : cs.length = Nat.min sLen dLen)
 (hpos : 0 < cs.length → dp = some ⟨g, off, none⟩ ∧ ∃ ad, sp = some ad ∧ ∀ j v, cs[j]? = some v → w.cell? (ad.add j) = some v)
 (hfit : off + cs.length ≤ cur.length) (h1 : ∀ v ∈ cs, v.oneCell' = true) (B : Nat) (w0 : World) (hb : Below B w0 w) (hBg : B ≤ g)
 (h : ∀ w', Hid (w'.heap[g]? = some (.cells (splice cur off cs).toArray t (0, 0))) → Below B w0 w' → K (a.put o.dst (goInt cs.length)) w') : Oper.wp P o a w K Q := by
 have := step_copy_splice (P := P) (ops := #[]) (K := K) (Q := Q) (E := True) hgd d s dT sT ho elem hu hsz dp sp dLen dCap sLen sCap hd hs g off cur t hg cs hn hpos hfit h1 B w0 hb hBg h
 rwa [if_pos (by simp [Region.wanted, hgd])] at this
set_option maxRecDepth 100000 in
set_option maxHeartbeats 3200000 in
theorem quotientAndRest_any (p : Nat) (a b : Nat → Nat) (w : World) (hp : p = 2 ∨ p = 3 ∨ p = 5 ∨ p = 7) (ha : ∀ k, k < 64 → a k < p) (hbp : ∀ k, k < 64 → b k < p) (hd : 0 ≤ deg b) :
 Calls Try.prog 167 #[.int .i64 (p : Int), .agg (zb 64 a), .agg (zb 64 b)] w fun e w' => e = .returned (.tuple #[.agg (zb 64 (quoP p a b)), .agg (zb 64 (resP p a b))]) ∧ Below w.heap.size w w' := by
 obtain ⟨m, hm⟩ : ∃ m : Nat, deg b = (m : Int) := ⟨(deg b).toNat, by omega⟩
 obtain ⟨hm6, hbm, _⟩ := deg_top hm
 have p0 : 0 < p := by omega
 have HL := Lib.hid (fun W => longDivision_any p m (cut a) b W hp (fun k _ => cut_all p0 ha k) hbp hm hbm hm6)
 have HQ := Lib.hid (quoP_at (p := p) (a := a) hm)
 have HR := Lib.hid (resP_at (p := p) (a := a) hm)
 clear hm hd ha hbp
 go_enter Try.func167, Try.ntmps167
 go_upto_region 2 with (fail)
 rw [← zero128, ← z64]
 obtain ⟨wo, hwo⟩ : ∃ wo : World, wo = (((((w.alloc (.cells (zb 64 a) 23)).alloc (.cells (zb 64 b) 23)).alloc (.cells (zb 64 fun _ => 0) 23)).alloc (.cells (zb 64 fun _ => 0) 23)).alloc (.cells (zb 128 fun _ => 0) 124)) := ⟨_, rfl⟩
 have b0 : Blk wo (w.heap.size) 64 23 a := by subst hwo; have := (((((Blk.new w 64 23 a).alloc (.cells (zb 64 b) 23)).alloc (.cells (zb 64 fun _ => 0) 23)).alloc (.cells (zb 64 fun _ => 0) 23)).alloc (.cells (zb 128 fun _ => 0) 124)); simpa using this
 have b1 : Blk wo (w.heap.size + 1) 64 23 b := by subst hwo; have := ((((Blk.new (w.alloc (.cells (zb 64 a) 23)) 64 23 b).alloc (.cells (zb 64 fun _ => 0) 23)).alloc (.cells (zb 64 fun _ => 0) 23)).alloc (.cells (zb 128 fun _ => 0) 124)); simpa using this
 have b2 : Blk wo (w.heap.size + 1 + 1) 64 23 (fun _ => 0) := by subst hwo; have := (((Blk.new ((w.alloc (.cells (zb 64 a) 23)).alloc (.cells (zb 64 b) 23)) 64 23 (fun _ => 0)).alloc (.cells (zb 64 fun _ => 0) 23)).alloc (.cells (zb 128 fun _ => 0) 124)); simpa using this
 have b3 : Blk wo (w.heap.size + 1 + 1 + 1) 64 23 (fun _ => 0) := by subst hwo; have := ((Blk.new (((w.alloc (.cells (zb 64 a) 23)).alloc (.cells (zb 64 b) 23)).alloc (.cells (zb 64 fun _ => 0) 23)) 64 23 (fun _ => 0)).alloc (.cells (zb 128 fun _ => 0) 124)); simpa using this
 have b4 : Blk wo (w.heap.size + 1 + 1 + 1 + 1) 128 124 (fun _ => 0) := by subst hwo; have := (Blk.new ((((w.alloc (.cells (zb 64 a) 23)).alloc (.cells (zb 64 b) 23)).alloc (.cells (zb 64 fun _ => 0) 23)).alloc (.cells (zb 64 fun _ => 0) 23)) 128 124 (fun _ => 0)); simpa using this
 have hb : Below w.heap.size w wo := by subst hwo; exact ((((((Below.refl _ _).alloc (Nat.le_refl _) _).alloc (by simp) _).alloc (by simp; omega) _).alloc (by simp; omega) _).alloc (by simp; omega) _)
 rw [← hwo]
 clear hwo
 have lt_b0 : (w.heap.size) < wo.heap.size := b0.lt
 have lt_b1 : (w.heap.size + 1) < wo.heap.size := b1.lt
 have lt_b2 : (w.heap.size + 1 + 1) < wo.heap.size := b2.lt
 have lt_b3 : (w.heap.size + 1 + 1 + 1) < wo.heap.size := b3.lt
 have lt_b4 : (w.heap.size + 1 + 1 + 1 + 1) < wo.heap.size := b4.lt
 have hbase : w.heap.size ≤ wo.heap.size := hb.size
 refine zq Try.mixed (by kernel_rfl) (by kernel_rfl) (fun v => by (simp only [frL, Act.put, pA, pB, pC, Nat.reduceAdd, Nat.zero_add]; exact rfl))
  (fun L v wx => Below w.heap.size w wx ∧ wo.heap.size ≤ wx.heap.size ∧ Blk wx (w.heap.size) 64 23 (a) ∧ Blk wx (w.heap.size + 1) 64 23 (b) ∧ Blk wx (w.heap.size + 1 + 1) 64 23 (fun _ => 0) ∧ Blk wx (w.heap.size + 1 + 1 + 1) 64 23 (fun _ => 0) ∧ (∃ g, Blk wx (w.heap.size + 1 + 1 + 1 + 1) 128 124 (g)) ∧ (L 2 = false → Blk wx (w.heap.size + 1 + 1 + 1 + 1) 128 124 (fun _ => 0)) ∧ (L 2 = true → Blk wx (w.heap.size + 1 + 1 + 1 + 1) 128 124 (cut a)) ∧ (L 0 = true → v 0 = (.slice (some ⟨w.heap.size + 1 + 1 + 1 + 1, 0, none⟩) 128 128)) ∧ (L 1 = true → v 1 = (.slice (some ⟨w.heap.size, 0, none⟩) 64 64)) ∧ (L 2 = true → v 2 = (goInt ((64 : Nat) : Int)))) ?_ ?_ ?_
 · intro v hv0
   exact ⟨hb.drew, Nat.le_refl _, b0.drew, b1.drew, b2.drew, b3.drew, ⟨_, b4.drew⟩, (fun _ => b4.drew), (fun h => by cases h), (fun h => by cases h), (fun h => by cases h), (fun h => by cases h)⟩
 · refine (.cons rfl ?_ (.cons rfl ?_ (.cons rfl ?_ (.nil _))))
   all_goals intro L v wx hd hn ⟨hB, hz, s0, s1, s2, s3, x4, q4, n4, h0, h1, h2⟩ K hK
   · go_wp2_with fail
     exact hK _ (.slice (some ⟨w.heap.size + 1 + 1 + 1 + 1, 0, none⟩) 128 128) _ (by simp only [Act.put, pA, pB, pC ]) ⟨hB, hz, s0, s1, s2, s3, x4, q4, n4, (fun _ => rfl), h1, h2⟩
   · go_wp2_with fail
     exact hK _ (.slice (some ⟨w.heap.size, 0, none⟩) 64 64) _ (by simp only [Act.put, pA, pB, pC ]) ⟨hB, hz, s0, s1, s2, s3, x4, q4, n4, h0, (fun _ => rfl), h2⟩
   · have e0 := h0 (zdq hd 0 rfl)
     have e1 := h1 (zdq hd 1 rfl)
     obtain ⟨gz, hk, hgz⟩ : ∃ g, Blk wx (w.heap.size + 1 + 1 + 1 + 1) 128 124 g ∧ ∀ k, 64 ≤ k → g k = 0 := by
      cases hL : L 2 with
      | false => exact ⟨_, q4 hL, fun _ _ => rfl⟩
      | true => exact ⟨_, n4 hL, fun k hk => zcz a hk⟩
     have hg : wx.heap[w.heap.size + 1 + 1 + 1 + 1]? = some (.cells (bl 128 gz).toArray 124 (0, 0)) := by unfold Blk at hk; exact hk
     refine wp_copy_splice rfl _ _ 126 126 rfl 5 Try.underlying126 Try.size5 _ _ _ _ _ _ e0 e1 (w.heap.size + 1 + 1 + 1 + 1) 0 (bl 128 gz) 124 hg (bl 64 a) (by rw [zl]; rfl) (fun _ => ⟨rfl, _, rfl, fun j v hv => by rw [addr_zero_add]; have := s0.range j v hv; rwa [Nat.zero_add] at this⟩) (by rw [zl, zl]; omega) bl_one (w.heap.size + 1 + 1 + 1 + 1) wx (Below.refl _ _) (Nat.le_refl _) ?_
     intro wy hyg hy
     have hnew : Blk wy (w.heap.size + 1 + 1 + 1 + 1) 128 124 (cut a) := by unfold Blk; rw [hyg.out, splice_cut a gz hgz]
     rw [zl]
     exact hK _ (goInt ((64 : Nat) : Int)) _ (by simp only [Act.put, pA, pB, pC, e0, e1]) ⟨hB.trans (hy.mono (by omega)), (Nat.le_trans hz hy.size), (s0).below hy (by omega), (s1).below hy (by omega), (s2).below hy (by omega), (s3).below hy (by omega), ⟨_, hnew⟩, (fun h => absurd h (by simp [setL])), (fun _ => hnew), h0, h1, (fun _ => rfl)⟩
 · intro L v wx hL ⟨hB, hz, s0, s1, s2, s3, x4, q4, n4, h0, h1, h2⟩
   have r4 := n4 (hL 2 (by decide))
   have e0 := h0 (hL 0 (by decide))
   have e1 := h1 (hL 1 (by decide))
   have e2 := h2 (hL 2 (by decide))
   clear hL x4 q4 n4 h0 h1 h2
   simp only [Exit.then, e0, e1, e2]
   clear e0 e1 e2
   replace hb := hB
   replace b1 := s1
   replace b2 := s2
   replace b3 := s3
   replace b4 := r4
   clear hB s1 s2 s3 r4 hz
   have hx10 : ∀ w1 : World, Blk ((w1.alloc (.cells (zb 128 fun _ => 0) 124)).alloc (.cells (zb 64 fun _ => 0) 23)) (w1.heap.size + 1) 64 23 (fun _ => 0) := fun w1 => by
    have := Blk.new (w1.alloc (.cells (zb 128 fun _ => 0) 124)) 64 23 (fun _ => 0)
    simpa using this
   have HX := Lib.hid hx10
   clear hx10
   go_upto_region 4 with (first | refine zlb rfl 124 _ rfl _ rfl 128 124 _ (b4) 5 Try.underlying124 Try.size124 ?_ | refine zlb rfl 23 _ rfl _ rfl 64 23 _ (b1) 5 Try.underlying23 Try.size23 ?_ | (go_at_call 176; refine (HL.out _).mono ?_; rintro e w1 ⟨rfl, h1⟩; rw [← HQ.out, ← HR.out]) | (rw [← zero128, ← z64]; refine wpList_store_blk rfl 124 _ _ rfl _ 128 (quoP p a b) rfl rfl 124 _ ((Blk.new w1 128 124 (fun _ => 0)).alloc _) Try.size124 ?_) | (refine wpList_store_blk rfl 23 _ _ rfl _ 64 (resP p a b) rfl rfl 23 _ ((HX.out w1).rowOther (by omega)) Try.size23 ?_))
   have a9 := (((Blk.new w1 128 124 (fun _ => 0)).alloc (.cells (zb 64 fun _ => 0) 23)).row (quoP p a b)).rowOther (k := w1.heap.size + 1) (cs := zb 64 (resP p a b)) (by omega)
   have a10 := ((HX.out w1).rowOther (k := w1.heap.size) (cs := zb 128 (quoP p a b)) (by omega)).row (resP p a b)
   have hb4 := zr (zr (((Below.refl w1.heap.size w1).alloc (Nat.le_refl _) (.cells (zb 128 fun _ => 0) 124)).alloc (by simp) (.cells (zb 64 fun _ => 0) 23)) (Nat.le_refl _) (zb 128 (quoP p a b))) (show w1.heap.size ≤ w1.heap.size + 1 by omega) (zb 64 (resP p a b))
   obtain ⟨w4, hw4⟩ : ∃ w4 : World, w4 = (((w1.alloc (.cells (zb 128 fun _ => 0) 124)).alloc (.cells (zb 64 fun _ => 0) 23)).setRow w1.heap.size (zb 128 (quoP p a b))).setRow (w1.heap.size + 1) (zb 64 (resP p a b)) := ⟨_, rfl⟩
   rw [← hw4] at a9 a10 hb4 ⊢
   clear hw4
   replace b2 := b2.zw h1
   replace b3 := b3.zw h1
   have hl3 := b3.lt
   replace b2 := b2.zw hb4
   replace b3 := b3.zw hb4
   replace hb := (hb.trans (h1.mono hb.size))
   replace hb := hb.trans (hb4.mono hb.size)
   obtain ⟨n9, hn9⟩ : ∃ n9, n9 = w1.heap.size := ⟨_, rfl⟩
   rw [← hn9] at a9 a10 hl3 ⊢
   clear hn9 hb4 h1 b1 b4
   have hat := fun (W : World) (a : Option Addr) => run_arrayAt (P := Try.prog) (w := W) 23 5 64 a 64 128 Try.underlying23 (by omega)
   have lt_a9 : (n9) < w4.heap.size := a9.lt
   have lt_a10 : (n9 + 1) < w4.heap.size := a10.lt
   have lt_b2 : (w.heap.size + 1 + 1) < w4.heap.size := b2.lt
   have lt_b3 : (w.heap.size + 1 + 1 + 1) < w4.heap.size := b3.lt
   have hbase : w.heap.size ≤ w4.heap.size := hb.size
   refine zq Try.mixed (by kernel_rfl) (by kernel_rfl) (fun v => by (simp only [frL, Act.put, pA, pB, pC, Nat.reduceAdd, Nat.zero_add]; exact rfl))
    (fun L v wx => Below w.heap.size w wx ∧ w4.heap.size ≤ wx.heap.size ∧ Blk wx (n9) 128 124 (quoP p a b) ∧ Blk wx (n9 + 1) 64 23 (resP p a b) ∧ (∃ g, Blk wx (w.heap.size + 1 + 1) 64 23 (g)) ∧ (L 4 = false → Blk wx (w.heap.size + 1 + 1) 64 23 (fun _ => 0)) ∧ (L 4 = true → Blk wx (w.heap.size + 1 + 1) 64 23 (quoP p a b)) ∧ (∃ g, Blk wx (w.heap.size + 1 + 1 + 1) 64 23 (g)) ∧ (L 5 = false → Blk wx (w.heap.size + 1 + 1 + 1) 64 23 (fun _ => 0)) ∧ (L 5 = true → Blk wx (w.heap.size + 1 + 1 + 1) 64 23 (resP p a b)) ∧ (L 0 = true → v 0 = (.slice (some ⟨n9, 0, none⟩) 64 128)) ∧ (L 1 = true → v 1 = (.pointer (some ⟨n9, 0, none⟩) )) ∧ (L 2 = true → v 2 = (.agg (zb 64 (quoP p a b)))) ∧ (L 3 = true → v 3 = (.agg (zb 64 (resP p a b))))) ?_ ?_ ?_
   · intro v hv0
     exact ⟨hb.drew, Nat.le_refl _, a9.drew, a10.drew, ⟨_, b2.drew⟩, (fun _ => b2.drew), (fun h => by cases h), ⟨_, b3.drew⟩, (fun _ => b3.drew), (fun h => by cases h), (fun h => by cases h), (fun h => by cases h), (fun h => by cases h), (fun h => by cases h)⟩
   · refine (.cons rfl ?_ (.cons rfl ?_ (.cons rfl ?_ (.cons rfl ?_ (.cons rfl ?_ (.cons rfl ?_ (.nil _)))))))
     all_goals intro L v wx hd hn ⟨hB, hz, s0, s1, x2, q2, n2, x3, q3, n3, h0, h1, h2, h3⟩ K hK
     · go_wp2_with fail
       exact hK _ (.slice (some ⟨n9, 0, none⟩) 64 128) _ (by simp only [Act.put, pA, pB, pC ]) ⟨hB, hz, s0, s1, x2, q2, n2, x3, q3, n3, (fun _ => rfl), h1, h2, h3⟩
     · have e0 := h0 (zdq hd 0 rfl)
       go_wp2_with fail
       exact hK _ (.pointer (some ⟨n9, 0, none⟩) ) _ (by simp only [Act.put, pA, pB, pC, e0]) ⟨hB, hz, s0, s1, x2, q2, n2, x3, q3, n3, h0, (fun _ => rfl), h2, h3⟩
     · have e1 := h1 (zdq hd 1 rfl)
       refine wp_load_mid 23 _ rfl _ (0) e1 _ _ (s0.pre (m := 64) (by omega)) Try.underlying23 rfl (by rw [zl]; exact Try.size23) ?_
       exact hK _ _ _ rfl ⟨hB, hz, s0, s1, x2, q2, n2, x3, q3, n3, h0, h1, (fun _ => rfl), h3⟩
     · refine wp_load_blk 23 _ rfl _ rfl 64 23 _ s1 _ Try.underlying23 Try.size23 ?_
       exact hK _ _ _ rfl ⟨hB, hz, s0, s1, x2, q2, n2, x3, q3, n3, h0, h1, h2, (fun _ => rfl)⟩
     · have e2 := h2 (zdq hd 2 rfl)
       obtain ⟨gz, hk⟩ := x2
       refine zsb 23 _ _ rfl _ 64 (quoP p a b) rfl e2 23 gz hk Try.size23 ?_
       exact hK _ undef _ rfl ⟨zr hB (by omega) _, (by simpa [World.setRow] using hz), (s0).rowOther (by omega), (s1).rowOther (by omega), ⟨_, hk.row _⟩, (fun h => absurd h (by simp [setL])), (fun _ => hk.row _), (let ⟨g, h⟩ := x3; ⟨g, (h).rowOther (by omega)⟩), (fun h => (q3 h).rowOther (by omega)), (fun h => (n3 h).rowOther (by omega)), h0, h1, h2, h3⟩
     · have e3 := h3 (zdq hd 3 rfl)
       obtain ⟨gz, hk⟩ := x3
       refine zsb 23 _ _ rfl _ 64 (resP p a b) rfl e3 23 gz hk Try.size23 ?_
       exact hK _ undef _ rfl ⟨zr hB (by omega) _, (by simpa [World.setRow] using hz), (s0).rowOther (by omega), (s1).rowOther (by omega), (let ⟨g, h⟩ := x2; ⟨g, (h).rowOther (by omega)⟩), (fun h => (q2 h).rowOther (by omega)), (fun h => (n2 h).rowOther (by omega)), ⟨_, hk.row _⟩, (fun h => absurd h (by simp [setL])), (fun _ => hk.row _), h0, h1, h2, h3⟩
   · intro L v wx hL ⟨hB, hz, s0, s1, x2, q2, n2, x3, q3, n3, h0, h1, h2, h3⟩
     have r2 := n2 (hL 4 (by decide))
     have r3 := n3 (hL 5 (by decide))
     have e0 := h0 (hL 0 (by decide))
     have e1 := h1 (hL 1 (by decide))
     have e2 := h2 (hL 2 (by decide))
     have e3 := h3 (hL 3 (by decide))
     clear hL x2 q2 n2 x3 q3 n3 h0 h1 h2 h3
     simp only [Exit.then, e0, e1, e2, e3]
     clear e0 e1 e2 e3
     go_wp2_with fail
     show bodyPost Try.prog Try.f167 _ .ret _ _
     refine bodyPost_ret (results_bb rfl _ _ _ 64 23 5 _ _ 64 23 5 _ rfl r2 Try.underlying23 Try.size23 rfl r3 Try.underlying23 Try.size23) rfl ⟨rfl, hB⟩
end Go.Proofs.Ytoncepgcfifgbaa
end
section
namespace Go.Proofs.Ytoncepgcfifgbaa
open Go.RowKit
set_option linter.unusedVariables false
set_option linter.unusedSimpArgs false
attribute [local irreducible] deg invN dS qS stp stpr quoP resP
theorem Try.noGuard23 : Try.prog.eqGuardType Try.prog.depth 23 = false := by kernel_rfl
theorem eqN_zero (f : Nat → Nat) : eqN 64 f (fun _ => 0) = decide (deg f < 0) := by
 by_cases h : deg f < 0
 · rw [eqN_iff.2 (deg_neg_iff.1 h)]; simp [h]
 · have : eqN 64 f (fun _ => 0) = false := by
    cases he : eqN 64 f (fun _ => 0) with
    | false => rfl
    | true => exact absurd (deg_neg_iff.2 (eqN_iff.1 he)) h
   rw [this]; simp [h]
end Go.Proofs.Ytoncepgcfifgbaa
end
section
namespace Go.Proofs.Ytoncepgcfifgbaa
open Go.RowKit
set_option linter.unusedVariables false
/-- three polynomials, one behind the other -/
def c3 (r u v : Nat → Nat) : Nat → Nat := fun k => if k < 64 then r k else if k < 128 then u (k - 64) else v (k - 128)
theorem Try.size149 : (Try.prog.info? 149).map (·.size) = some 192 := by kernel_rfl
theorem built_ru (r u : Nat → Nat) : Try.prog.built 149 [(0, .agg (zb 64 r)), (1, .agg (zb 64 u))] = some (zb 192 (c3 r u fun _ => 0)) := by
 unfold zb bl; kernel_rfl
theorem built_rv (r v : Nat → Nat) : Try.prog.built 149 [(0, .agg (zb 64 r)), (2, .agg (zb 64 v))] = some (zb 192 (c3 r (fun _ => 0) v)) := by
 unfold zb bl; kernel_rfl
theorem built_ruv (r u v : Nat → Nat) : Try.prog.built 149 [(0, .agg (zb 64 r)), (1, .agg (zb 64 u)), (2, .agg (zb 64 v))] = some (zb 192 (c3 r u v)) := by
 unfold zb bl; kernel_rfl
theorem built_one : Try.prog.built 23 [(0, .int .u8 1)] = some (zb 64 oneP) := by
 unfold zb bl; kernel_rfl
theorem Blk.mid {w : World} {b n : Nat} {t : TypeId} {f : Nat → Nat} (h : Blk w b n t f) {o m : Nat} (hm : o + m ≤ n) {g : Nat → Nat} (hg : ∀ k, k < m → f (o + k) = g k) : w.rangeAt b o (bl m g) := by
 intro j v hv
 have hj : j < m := by
  have := (List.getElem?_eq_some_iff.1 hv).1
  rwa [zl] at this
 have e : (bl m g)[j]? = some (.int .u8 (g j : Int)) := by have := bcells_get (f := g) hj; simpa using this
 rw [e] at hv
 injection hv with hv
 subst hv
 rw [← hg j hj]
 exact h.cell (by omega)
theorem c3_0 (r u v : Nat → Nat) : ∀ k, k < 64 → c3 r u v (0 + k) = r k := by intro k hk; unfold c3; rw [Nat.zero_add, if_pos hk]
theorem c3_1 (r u v : Nat → Nat) : ∀ k, k < 64 → c3 r u v (64 + k) = u k := by intro k hk; unfold c3; rw [if_neg (by omega), if_pos (by omega), show 64 + k - 64 = k by omega]
theorem c3_2 (r u v : Nat → Nat) : ∀ k, k < 64 → c3 r u v (128 + k) = v k := by intro k hk; unfold c3; rw [if_neg (by omega), if_neg (by omega), show 128 + k - 128 = k by omega]
end Go.Proofs.Ytoncepgcfifgbaa
end
section
namespace Go.Proofs.Ytoncepgcfifgbaa
open Go.RowKit
set_option linter.unusedVariables false
set_option linter.unusedSimpArgs false
attribute [local irreducible] deg invN dS qS stp stpr quoP resP
theorem one64 : zb 64 oneP = #[.int .u8 1, .int .u8 0, .int .u8 0, .int .u8 0, .int .u8 0, .int .u8 0, .int .u8 0, .int .u8 0, .int .u8 0, .int .u8 0, .int .u8 0, .int .u8 0, .int .u8 0, .int .u8 0, .int .u8 0, .int .u8 0, .int .u8 0, .int .u8 0, .int .u8 0, .int .u8 0, .int .u8 0, .int .u8 0, .int .u8 0, .int .u8 0, .int .u8 0, .int .u8 0, .int .u8 0, .int .u8 0, .int .u8 0, .int .u8 0, .int .u8 0, .int .u8 0, .int .u8 0, .int .u8 0, .int .u8 0, .int .u8 0, .int .u8 0, .int .u8 0, .int .u8 0, .int .u8 0, .int .u8 0, .int .u8 0, .int .u8 0, .int .u8 0, .int .u8 0, .int .u8 0, .int .u8 0, .int .u8 0, .int .u8 0, .int .u8 0, .int .u8 0, .int .u8 0, .int .u8 0, .int .u8 0, .int .u8 0, .int .u8 0, .int .u8 0, .int .u8 0, .int .u8 0, .int .u8 0, .int .u8 0, .int .u8 0, .int .u8 0, .int .u8 0] := by simp only [zb, bl, oneP]; kernel_rfl
set_option maxRecDepth 100000 in
set_option maxHeartbeats 400000 in
theorem scaled_any (p : Nat) (f : Nat → Nat) (c : Nat) (w : World) (hp1 : 2 ≤ p) (hp2 : p ≤ 7) (hf : ∀ i, i < 64 → f i < p) (hc : c < p) :
 Calls Try.prog 179 #[.int .i64 (p : Int), .agg (zb 64 f), .int .u8 (c : Int)] w fun e w' => e = .returned (.agg (zb 64 (sclP p f c))) ∧ Below w.heap.size w w' := by
 go_enter Try.func179, Try.ntmps179
 go_wp2_with fail
 have HF := Lib.hid hf; clear hf
 rw [← z64]
 go_loopw [8] (fun i wr => ∃ k : Nat, k ≤ 64 ∧ i = .int .i64 (k : Int) ∧ Below w.heap.size w wr ∧ Blk wr w.heap.size 64 23 (fun i => if i < k then sclP p f c i else f i) ∧ Blk wr (w.heap.size + 1) 64 23 (fun _ => 0)) (fun i _ => 64 - (intOf i).toNat)
 case atStart =>
  refine ⟨0, by omega, rfl, (((Below.refl _ _).alloc (Nat.le_refl _) _).alloc (by simp) _), ?_, ?_⟩
  · exact ((Blk.new w _ _ _).alloc _).congr (by simp)
  · have := (Blk.new (w.alloc (.cells (zb 64 f) 23)) 64 23 (fun _ => 0)); simpa using this
 case round =>
  obtain ⟨k, hk, rfl, hb, h0, h1⟩ := hrel
  by_cases hlt : k < 64
  · have c4 : wr.cell? ⟨w.heap.size, k, none⟩ = some (.int .u8 (f k : Int)) := by rw [h0.cell hlt]; simp
    have z4 := h0.frozen k
    have b1 : f k < p := HF.out k hlt
    obtain ⟨m1, m2⟩ := small_nat_mul hp2 b1 hc
    go_wp2_with fail
    go_roundw
    case rel =>
     refine ⟨k + 1, by omega, by go_num, (hb.setCell (by simp) _), ?_, ?_⟩
     · exact ((h0.set (v := sclP p f c k) (by unfold sclP; push_cast; rfl)).congr (fun i _ => upd_lt (a := sclP p f c) rfl i))
     · exact (h1.setOther (by simp))
    case measure => simp [intOf]; omega
  · have e : k = 64 := by omega
    subst e
    go_wp2_with (first | refine zlb rfl 23 _ rfl _ rfl 64 23 _ (h0) 5 Try.underlying23 Try.size23 ?_ | refine wpList_store_blk rfl 23 _ _ rfl _ 64 ((fun i => if i < 64 then sclP p f c i else f i)) rfl rfl 23 _ (h1) Try.size23 ?_)
    refine bodyPost_ret (zrb rfl _ _ _ 64 23 5 _ rfl (h1.row _) Try.underlying23 Try.size23) rfl ⟨?_, ?_⟩
    · rw [zbc (g := sclP p f c)]
      intro i hi; simp [hi]
    · exact below_setRow hb (by omega) _
set_option maxRecDepth 100000 in
theorem l01One_any (w : World) : Calls Try.prog 90 #[] w fun e w' => e = .returned (.agg (zb 64 oneP)) ∧ Below w.heap.size w w' := by
 go_enter Try.func90, Try.ntmps90
 go_upto_region 1 with (fail)
 rw [← z64]
 have b0 := Blk.new w 64 23 (fun _ => 0)
 go_wp2_with (first | (refine wpList_store_blk rfl 23 _ _ rfl _ 64 oneP rfl (by rw [one64]; rfl) 23 _ b0 Try.size23 ?_))
 refine bodyPost_ret (zrb rfl _ _ _ 64 23 5 _ rfl (b0.row _) Try.underlying23 Try.size23) rfl ⟨rfl, zr (zal _ _) (Nat.le_refl _) _⟩
/-- the degree of what lies in a block, and one more -/
def degAt (w : World) (b : Nat) : Nat := match w.heap[b]? with
 | some (.cells cs _ _) => (deg (fun i => match cs[i]? with
  | some (.int _ v) => v.toNat
  | _ => 0) + 1).toNat
 | _ => 0
theorem degAt_blk {w : World} {b n : Nat} {t : TypeId} {f : Nat → Nat} (h : Blk w b n t f) (hn : 64 ≤ n) : degAt w b = (deg f + 1).toNat := by
 unfold degAt
 have e : w.heap[b]? = some (.cells (zb n f) t (0, 0)) := by unfold Blk at h; exact h
 rw [e]
 simp only
 rw [deg_congr (g := f) (fun k hk => by rw [bcells_get (f := f) (show k < n by omega)]; simp)]
theorem new2 (w : World) (g0 g1 : Nat → Nat) : Blk ((w.alloc (.cells (zb 64 fun _ => 0) 23)).alloc (.cells (zb 64 fun _ => 0) 23)) (w.heap.size) 64 23 (fun _ => 0) ∧ Blk (((w.alloc (.cells (zb 64 fun _ => 0) 23)).alloc (.cells (zb 64 fun _ => 0) 23)).setRow (w.heap.size) (zb 64 g0)) (w.heap.size + 1) 64 23 (fun _ => 0) ∧ Blk ((((w.alloc (.cells (zb 64 fun _ => 0) 23)).alloc (.cells (zb 64 fun _ => 0) 23)).setRow (w.heap.size) (zb 64 g0)).setRow (w.heap.size + 1) (zb 64 g1)) (w.heap.size) 64 23 g0 ∧ Blk ((((w.alloc (.cells (zb 64 fun _ => 0) 23)).alloc (.cells (zb 64 fun _ => 0) 23)).setRow (w.heap.size) (zb 64 g0)).setRow (w.heap.size + 1) (zb 64 g1)) (w.heap.size + 1) 64 23 g1 ∧ Below w.heap.size w ((((w.alloc (.cells (zb 64 fun _ => 0) 23)).alloc (.cells (zb 64 fun _ => 0) 23)).setRow (w.heap.size) (zb 64 g0)).setRow (w.heap.size + 1) (zb 64 g1)) := by
 have e0 : Blk ((w.alloc (.cells (zb 64 fun _ => 0) 23)).alloc (.cells (zb 64 fun _ => 0) 23)) (w.heap.size) 64 23 (fun _ => 0) := by have := ((Blk.new w 64 23 (fun _ => 0)).alloc (.cells (zb 64 fun _ => 0) 23)); simpa using this
 have e1 : Blk ((w.alloc (.cells (zb 64 fun _ => 0) 23)).alloc (.cells (zb 64 fun _ => 0) 23)) (w.heap.size + 1) 64 23 (fun _ => 0) := by have := (Blk.new (w.alloc (.cells (zb 64 fun _ => 0) 23)) 64 23 (fun _ => 0)); simpa using this
 have hb : Below w.heap.size w ((w.alloc (.cells (zb 64 fun _ => 0) 23)).alloc (.cells (zb 64 fun _ => 0) 23)) := (((Below.refl w.heap.size w).alloc (Nat.le_refl _) (.cells (zb 64 fun _ => 0) 23)).alloc (by simp) (.cells (zb 64 fun _ => 0) 23))
 exact ⟨e0, (e1.rowOther (by omega)), ((e0.row g0).rowOther (by omega)), ((e1.rowOther (by omega)).row g1), (zr (zr hb (by omega) _) (by omega) _)⟩
theorem new4 (w : World) (g0 g1 g2 g3 : Nat → Nat) : Blk ((((w.alloc (.cells (zb 64 fun _ => 0) 23)).alloc (.cells (zb 64 fun _ => 0) 23)).alloc (.cells (zb 64 fun _ => 0) 23)).alloc (.cells (zb 64 fun _ => 0) 23)) (w.heap.size) 64 23 (fun _ => 0) ∧ Blk (((((w.alloc (.cells (zb 64 fun _ => 0) 23)).alloc (.cells (zb 64 fun _ => 0) 23)).alloc (.cells (zb 64 fun _ => 0) 23)).alloc (.cells (zb 64 fun _ => 0) 23)).setRow (w.heap.size) (zb 64 g0)) (w.heap.size + 1) 64 23 (fun _ => 0) ∧ Blk ((((((w.alloc (.cells (zb 64 fun _ => 0) 23)).alloc (.cells (zb 64 fun _ => 0) 23)).alloc (.cells (zb 64 fun _ => 0) 23)).alloc (.cells (zb 64 fun _ => 0) 23)).setRow (w.heap.size) (zb 64 g0)).setRow (w.heap.size + 1) (zb 64 g1)) (w.heap.size + 1 + 1) 64 23 (fun _ => 0) ∧ Blk (((((((w.alloc (.cells (zb 64 fun _ => 0) 23)).alloc (.cells (zb 64 fun _ => 0) 23)).alloc (.cells (zb 64 fun _ => 0) 23)).alloc (.cells (zb 64 fun _ => 0) 23)).setRow (w.heap.size) (zb 64 g0)).setRow (w.heap.size + 1) (zb 64 g1)).setRow (w.heap.size + 1 + 1) (zb 64 g2)) (w.heap.size + 1 + 1 + 1) 64 23 (fun _ => 0) ∧ Blk ((((((((w.alloc (.cells (zb 64 fun _ => 0) 23)).alloc (.cells (zb 64 fun _ => 0) 23)).alloc (.cells (zb 64 fun _ => 0) 23)).alloc (.cells (zb 64 fun _ => 0) 23)).setRow (w.heap.size) (zb 64 g0)).setRow (w.heap.size + 1) (zb 64 g1)).setRow (w.heap.size + 1 + 1) (zb 64 g2)).setRow (w.heap.size + 1 + 1 + 1) (zb 64 g3)) (w.heap.size) 64 23 g0 ∧ Blk ((((((((w.alloc (.cells (zb 64 fun _ => 0) 23)).alloc (.cells (zb 64 fun _ => 0) 23)).alloc (.cells (zb 64 fun _ => 0) 23)).alloc (.cells (zb 64 fun _ => 0) 23)).setRow (w.heap.size) (zb 64 g0)).setRow (w.heap.size + 1) (zb 64 g1)).setRow (w.heap.size + 1 + 1) (zb 64 g2)).setRow (w.heap.size + 1 + 1 + 1) (zb 64 g3)) (w.heap.size + 1) 64 23 g1 ∧ Blk ((((((((w.alloc (.cells (zb 64 fun _ => 0) 23)).alloc (.cells (zb 64 fun _ => 0) 23)).alloc (.cells (zb 64 fun _ => 0) 23)).alloc (.cells (zb 64 fun _ => 0) 23)).setRow (w.heap.size) (zb 64 g0)).setRow (w.heap.size + 1) (zb 64 g1)).setRow (w.heap.size + 1 + 1) (zb 64 g2)).setRow (w.heap.size + 1 + 1 + 1) (zb 64 g3)) (w.heap.size + 1 + 1) 64 23 g2 ∧ Blk ((((((((w.alloc (.cells (zb 64 fun _ => 0) 23)).alloc (.cells (zb 64 fun _ => 0) 23)).alloc (.cells (zb 64 fun _ => 0) 23)).alloc (.cells (zb 64 fun _ => 0) 23)).setRow (w.heap.size) (zb 64 g0)).setRow (w.heap.size + 1) (zb 64 g1)).setRow (w.heap.size + 1 + 1) (zb 64 g2)).setRow (w.heap.size + 1 + 1 + 1) (zb 64 g3)) (w.heap.size + 1 + 1 + 1) 64 23 g3 ∧ Below w.heap.size w ((((((((w.alloc (.cells (zb 64 fun _ => 0) 23)).alloc (.cells (zb 64 fun _ => 0) 23)).alloc (.cells (zb 64 fun _ => 0) 23)).alloc (.cells (zb 64 fun _ => 0) 23)).setRow (w.heap.size) (zb 64 g0)).setRow (w.heap.size + 1) (zb 64 g1)).setRow (w.heap.size + 1 + 1) (zb 64 g2)).setRow (w.heap.size + 1 + 1 + 1) (zb 64 g3)) := by
 have e0 : Blk ((((w.alloc (.cells (zb 64 fun _ => 0) 23)).alloc (.cells (zb 64 fun _ => 0) 23)).alloc (.cells (zb 64 fun _ => 0) 23)).alloc (.cells (zb 64 fun _ => 0) 23)) (w.heap.size) 64 23 (fun _ => 0) := by have := ((((Blk.new w 64 23 (fun _ => 0)).alloc (.cells (zb 64 fun _ => 0) 23)).alloc (.cells (zb 64 fun _ => 0) 23)).alloc (.cells (zb 64 fun _ => 0) 23)); simpa using this
 have e1 : Blk ((((w.alloc (.cells (zb 64 fun _ => 0) 23)).alloc (.cells (zb 64 fun _ => 0) 23)).alloc (.cells (zb 64 fun _ => 0) 23)).alloc (.cells (zb 64 fun _ => 0) 23)) (w.heap.size + 1) 64 23 (fun _ => 0) := by have := (((Blk.new (w.alloc (.cells (zb 64 fun _ => 0) 23)) 64 23 (fun _ => 0)).alloc (.cells (zb 64 fun _ => 0) 23)).alloc (.cells (zb 64 fun _ => 0) 23)); simpa using this
 have e2 : Blk ((((w.alloc (.cells (zb 64 fun _ => 0) 23)).alloc (.cells (zb 64 fun _ => 0) 23)).alloc (.cells (zb 64 fun _ => 0) 23)).alloc (.cells (zb 64 fun _ => 0) 23)) (w.heap.size + 1 + 1) 64 23 (fun _ => 0) := by have := ((Blk.new ((w.alloc (.cells (zb 64 fun _ => 0) 23)).alloc (.cells (zb 64 fun _ => 0) 23)) 64 23 (fun _ => 0)).alloc (.cells (zb 64 fun _ => 0) 23)); simpa using this
 have e3 : Blk ((((w.alloc (.cells (zb 64 fun _ => 0) 23)).alloc (.cells (zb 64 fun _ => 0) 23)).alloc (.cells (zb 64 fun _ => 0) 23)).alloc (.cells (zb 64 fun _ => 0) 23)) (w.heap.size + 1 + 1 + 1) 64 23 (fun _ => 0) := by have := (Blk.new (((w.alloc (.cells (zb 64 fun _ => 0) 23)).alloc (.cells (zb 64 fun _ => 0) 23)).alloc (.cells (zb 64 fun _ => 0) 23)) 64 23 (fun _ => 0)); simpa using this
 have hb : Below w.heap.size w ((((w.alloc (.cells (zb 64 fun _ => 0) 23)).alloc (.cells (zb 64 fun _ => 0) 23)).alloc (.cells (zb 64 fun _ => 0) 23)).alloc (.cells (zb 64 fun _ => 0) 23)) := (((((Below.refl w.heap.size w).alloc (Nat.le_refl _) (.cells (zb 64 fun _ => 0) 23)).alloc (by simp) (.cells (zb 64 fun _ => 0) 23)).alloc (by simp; omega) (.cells (zb 64 fun _ => 0) 23)).alloc (by simp; omega) (.cells (zb 64 fun _ => 0) 23))
 exact ⟨e0, (e1.rowOther (by omega)), ((e2.rowOther (by omega)).rowOther (by omega)), (((e3.rowOther (by omega)).rowOther (by omega)).rowOther (by omega)), ((((e0.row g0).rowOther (by omega)).rowOther (by omega)).rowOther (by omega)), ((((e1.rowOther (by omega)).row g1).rowOther (by omega)).rowOther (by omega)), ((((e2.rowOther (by omega)).rowOther (by omega)).row g2).rowOther (by omega)), ((((e3.rowOther (by omega)).rowOther (by omega)).rowOther (by omega)).row g3), (zr (zr (zr (zr hb (by omega) _) (by omega) _) (by omega) _) (by omega) _)⟩
end Go.Proofs.Ytoncepgcfifgbaa
end
section
namespace Go.Proofs.Ytoncepgcfifgbaa
attribute [local irreducible] deg invN
/-- the sum of t below n -/
def cs : Nat → (Nat → Int) → Int
 | 0, _ => 0
 | n + 1, t => cs n t + t n
theorem cs_z (t : Nat → Int) : cs 0 t = 0 := rfl
theorem cs_s (n : Nat) (t : Nat → Int) : cs (n + 1) t = cs n t + t n := rfl
theorem cs_congr {s t : Nat → Int} : ∀ n, (∀ i, i < n → s i = t i) → cs n s = cs n t
 | 0, _ => rfl
 | n + 1, h => by rw [cs_s, cs_s, cs_congr n (fun i hi => h i (by omega)), h n (by omega)]
theorem cs_add (s t : Nat → Int) : ∀ n, cs n (fun i => s i + t i) = cs n s + cs n t
 | 0 => rfl
 | n + 1 => by rw [cs_s, cs_s, cs_s, cs_add s t n]; omega
theorem cs_mul (c : Int) (t : Nat → Int) : ∀ n, cs n (fun i => c * t i) = c * cs n t
 | 0 => by rw [cs_z, cs_z, Int.mul_zero]
 | n + 1 => by rw [cs_s, cs_s, cs_mul c t n, Int.mul_add]
theorem cs_mulr (c : Int) (t : Nat → Int) (n : Nat) : cs n (fun i => t i * c) = cs n t * c := by
 rw [Int.mul_comm, ← cs_mul]
 exact cs_congr n (fun i _ => Int.mul_comm _ _)
theorem cs_zero {t : Nat → Int} : ∀ n, (∀ i, i < n → t i = 0) → cs n t = 0
 | 0, _ => rfl
 | n + 1, h => by rw [cs_s, cs_zero n (fun i hi => h i (by omega)), h n (by omega)]; rfl
theorem cs_front (t : Nat → Int) : ∀ n, cs (n + 1) t = t 0 + cs n (fun i => t (i + 1))
 | 0 => by rw [cs_s, cs_z, cs_z]; omega
 | n + 1 => by rw [cs_s, cs_front t n, cs_s]; omega
theorem cs_rev (t : Nat → Int) : ∀ n, cs (n + 1) t = cs (n + 1) (fun i => t (n - i))
 | 0 => rfl
 | n + 1 => by
  rw [cs_front (fun i => t (n + 1 - i)) (n + 1), cs_s, cs_rev t n, Nat.sub_zero]
  have : cs (n + 1) (fun i => t (n + 1 - (i + 1))) = cs (n + 1) (fun i => t (n - i)) := cs_congr _ (fun i _ => by rw [show n + 1 - (i + 1) = n - i by omega])
  omega
theorem cs_tri (F : Nat → Nat → Int) : ∀ n, cs (n + 1) (fun i => cs (i + 1) (fun j => F i j)) = cs (n + 1) (fun j => cs (n - j + 1) (fun l => F (j + l) j))
 | 0 => rfl
 | n + 1 => by
  rw [cs_s, cs_tri F n, cs_s (n + 1) (fun j => cs (n + 1 - j + 1) (fun l => F (j + l) j))]
  have h1 : cs (n + 1) (fun j => cs (n + 1 - j + 1) (fun l => F (j + l) j)) = cs (n + 1) (fun j => cs (n - j + 1) (fun l => F (j + l) j) + F (n + 1) j) := cs_congr _ (fun j hj => by
   rw [show n + 1 - j + 1 = (n - j + 1) + 1 by omega, cs_s, show j + (n - j + 1) = n + 1 by omega])
  have h2 : cs (n + 1 - (n + 1) + 1) (fun l => F (n + 1 + l) (n + 1)) = F (n + 1) (n + 1) := by
   rw [Nat.sub_self, cs_s, cs_z]; simp
  rw [h1, cs_add, h2, cs_s (n + 1) (fun j => F (n + 1) j)]
  have h3 : cs (n + 1) (F (n + 1)) = cs (n + 1) (fun j => F (n + 1) j) := rfl
  omega
/-- all but one of the terms are divided by p -/
theorem cs_dvd {p : Int} {t : Nat → Int} : ∀ n, (∀ i, i < n → p ∣ t i) → p ∣ cs n t
 | 0, _ => ⟨0, by rw [cs_z, Int.mul_zero]⟩
 | n + 1, h => by rw [cs_s]; exact Int.dvd_add (cs_dvd n (fun i hi => h i (by omega))) (h n (by omega))
theorem cs_but {p : Int} {t : Nat → Int} {j : Nat} : ∀ n, j < n → (∀ i, i < n → i ≠ j → p ∣ t i) → p ∣ cs n t - t j
 | 0, h, _ => by omega
 | n + 1, hj, h => by
  rw [cs_s]
  by_cases e : j = n
  · subst e
    have := cs_dvd (p := p) j (fun i hi => h i (by omega) (by omega))
    rwa [show cs j t + t j - t j = cs j t by omega]
  · have h1 := cs_but n (by omega) (fun i hi hne => h i (by omega) hne)
    rw [show cs n t + t n - t j = (cs n t - t j) + t n by omega]
    exact Int.dvd_add h1 (h n (by omega) (fun e' => e e'.symm))
/-- the product -/
def mz (f g : Nat → Int) : Nat → Int := fun k => cs (k + 1) (fun i => f i * g (k - i))
theorem mz_comm (f g : Nat → Int) : mz f g = mz g f := by
 funext k
 unfold mz
 rw [cs_rev]
 exact cs_congr _ (fun i hi => by rw [show k - (k - i) = i by omega, Int.mul_comm])
theorem mz_assoc (f g h : Nat → Int) : mz (mz f g) h = mz f (mz g h) := by
 funext k
 unfold mz
 have h1 : cs (k + 1) (fun i => cs (i + 1) (fun j => f j * g (i - j)) * h (k - i)) = cs (k + 1) (fun i => cs (i + 1) (fun j => (fun i j => f j * g (i - j) * h (k - i)) i j)) := cs_congr _ (fun i _ => by
  rw [← cs_mulr])
 rw [h1, cs_tri]
 exact cs_congr _ (fun j hj => by
  rw [← cs_mul]
  exact cs_congr _ (fun l hl => by
   show f j * g (j + l - j) * h (k - (j + l)) = _
   rw [show j + l - j = l by omega, show k - (j + l) = k - j - l by omega, Int.mul_assoc]))
def az (f g : Nat → Int) : Nat → Int := fun k => f k + g k
def sz (f g : Nat → Int) : Nat → Int := fun k => f k - g k
def cz (c : Int) (f : Nat → Int) : Nat → Int := fun k => c * f k
theorem mz_az (f g h : Nat → Int) : mz (az f g) h = az (mz f h) (mz g h) := by
 funext k
 unfold mz az
 rw [← cs_add]
 exact cs_congr _ (fun i _ => Int.add_mul _ _ _)
theorem mz_cz (c : Int) (f h : Nat → Int) : mz (cz c f) h = cz c (mz f h) := by
 funext k
 unfold mz cz
 rw [← cs_mul]
 exact cs_congr _ (fun i _ => Int.mul_assoc _ _ _)
theorem mz_sz (f g h : Nat → Int) : mz (sz f g) h = sz (mz f h) (mz g h) := by
 have : sz f g = az f (cz (-1) g) := by funext k; unfold sz az cz; omega
 rw [this, mz_az, mz_cz]
 funext k; unfold sz az cz; omega
def fin (f : Nat → Int) : Prop := ∃ N, ∀ k, N ≤ k → f k = 0
theorem fin_az {f g : Nat → Int} (hf : fin f) (hg : fin g) : fin (az f g) := by
 obtain ⟨N, h⟩ := hf; obtain ⟨M, h'⟩ := hg
 exact ⟨N + M, fun k hk => by unfold az; rw [h k (by omega), h' k (by omega)]; rfl⟩
theorem fin_cz {f : Nat → Int} (c : Int) (hf : fin f) : fin (cz c f) := by
 obtain ⟨N, h⟩ := hf
 exact ⟨N, fun k hk => by unfold cz; rw [h k hk, Int.mul_zero]⟩
theorem fin_mz {f g : Nat → Int} (hf : fin f) (hg : fin g) : fin (mz f g) := by
 obtain ⟨N, h⟩ := hf; obtain ⟨M, h'⟩ := hg
 exact ⟨N + M, fun k hk => cs_zero _ (fun i hi => by
  by_cases h1 : N ≤ i
  · rw [h i h1, Int.zero_mul]
  · rw [h' (k - i) (by omega), Int.mul_zero])⟩
/-- the same modulo p -/
def cg (p : Int) (f g : Nat → Int) : Prop := ∀ k, p ∣ f k - g k
theorem cg_refl (p : Int) (f : Nat → Int) : cg p f f := fun k => ⟨0, by omega⟩
theorem cg_symm {p : Int} {f g : Nat → Int} (h : cg p f g) : cg p g f := fun k => by
 rw [show g k - f k = -(f k - g k) by omega]; exact Int.dvd_neg.2 (h k)
theorem cg_trans {p : Int} {f g h : Nat → Int} (h1 : cg p f g) (h2 : cg p g h) : cg p f h := fun k => by
 rw [show f k - h k = (f k - g k) + (g k - h k) by omega]; exact Int.dvd_add (h1 k) (h2 k)
theorem cg_az {p : Int} {f g f' g' : Nat → Int} (h1 : cg p f f') (h2 : cg p g g') : cg p (az f g) (az f' g') := fun k => by
 unfold az
 rw [show f k + g k - (f' k + g' k) = (f k - f' k) + (g k - g' k) by omega]; exact Int.dvd_add (h1 k) (h2 k)
theorem cg_mz {p : Int} {f f' g : Nat → Int} (h1 : cg p f f') : cg p (mz f g) (mz f' g) := fun k => by
 have : mz f g k - mz f' g k = mz (sz f f') g k := by rw [mz_sz]; rfl
 rw [this]
 exact cs_dvd _ (fun i _ => by
  obtain ⟨c, hc⟩ := h1 i
  exact ⟨c * g (k - i), by unfold sz; rw [hc, Int.mul_assoc]⟩)
theorem cg_mz2 {p : Int} {f f' g g' : Nat → Int} (h1 : cg p f f') (h2 : cg p g g') : cg p (mz f g) (mz f' g') := by
 refine cg_trans (cg_mz h1) ?_
 rw [mz_comm f' g, mz_comm f' g']
 exact cg_mz h2
/-- the same modulo p and m -/
def rm (p : Int) (m f g : Nat → Int) : Prop := ∃ q, fin q ∧ cg p (sz f g) (mz q m)
theorem rm_of_cg {p : Int} {m f g : Nat → Int} (h : cg p f g) : rm p m f g := by
 refine ⟨fun _ => 0, ⟨0, fun _ _ => rfl⟩, fun k => ?_⟩
 have : mz (fun _ => 0) m k = 0 := cs_zero _ (fun i _ => Int.zero_mul _)
 rw [this, Int.sub_zero]
 exact h k
theorem rm_refl (p : Int) (m f : Nat → Int) : rm p m f f := rm_of_cg (cg_refl p f)
theorem rm_symm {p : Int} {m f g : Nat → Int} (h : rm p m f g) : rm p m g f := by
 obtain ⟨q, hq, hc⟩ := h
 refine ⟨cz (-1) q, fin_cz _ hq, fun k => ?_⟩
 rw [mz_cz]
 have := hc k
 unfold cz sz at *
 rw [show g k - f k - -1 * mz q m k = -(f k - g k - mz q m k) by omega]
 exact Int.dvd_neg.2 this
theorem rm_az {p : Int} {m f g f' g' : Nat → Int} (h1 : rm p m f f') (h2 : rm p m g g') : rm p m (az f g) (az f' g') := by
 obtain ⟨q, hq, hc⟩ := h1; obtain ⟨r, hr, hd⟩ := h2
 refine ⟨az q r, fin_az hq hr, fun k => ?_⟩
 rw [mz_az]
 have h1 := hc k
 have h2 := hd k
 unfold az sz at *
 rw [show f k + g k - (f' k + g' k) - (mz q m k + mz r m k) = (f k - f' k - mz q m k) + (g k - g' k - mz r m k) by omega]
 exact Int.dvd_add h1 h2
theorem rm_trans {p : Int} {m f g h : Nat → Int} (h1 : rm p m f g) (h2 : rm p m g h) : rm p m f h := by
 obtain ⟨q, hq, hc⟩ := h1; obtain ⟨r, hr, hd⟩ := h2
 refine ⟨az q r, fin_az hq hr, fun k => ?_⟩
 rw [mz_az]
 have h1 := hc k
 have h2 := hd k
 unfold az sz at *
 rw [show f k - h k - (mz q m k + mz r m k) = (f k - g k - mz q m k) + (g k - h k - mz r m k) by omega]
 exact Int.dvd_add h1 h2
theorem rm_mz {p : Int} {m f f' g : Nat → Int} (hg : fin g) (h : rm p m f f') : rm p m (mz f g) (mz f' g) := by
 obtain ⟨q, hq, hc⟩ := h
 refine ⟨mz q g, fin_mz hq hg, ?_⟩
 rw [← mz_sz, mz_assoc, mz_comm g m, ← mz_assoc]
 exact cg_mz hc
theorem rm_mz2 {p : Int} {m f f' g g' : Nat → Int} (hg : fin g) (hf : fin f') (h1 : rm p m f f') (h2 : rm p m g g') : rm p m (mz f g) (mz f' g') := by
 refine rm_trans (rm_mz hg h1) ?_
 rw [mz_comm f' g, mz_comm f' g']
 exact rm_mz hf h2
theorem rm_zero {p : Int} {m q : Nat → Int} (hq : fin q) : rm p m (mz q m) (fun _ => 0) :=
 ⟨q, hq, fun k => ⟨0, by show mz q m k - 0 - mz q m k = p * 0; omega⟩⟩
theorem dvd_unit {p x y v : Int} (hv : p ∣ y * v - 1) (h : p ∣ x * y) : p ∣ x := by
 obtain ⟨a, ha⟩ := hv
 obtain ⟨b, hb⟩ := h
 refine ⟨b * v - x * a, ?_⟩
 have h1 : x * (y * v - 1) = x * (p * a) := by rw [ha]
 rw [Int.mul_sub, ← Int.mul_assoc, hb, Int.mul_one] at h1
 have h2 : p * b * v = p * (b * v) := Int.mul_assoc _ _ _
 have h3 : x * (p * a) = p * (x * a) := by rw [← Int.mul_assoc, Int.mul_comm x p, Int.mul_assoc]
 rw [Int.mul_sub]
 omega
/-- a rest of a lesser degree is the only one -/
theorem rm_unique {p : Int} {m f g : Nat → Int} {d : Nat} {v : Int} (hv : p ∣ m d * v - 1) (hm : ∀ k, d < k → m k = 0) (hd : ∀ k, d ≤ k → p ∣ f k - g k) (h : rm p m f g) : cg p f g := by
 obtain ⟨q, ⟨N, hN⟩, hc⟩ := h
 have key : ∀ i n, n + i = N → ∀ k, n ≤ k → p ∣ q k := by
  intro i
  induction i with
  | zero => intro n hn k hk; rw [hN k (by omega)]; exact ⟨0, by omega⟩
  | succ i ih =>
   intro n hn k hk
   have ih' := ih (n + 1) (by omega)
   by_cases e : k = n
   · subst e
     have h1 := hc (k + d)
     have h2 := hd (k + d) (by omega)
     have h3 : p ∣ mz q m (k + d) - q k * m (k + d - k) := cs_but (t := fun i => q i * m (k + d - i)) _ (by omega) (fun i hi hne => by
      by_cases hlt : i < k
      · rw [hm (k + d - i) (by omega), Int.mul_zero]; exact ⟨0, by omega⟩
      · obtain ⟨c, hc'⟩ := ih' i (by omega)
        exact ⟨c * m (k + d - i), by rw [hc', Int.mul_assoc]⟩)
     rw [show k + d - k = d by omega] at h3
     have h4 : p ∣ q k * m d := by
      unfold sz at h1
      have := Int.dvd_sub (Int.dvd_sub h2 h1) h3
      rwa [show f (k + d) - g (k + d) - (f (k + d) - g (k + d) - mz q m (k + d)) - (mz q m (k + d) - q k * m d) = q k * m d by omega] at this
     exact dvd_unit hv h4
   · exact ih' k (by omega)
 intro k
 have h1 := hc k
 have h2 : p ∣ mz q m k := cs_dvd _ (fun i _ => by
  obtain ⟨c, hc'⟩ := key N 0 (by omega) i (by omega)
  exact ⟨c * m (k - i), by rw [hc', Int.mul_assoc]⟩)
 have := Int.dvd_add h1 h2
 unfold sz at this
 rwa [show f k - g k - mz q m k + mz q m k = f k - g k by omega] at this
theorem mz_one (f : Nat → Int) : mz (fun k => if k = 0 then 1 else 0) f = f := by
 funext k
 unfold mz
 rw [cs_front, cs_zero k (fun i hi => by show (if i + 1 = 0 then (1 : Int) else 0) * _ = 0; rw [if_neg (by omega), Int.zero_mul])]
 simp
theorem fin_one : fin (fun k => if k = 0 then 1 else 0) := ⟨1, fun k hk => by show (if k = 0 then (1 : Int) else 0) = 0; rw [if_neg (by omega)]⟩
/-- a polynomial's cells as a series -/
def lz (f : Nat → Nat) : Nat → Int := fun k => (cut f k : Int)
theorem fin_lz (f : Nat → Nat) : fin (lz f) := ⟨64, fun k hk => by unfold lz; rw [zcz f hk]; rfl⟩
theorem mod_dvd (p : Nat) (x : Nat) : (p : Int) ∣ ((x % p : Nat) : Int) - (x : Int) := by
 have := Nat.div_add_mod x p
 refine ⟨-((x / p : Nat) : Int), ?_⟩
 rw [Int.mul_neg, ← Int.natCast_mul]
 omega
theorem cv_mz (p : Nat) (f g : Nat → Nat) (k : Nat) : ∀ i, (p : Int) ∣ (cv p f g i k : Int) - cs i (fun j => if j ≤ k then (f j : Int) * (g (k - j) : Int) else 0)
 | 0 => ⟨0, by rw [cv_zero, cs_z]; omega⟩
 | i + 1 => by
  rw [cv_succ, cs_s]
  have h1 := mod_dvd p (cv p f g i k + (if i ≤ k then f i * g (k - i) else 0))
  have h2 := cv_mz p f g k i
  have h3 : (((if i ≤ k then f i * g (k - i) else 0 : Nat)) : Int) = (if i ≤ k then (f i : Int) * (g (k - i) : Int) else 0) := by split <;> push_cast <;> rfl
  have := Int.dvd_add h1 h2
  rw [Int.natCast_add, h3] at this
  obtain ⟨c, hc⟩ := this
  exact ⟨c, by omega⟩
theorem cs_more {t : Nat → Int} (n : Nat) : ∀ d, (∀ i, n ≤ i → i < n + d → t i = 0) → cs (n + d) t = cs n t
 | 0, _ => rfl
 | d + 1, h => by
  rw [← Nat.add_assoc, cs_s, cs_more n d (fun i h1 h2 => h i h1 (by omega)), h (n + d) (by omega) (by omega)]
  omega
/-- the coefficients of the product, modulo p -/
theorem prd_mz (p : Nat) (f g : Nat → Nat) (k : Nat) : (p : Int) ∣ (prd p f g k : Int) - mz (lz f) (lz g) k := by
 have h := cv_mz p (cut f) (cut g) k 64
 have e : cs 64 (fun j => if j ≤ k then (cut f j : Int) * (cut g (k - j) : Int) else 0) = mz (lz f) (lz g) k := by
  unfold mz lz
  by_cases hk : k + 1 ≤ 64
  · have := cs_more (t := fun j => if j ≤ k then (cut f j : Int) * (cut g (k - j) : Int) else 0) (k + 1) (64 - (k + 1)) (fun i h1 _ => by rw [if_neg (by omega)])
    rw [show k + 1 + (64 - (k + 1)) = 64 by omega] at this
    rw [this]
    exact cs_congr _ (fun i hi => by rw [if_pos (by omega)])
  · have := cs_more (t := fun j => (cut f j : Int) * (cut g (k - j) : Int)) 64 (k + 1 - 64) (fun i h1 _ => by rw [zcz f h1]; simp)
    rw [show 64 + (k + 1 - 64) = k + 1 by omega] at this
    rw [this]
    exact cs_congr _ (fun i hi => by rw [if_pos (by omega)])
 rw [e] at h
 exact h
theorem prd_cg {p : Nat} {f g : Nat → Nat} (hp : 0 < p) (h : deg f + deg g ≤ 63) : cg p (lz (prd p f g)) (mz (lz f) (lz g)) := by
 intro k
 by_cases hk : k < 64
 · have := prd_mz p f g k
   unfold lz at this ⊢
   rwa [cut_in _ hk]
 · have h0 := prd_above hp (f := f) (g := g) (k := k) (by omega)
   have := prd_mz p f g k
   unfold lz at this ⊢
   rw [zcz _ (by omega)]
   rwa [h0] at this
/-- two series of cells below p that are the same modulo p are the same -/
theorem lz_inj {p : Nat} {f g : Nat → Nat} (hf : ∀ k, k < 64 → f k < p) (hg : ∀ k, k < 64 → g k < p) (h : cg p (lz f) (lz g)) : ∀ k, k < 64 → f k = g k := by
 intro k hk
 have h1 := h k
 unfold lz at h1
 rw [cut_in _ hk, cut_in _ hk] at h1
 have h2 := hf k hk
 have h3 := hg k hk
 obtain ⟨c, hc⟩ := h1
 have : c = 0 := by
  have hp : (0 : Int) < p := by omega
  by_cases h4 : c = 0
  · exact h4
  · exfalso
    by_cases h5 : 0 < c
    · have : (p : Int) * 1 ≤ p * c := Int.mul_le_mul_of_nonneg_left (by omega) (by omega)
      omega
    · have : (p : Int) * c ≤ p * (-1) := Int.mul_le_mul_of_nonneg_left (by omega) (by omega)
      omega
 subst this
 omega
end Go.Proofs.Ytoncepgcfifgbaa
end
section
namespace Go.Proofs.Ytoncepgcfifgbaa
/-- sums and products as in the whole numbers -/
class Rg (R : Type) extends Add R, Mul R, Neg R where
 o : R
 e : R
 acomm : ∀ a b : R, a + b = b + a
 aassoc : ∀ a b c : R, a + b + c = a + (b + c)
 oadd : ∀ a : R, o + a = a
 nadd : ∀ a : R, -a + a = o
 mcomm : ∀ a b : R, a * b = b * a
 massoc : ∀ a b c : R, a * b * c = a * (b * c)
 emul : ∀ a : R, e * a = a
 madd : ∀ a b c : R, a * (b + c) = a * b + a * c
namespace Rg
variable {R : Type} [Rg R]
theorem addo (a : R) : a + o = a := by rw [acomm]; exact oadd a
theorem addm (a b c : R) : (b + c) * a = b * a + c * a := by rw [mcomm, madd, mcomm a b, mcomm a c]
theorem alcomm (a b c : R) : a + (b + c) = b + (a + c) := by rw [← aassoc, acomm a b, aassoc]
theorem cancel {a b c : R} (h : a + b = a + c) : b = c := by
 have h2 : -a + (a + b) = -a + (a + c) := by rw [h]
 rwa [← aassoc, ← aassoc, nadd, oadd, oadd] at h2
theorem mulo (a : R) : a * o = o := by
 have h : a * o + a * o = a * o + o := by rw [← madd, oadd, addo]
 exact cancel h
theorem omul (a : R) : o * a = o := by rw [mcomm]; exact mulo a
/-- a^n -/
def pw (a : R) : Nat → R
 | 0 => e
 | n + 1 => a * pw a n
/-- k times a -/
def nm : Nat → R → R
 | 0, _ => o
 | k + 1, a => nm k a + a
theorem nm_add (a : R) (j : Nat) : ∀ k, nm (j + k) a = nm j a + nm k a
 | 0 => (addo _).symm
 | k + 1 => by show nm (j + k) a + a = nm j a + (nm k a + a); rw [nm_add a j k, aassoc]
theorem nm_mul (a b : R) : ∀ k, nm k a * b = nm k (a * b)
 | 0 => omul b
 | k + 1 => by show (nm k a + a) * b = nm k (a * b) + a * b; rw [addm, nm_mul a b k]
theorem nm_nm (a : R) (j : Nat) : ∀ k, nm k (nm j a) = nm (j * k) a
 | 0 => rfl
 | k + 1 => by show nm k (nm j a) + nm j a = nm (j * k + j) a; rw [nm_nm a j k, nm_add]
theorem nm_char {p : Nat} (h : nm p (e : R) = o) (a : R) : nm p a = o := by
 have := nm_mul e a p
 rw [h, omul, emul] at this
 exact this.symm
theorem nm_mult {p : Nat} (h : nm p (e : R) = o) (k : Nat) (a : R) : nm (p * k) a = o := by
 have h0 : ∀ k, nm k (o : R) = o := by
  intro k
  induction k with
  | zero => rfl
  | succ k ih => show nm k o + o = o; rw [ih, oadd]
 rw [← nm_nm, nm_char h, h0]
/-- the sum of c(i) x^i y^(n - i), for the n + 1 numbers of a list -/
def hm (x y : R) : List Nat → R
 | [] => o
 | c :: cs => nm c (pw y cs.length) + x * hm x y cs
def pas : Nat → List Nat → List Nat
 | q, [] => [q]
 | q, c :: cs => (q + c) :: pas c cs
def row : Nat → List Nat
 | 0 => [1]
 | n + 1 => pas 0 (row n)
/-- the sum of c(i) x^i -/
def pe : List Nat → R → R
 | [], _ => o
 | c :: cs, x => nm c e + x * pe cs x
end Rg
end Go.Proofs.Ytoncepgcfifgbaa
namespace Go.Proofs.Ytoncepgcfifgbaa
open Rg
def zS : Nat → Int := fun _ => 0
def oneS : Nat → Int := fun k => if k = 0 then 1 else 0
def TS : Nat → Int := fun k => if k = 1 then 1 else 0
theorem fin_zS : fin zS := ⟨0, fun _ _ => rfl⟩
theorem fin_TS : fin TS := ⟨2, fun k hk => by unfold TS; rw [if_neg (by omega)]⟩
theorem fin_oneS : fin oneS := fin_one
theorem az_comm (f g : Nat → Int) : az f g = az g f := by funext k; unfold az; omega
theorem az_assoc (f g h : Nat → Int) : az (az f g) h = az f (az g h) := by funext k; unfold az; omega
theorem zS_az (f : Nat → Int) : az zS f = f := by funext k; unfold az zS; omega
theorem neg_az (f : Nat → Int) : az (cz (-1) f) f = zS := by funext k; unfold az zS cz; omega
theorem mz_az2 (f g h : Nat → Int) : mz f (az g h) = az (mz f g) (mz f h) := by
 rw [mz_comm, mz_az, mz_comm g, mz_comm h]
theorem rm_cz {p : Int} {m f f' : Nat → Int} (c : Int) (h : rm p m f f') : rm p m (cz c f) (cz c f') := by
 obtain ⟨q, hq, hc⟩ := h
 refine ⟨cz c q, fin_cz c hq, fun k => ?_⟩
 rw [mz_cz]
 obtain ⟨x, hx⟩ := hc k
 unfold cz sz at *
 refine ⟨c * x, ?_⟩
 have : c * (f k - f' k - mz q m k) = c * (p * x) := by rw [hx]
 rw [Int.mul_sub, Int.mul_sub] at this
 rw [this, Int.mul_left_comm]
/-- residues modulo p and m -/
def Res (p : Int) (m : Nat → Int) : Type := Quot (fun f g : { f : Nat → Int // fin f } => rm p m f.1 g.1)
section
variable {p : Int} {m : Nat → Int}
def cl (f : Nat → Int) (hf : fin f) : Res p m := Quot.mk _ ⟨f, hf⟩
theorem cl_eq {f g : Nat → Int} {hf : fin f} {hg : fin g} : (cl f hf : Res p m) = cl g hg ↔ rm p m f g := by
 constructor
 · intro h
   have key : ∀ x y : { f : Nat → Int // fin f }, (Quot.mk (fun f g : { f : Nat → Int // fin f } => rm p m f.1 g.1) x) = Quot.mk _ y → rm p m x.1 y.1 := by
    intro x y hxy
    have h1 := congrArg (Quot.lift (fun z : { f : Nat → Int // fin f } => rm p m x.1 z.1) (by
     intro a b hab
     exact propext ⟨fun h => rm_trans h hab, fun h => rm_trans h (rm_symm hab)⟩)) hxy
    have h2 : rm p m x.1 x.1 = rm p m x.1 y.1 := h1
    rw [← h2]; exact rm_refl _ _ _
   exact key _ _ h
 · intro h; exact Quot.sound h
def rAdd (x y : Res p m) : Res p m := Quot.lift (fun f => Quot.lift (fun g => cl (az f.1 g.1) (fin_az f.2 g.2)) (by
 intro a b h; exact cl_eq.2 (rm_az (rm_refl _ _ _) h)) y) (by
 intro a b h
 induction y using Quot.ind with
 | mk g => exact cl_eq.2 (rm_az h (rm_refl _ _ _))) x
def rMul (x y : Res p m) : Res p m := Quot.lift (fun f => Quot.lift (fun g => cl (mz f.1 g.1) (fin_mz f.2 g.2)) (by
 intro a b h; exact cl_eq.2 (rm_mz2 a.2 f.2 (rm_refl _ _ _) h)) y) (by
 intro a b h
 induction y using Quot.ind with
 | mk g => exact cl_eq.2 (rm_mz g.2 h)) x
def rNeg (x : Res p m) : Res p m := Quot.lift (fun f => cl (cz (-1) f.1) (fin_cz _ f.2)) (by
 intro a b h; exact cl_eq.2 (rm_cz _ h)) x
theorem rAdd_cl {f g : Nat → Int} {hf : fin f} {hg : fin g} : rAdd (cl f hf : Res p m) (cl g hg) = cl (az f g) (fin_az hf hg) := rfl
theorem rMul_cl {f g : Nat → Int} {hf : fin f} {hg : fin g} : rMul (cl f hf : Res p m) (cl g hg) = cl (mz f g) (fin_mz hf hg) := rfl
theorem cl_congr {f g : Nat → Int} {hf : fin f} {hg : fin g} (h : f = g) : (cl f hf : Res p m) = cl g hg := by subst h; rfl
theorem res_ind {P : Res p m → Prop} (h : ∀ f hf, P (cl f hf)) (x : Res p m) : P x := by
 induction x using Quot.ind with
 | mk f => exact h f.1 f.2
instance resRg : Rg (Res p m) where
 add := rAdd
 mul := rMul
 neg := rNeg
 o := cl zS fin_zS
 e := cl oneS fin_oneS
 acomm a b := by
  induction a using res_ind with | h f hf => induction b using res_ind with | h g hg => exact cl_congr (az_comm f g)
 aassoc a b c := by
  induction a using res_ind with | h f hf => induction b using res_ind with | h g hg => induction c using res_ind with | h h hh => exact cl_congr (az_assoc f g h)
 oadd a := by induction a using res_ind with | h f hf => exact cl_congr (zS_az f)
 nadd a := by induction a using res_ind with | h f hf => exact cl_congr (neg_az f)
 mcomm a b := by
  induction a using res_ind with | h f hf => induction b using res_ind with | h g hg => exact cl_congr (mz_comm f g)
 massoc a b c := by
  induction a using res_ind with | h f hf => induction b using res_ind with | h g hg => induction c using res_ind with | h h hh => exact cl_congr (mz_assoc f g h)
 emul a := by induction a using res_ind with | h f hf => exact cl_congr (mz_one f)
 madd a b c := by
  induction a using res_ind with | h f hf => induction b using res_ind with | h g hg => induction c using res_ind with | h h hh => exact cl_congr (mz_az2 f g h)
def tt : Res p m := cl TS fin_TS
theorem fin_c (c : Nat) : fin (fun k => if k = 0 then (c : Int) else 0) := ⟨1, fun k hk => by show (if k = 0 then (c : Int) else 0) = 0; rw [if_neg (by omega)]⟩
theorem nm_cl : ∀ c : Nat, (nm c Rg.e : Res p m) = cl (fun k => if k = 0 then (c : Int) else 0) (fin_c c)
 | 0 => cl_congr (by funext k; unfold zS; split <;> rfl)
 | c + 1 => by
  show rAdd (nm c Rg.e) (cl oneS fin_oneS) = _
  rw [nm_cl c, rAdd_cl]
  exact cl_congr (by funext k; unfold az oneS; by_cases h : k = 0 <;> simp [h])
theorem mz_TS (f : Nat → Int) : mz TS f = fun k => if k = 0 then 0 else f (k - 1) := by
 funext k
 unfold mz
 cases k with
 | zero => rw [cs_s, cs_z]; simp [TS]
 | succ k =>
  rw [cs_front, cs_front, cs_zero k (fun i hi => by unfold TS; rw [if_neg (by omega), Int.zero_mul])]
  simp [TS]
def ser (cs : List Nat) : Nat → Int := fun k => ((cs.getD k 0 : Nat) : Int)
theorem fin_ser (cs : List Nat) : fin (ser cs) := ⟨cs.length, fun k hk => by unfold ser; simp [hk]⟩
theorem pe_cl : ∀ cs : List Nat, (pe cs tt : Res p m) = cl (ser cs) (fin_ser cs)
 | [] => cl_congr (by funext k; unfold zS ser; simp)
 | c :: cs => by
  show rAdd (nm c Rg.e) (rMul (cl TS fin_TS) (pe cs tt)) = _
  rw [pe_cl cs, nm_cl, rMul_cl, rAdd_cl]
  refine cl_congr ?_
  rw [mz_TS]
  funext k
  unfold az ser
  cases k with
  | zero => simp
  | succ k => simp
/-- m is monic of the degree d -/
def monS (d : Nat) (m : Nat → Int) : Prop := m d = 1 ∧ ∀ k, d < k → m k = 0
theorem mz_mono (c : Int) (j : Nat) (m : Nat → Int) (k : Nat) : mz (fun i => if i = j then c else 0) m k = if j ≤ k then c * m (k - j) else 0 := by
 unfold mz
 by_cases h : j ≤ k
 · rw [if_pos h]
   have h1 : cs (k + 1) (fun i => (if i = j then c else 0) * m (k - i)) = cs (j + 1 + (k - j)) (fun i => (if i = j then c else 0) * m (k - i)) := by rw [show j + 1 + (k - j) = k + 1 by omega]
   have more : ∀ d, cs (j + 1 + d) (fun i => (if i = j then c else 0) * m (k - i)) = cs (j + 1) (fun i => (if i = j then c else 0) * m (k - i)) := by
    intro d
    induction d with
    | zero => rfl
    | succ d ih => rw [← Nat.add_assoc, cs_s, ih, if_neg (by omega), Int.zero_mul, Int.add_zero]
   rw [h1, more, cs_s, cs_zero j (fun i hi => by rw [if_neg (by omega), Int.zero_mul]), if_pos rfl]
   omega
 · rw [if_neg h]
   exact cs_zero _ (fun i hi => by show (if i = j then c else 0) * _ = 0; rw [if_neg (by omega), Int.zero_mul])
end
theorem dvd_small {p x : Int} (h : p ∣ x) (h1 : -p < x) (h2 : x < p) : x = 0 := by
 obtain ⟨c, rfl⟩ := h
 by_cases h4 : c = 0
 · rw [h4, Int.mul_zero]
 · exfalso
   have hp : 0 < p := by omega
   by_cases h5 : 0 < c
   · have : p * 1 ≤ p * c := Int.mul_le_mul_of_nonneg_left (by omega) (by omega)
     omega
   · have : p * c ≤ p * (-1) := Int.mul_le_mul_of_nonneg_left (by omega) (by omega)
     omega
end Go.Proofs.Ytoncepgcfifgbaa
set_option linter.unusedVariables false
namespace Go.Proofs.Ytoncepgcfifgbaa
attribute [local irreducible] deg invN
/-- cells up to 127 as a series -/
def lw (f : Nat → Nat) : Nat → Int := fun k => if k < 128 then (f k : Int) else 0
theorem lw_cut (f : Nat → Nat) : lw (cut f) = lz f := by
 funext k; unfold lw lz
 by_cases h : k < 128
 · rw [if_pos h]
 · rw [if_neg h, zcz f (by omega)]; rfl
/-- a polynomial's cells, all of them -/
def ln (f : Nat → Nat) : Nat → Int := fun k => (f k : Int)
theorem lz_above {b : Nat → Nat} {m : Nat} (hb : deg b = (m : Int)) {k : Nat} (hk : m < k) : lz b k = 0 := by
 unfold lz
 by_cases h : k < 64
 · rw [cut_in b h, zero_above (f := b) (k := k) (by omega) h]; rfl
 · rw [zcz b (by omega)]; rfl
theorem take_dvd {p A c b : Nat} (hc : c ≤ p) : (p : Int) ∣ (A : Int) - ((c : Int) * (b : Int) + (((A + (p - c) * b) % p : Nat) : Int)) := by
 have h1 := mod_dvd p (A + (p - c) * b)
 have h2 : ((A + (p - c) * b : Nat) : Int) = (A : Int) + (p : Int) * (b : Int) - (c : Int) * (b : Int) := by
  have : ((p - c : Nat) : Int) = (p : Int) - (c : Int) := by omega
  rw [Int.natCast_add, Int.natCast_mul, this, Int.sub_mul]; omega
 rw [h2] at h1
 obtain ⟨x, hx⟩ := h1
 refine ⟨-x - (b : Int), ?_⟩
 rw [Int.mul_sub, Int.mul_neg]
 omega
theorem stp_cg {p inv m n : Nat} {b a : Nat → Nat} (hp : 0 < p) (hb : deg b = (m : Int)) (hmn : m ≤ n) (hn : n < 128) :
 cg p (lw a) (az (mz (fun i => if i = n - m then ((a n * inv % p : Nat) : Int) else 0) (lz b)) (lw (stp p inv m b n a))) := by
 obtain ⟨hm6, _, _⟩ := deg_top hb
 intro k
 obtain ⟨c, hc⟩ : ∃ c, c = a n * inv % p := ⟨_, rfl⟩
 have hcp : c < p := by rw [hc]; exact Nat.mod_lt _ hp
 unfold az
 rw [mz_mono, ← hc]
 unfold lw stp
 by_cases hk : k < 128
 · rw [if_pos hk, if_pos hk]
   by_cases h : n - m ≤ k ∧ k ≤ n
   · rw [if_pos h, if_pos h.1, ← hc]
     have : lz b (k - (n - m)) = (b (k - (n - m)) : Int) := by unfold lz; rw [cut_in b (by omega)]
     rw [this]
     exact take_dvd (by omega)
   · rw [if_neg h]
     by_cases h1 : n - m ≤ k
     · rw [if_pos h1, lz_above hb (by omega)]; exact ⟨0, by omega⟩
     · rw [if_neg h1]; exact ⟨0, by omega⟩
 · rw [if_neg hk, if_neg hk, if_pos (by omega), lz_above hb (by omega)]; exact ⟨0, by omega⟩
theorem qS_az {p inv m : Nat} (b a : Nat → Nat) {i : Nat} (hi : i + m ≤ 127) : ln (qS p inv m b a (i + 1)) = az (ln (qS p inv m b a i)) (fun j => if j = 127 - i - m then ((dS p inv m b a i (127 - i) * inv % p : Nat) : Int) else 0) := by
 funext k
 show ((qS p inv m b a (i + 1) k : Nat) : Int) = ((qS p inv m b a i k : Nat) : Int) + (if k = 127 - i - m then ((dS p inv m b a i (127 - i) * inv % p : Nat) : Int) else 0)
 rw [← qS_next b a hi k]
 unfold upd
 by_cases h : k = 127 - i - m
 · rw [if_pos h, if_pos h]
   have : qS p inv m b a i k = 0 := by unfold qS; rw [if_neg (by omega)]
   rw [this]; simp
 · rw [if_neg h, if_neg h]; simp
theorem dS_cg {p inv m : Nat} {b a : Nat → Nat} (hp : 0 < p) (hb : deg b = (m : Int)) : ∀ i, i + m ≤ 128 → cg p (lw a) (az (mz (ln (qS p inv m b a i)) (lz b)) (lw (dS p inv m b a i)))
 | 0, _ => by
  intro k
  unfold az
  have : mz (ln (qS p inv m b a 0)) (lz b) k = 0 := cs_zero _ (fun j _ => by unfold ln; rw [qS_zero]; simp)
  rw [this, dS_zero]; exact ⟨0, by omega⟩
 | i + 1, hi => by
  have ih := dS_cg (inv := inv) (b := b) (a := a) hp hb i (by omega)
  have hs := stp_cg (inv := inv) (a := dS p inv m b a i) hp hb (n := 127 - i) (by omega) (by omega)
  rw [qS_az b a (by omega), mz_az, dS_succ]
  intro k
  have h1 := ih k
  have h2 := hs k
  unfold az at *
  have := Int.dvd_add h1 h2
  rw [show lw a k - (mz (ln (qS p inv m b a i)) (lz b) k + lw (dS p inv m b a i) k) + (lw (dS p inv m b a i) k - (mz (fun j => if j = 127 - i - m then ((dS p inv m b a i (127 - i) * inv % p : Nat) : Int) else 0) (lz b) k + lw (stp p inv m b (127 - i) (dS p inv m b a i)) k)) = lw a k - (mz (ln (qS p inv m b a i)) (lz b) k + mz (fun j => if j = 127 - i - m then ((dS p inv m b a i (127 - i) * inv % p : Nat) : Int) else 0) (lz b) k + lw (stp p inv m b (127 - i) (dS p inv m b a i)) k) by omega] at this
  exact this
/-- long division leads back -/
theorem divW {p inv m : Nat} {b a : Nat → Nat} (hp : 0 < p) (hb : deg b = (m : Int)) : cg p (lw a) (az (mz (ln (quoW p inv m b a)) (lz b)) (lw (resW p inv m b a))) := by
 obtain ⟨hm6, _, _⟩ := deg_top hb
 exact dS_cg hp hb (128 - m) (by omega)
theorem quoP_out {p : Nat} {a b : Nat → Nat} (hp : 0 < p) (ha : ∀ k, k < 64 → a k < p) (hb : 0 ≤ deg b) {k : Nat} (hk : 64 ≤ k) : quoP p a b k = 0 := by
 obtain ⟨m, hm⟩ : ∃ m : Nat, deg b = (m : Int) := ⟨(deg b).toNat, by omega⟩
 rw [quoP_at hm]
 unfold quoW qS
 split
 · rename_i h
   unfold qd
   rw [dS_stay (N := 64) (fun j _ => cut_all hp ha j) (fun j h1 _ => zcz a h1) _ (by omega) _ (by omega), zcz a (by omega), Nat.zero_mul, Nat.zero_mod]
 · rfl
theorem resP_out {p : Nat} {a b : Nat → Nat} (hp : p = 2 ∨ p = 3 ∨ p = 5 ∨ p = 7) (ha : ∀ k, k < 64 → a k < p) (hbp : ∀ k, k < 64 → b k < p) (hb : 0 ≤ deg b) {k : Nat} (hk : 64 ≤ k) (hk2 : k < 128) : resP p a b k = 0 := by
 have hp0 : 0 < p := by omega
 obtain ⟨m, hm⟩ : ∃ m : Nat, deg b = (m : Int) := ⟨(deg b).toNat, by omega⟩
 obtain ⟨m1, m2, m3⟩ := deg_top hm
 rw [resP_at hm]
 unfold resW
 exact dS_top hp0 (fun j _ => cut_all hp0 ha j) (invF hp m2 (hbp m m1)).2.2.1 _ (by omega) k (by omega) hk2
/-- a is the quotient times b, and the rest -/
theorem divP {p : Nat} {a b : Nat → Nat} (hp : p = 2 ∨ p = 3 ∨ p = 5 ∨ p = 7) (ha : ∀ k, k < 64 → a k < p) (hbp : ∀ k, k < 64 → b k < p) (hb : 0 ≤ deg b) : cg p (lz a) (az (mz (lz (quoP p a b)) (lz b)) (lz (resP p a b))) := by
 have hp0 : 0 < p := by omega
 obtain ⟨m, hm⟩ : ∃ m : Nat, deg b = (m : Int) := ⟨(deg b).toNat, by omega⟩
 have h := divW (inv := invN p (b m)) (a := cut a) hp0 hm
 rw [lw_cut, ← quoP_at hm, ← resP_at hm] at h
 have e1 : ln (quoP p a b) = lz (quoP p a b) := by
  funext k; unfold ln lz
  by_cases hk : k < 64
  · rw [cut_in _ hk]
  · rw [zcz _ (by omega), quoP_out hp0 ha hb (by omega)]
 have e2 : lw (resP p a b) = lz (resP p a b) := by
  funext k; unfold lw lz
  by_cases hk : k < 64
  · rw [cut_in _ hk, if_pos (by omega)]
  · rw [zcz _ (by omega)]
    by_cases hk2 : k < 128
    · rw [if_pos hk2, resP_out hp ha hbp hb (by omega) hk2]
    · rw [if_neg hk2]; rfl
 rw [e1, e2] at h
 exact h
/-- m divides f -/
def dv (p : Nat) (m f : Nat → Int) : Prop := rm p m f zS
theorem dv_congr {p : Nat} {m f g : Nat → Int} (h : cg p f g) : dv p m f ↔ dv p m g :=
 ⟨fun h1 => rm_trans (rm_symm (rm_of_cg h)) h1, fun h1 => rm_trans (rm_of_cg h) h1⟩
theorem az_zS (f : Nat → Int) : az f zS = f := by rw [az_comm]; exact zS_az f
theorem dv_add {p : Nat} {m f g : Nat → Int} (h1 : dv p m f) (h2 : dv p m g) : dv p m (az f g) := by
 have := rm_az h1 h2
 rwa [zS_az] at this
theorem mz_zS (f : Nat → Int) : mz f zS = zS := by
 funext k; exact cs_zero _ (fun i _ => Int.mul_zero _)
theorem zS_mz (f : Nat → Int) : mz zS f = zS := by rw [mz_comm]; exact mz_zS f
theorem cz_zS (c : Int) : cz c zS = zS := by funext k; exact Int.mul_zero _
theorem dv_mul {p : Nat} {m f g : Nat → Int} (hg : fin g) (h : dv p m f) : dv p m (mz g f) := by
 have := rm_mz hg h
 rw [zS_mz] at this
 unfold dv; rwa [mz_comm]
theorem dv_cz {p : Nat} {m f : Nat → Int} (c : Int) (h : dv p m f) : dv p m (cz c f) := by
 have := rm_cz c h
 rwa [cz_zS] at this
theorem dv_sub {p : Nat} {m f g : Nat → Int} (h1 : dv p m (az f g)) (h2 : dv p m g) : dv p m f := by
 have := dv_add h1 (dv_cz (-1) h2)
 have e : az (az f g) (cz (-1) g) = f := by funext k; unfold az cz; omega
 rwa [e] at this
theorem dv_self {p : Nat} (m : Nat → Int) : dv p m m := by
 have := rm_zero (p := p) (m := m) fin_oneS
 have e : mz oneS m = m := mz_one m
 rw [e] at this; exact this
theorem dv_zS {p : Nat} (m : Nat → Int) : dv p m zS := rm_refl _ _ _
theorem dv_ex {p : Nat} {m f : Nat → Int} : dv p m f ↔ ∃ q, fin q ∧ cg p f (mz q m) := by
 constructor
 · rintro ⟨q, hq, hc⟩
   exact ⟨q, hq, fun k => by have := hc k; unfold sz zS at this; rwa [Int.sub_zero] at this⟩
 · rintro ⟨q, hq, hc⟩
   exact ⟨q, hq, fun k => by unfold sz zS; rw [Int.sub_zero]; exact hc k⟩
theorem dv_ab {p : Nat} {a b : Nat → Nat} {c : Nat → Int} (hp : p = 2 ∨ p = 3 ∨ p = 5 ∨ p = 7) (ha : ∀ k, k < 64 → a k < p) (hbp : ∀ k, k < 64 → b k < p) (hb : 0 ≤ deg b) :
 (dv p c (lz a) ∧ dv p c (lz b)) ↔ (dv p c (lz b) ∧ dv p c (lz (resP p a b))) := by
 have h := divP hp ha hbp hb
 constructor
 · rintro ⟨h1, h2⟩
   have h3 := (dv_congr h).1 h1
   rw [az_comm] at h3
   exact ⟨h2, dv_sub h3 (dv_mul (fin_lz _) h2)⟩
 · rintro ⟨h1, h2⟩
   exact ⟨(dv_congr h).2 (dv_add (dv_mul (fin_lz _) h1) h2), h1⟩
/-- a rest 0 is a divisor -/
theorem res_zero_iff {p : Nat} {a b : Nat → Nat} (hp : p = 2 ∨ p = 3 ∨ p = 5 ∨ p = 7) (ha : ∀ k, k < 64 → a k < p) (hbp : ∀ k, k < 64 → b k < p) (hb : 0 ≤ deg b) : deg (resP p a b) < 0 ↔ dv p (lz b) (lz a) := by
 have hp0 : 0 < p := by omega
 have h := divP hp ha hbp hb
 have zer : ∀ f : Nat → Nat, deg f < 0 → lz f = zS := by
  intro f hf
  funext k; unfold lz zS
  by_cases hk : k < 64
  · rw [cut_in f hk, deg_neg hf k hk]; rfl
  · rw [zcz f (by omega)]; rfl
 constructor
 · intro h0
   rw [zer _ h0, az_zS] at h
   exact (dv_congr h).2 (dv_mul (fin_lz _) (dv_self _))
 · intro h0
   have h1 := (dv_congr h).1 h0
   rw [az_comm] at h1
   have h2 := dv_sub h1 (dv_mul (fin_lz (quoP p a b)) (dv_self (p := p) (lz b)))
   obtain ⟨m, hm⟩ : ∃ m : Nat, deg b = (m : Int) := ⟨(deg b).toNat, by omega⟩
   obtain ⟨m1, m2, m3⟩ := deg_top hm
   obtain ⟨r1, r2⟩ := resP_deg hp ha hbp hb
   obtain ⟨_, _, i3, _⟩ := invF hp m2 (hbp m m1)
   have hu := rm_unique (d := m) (v := (invN p (b m) : Int)) (m := lz b) (f := lz (resP p a b)) (g := zS) (p := p) (by
    unfold lz; rw [cut_in b m1]
    have := mod_dvd p (invN p (b m) * b m)
    rw [i3] at this
    obtain ⟨x, hx⟩ := this
    rw [Int.natCast_mul, Int.mul_comm] at hx
    exact ⟨-x, by rw [Int.mul_neg]; omega⟩) (fun k hk => lz_above hm hk) (fun k hk => by
    have : lz (resP p a b) k = 0 := by
     unfold lz
     by_cases hk2 : k < 64
     · rw [cut_in _ hk2, zero_above (f := resP p a b) (k := k) (by omega) hk2]; rfl
     · rw [zcz _ (by omega)]; rfl
    rw [this]; exact ⟨0, by unfold zS; omega⟩) h2
   have hz : ∀ k, k < 64 → resP p a b k = 0 := by
    intro k hk
    have h3 := hu k
    unfold lz zS at h3
    rw [cut_in _ hk] at h3
    have h4 := resP_lt hp0 ha (b := b) k hk
    have := dvd_small h3 (by omega) (by omega)
    omega
   exact deg_neg_iff.2 hz
end Go.Proofs.Ytoncepgcfifgbaa
set_option linter.unusedVariables false
namespace Go.Proofs.Ytoncepgcfifgbaa
attribute [local irreducible] deg invN quoP resP
theorem lz_neg {f : Nat → Nat} (hf : deg f < 0) : lz f = zS := by
 funext k; unfold lz zS
 by_cases hk : k < 64
 · rw [cut_in f hk, deg_neg hf k hk]; rfl
 · rw [zcz f (by omega)]; rfl
theorem subP_cg {p : Nat} {f g : Nat → Nat} (hg : ∀ k, k < 64 → g k < p) : cg p (lz (subP p f g)) (az (lz f) (cz (-1) (lz g))) := by
 intro k
 show (p : Int) ∣ ((cut (subP p f g) k : Nat) : Int) - (((cut f k : Nat) : Int) + (-1) * ((cut g k : Nat) : Int))
 by_cases hk : k < 64
 · rw [cut_in _ hk, cut_in _ hk, cut_in _ hk]
   unfold subP
   have h1 := mod_dvd p (f k + p - g k)
   have := hg k hk
   have h2 : ((f k + p - g k : Nat) : Int) = (f k : Int) + (p : Int) - (g k : Int) := by omega
   rw [h2] at h1
   obtain ⟨x, hx⟩ := h1
   exact ⟨x + 1, by rw [Int.mul_add]; omega⟩
 · rw [zcz _ (by omega), zcz _ (by omega), zcz _ (by omega)]; exact ⟨0, by simp⟩
theorem sclP_cg {p : Nat} (f : Nat → Nat) (c : Nat) : cg p (lz (sclP p f c)) (cz (c : Int) (lz f)) := by
 intro k
 show (p : Int) ∣ ((cut (sclP p f c) k : Nat) : Int) - (c : Int) * ((cut f k : Nat) : Int)
 by_cases hk : k < 64
 · rw [cut_in _ hk, cut_in _ hk]
   unfold sclP
   have h1 := mod_dvd p (f k * c)
   rwa [Int.natCast_mul, Int.mul_comm (f k : Int)] at h1
 · rw [zcz _ (by omega), zcz _ (by omega)]; exact ⟨0, by simp⟩
theorem cg_cz {p : Int} {f g : Nat → Int} (c : Int) (h : cg p f g) : cg p (cz c f) (cz c g) := fun k => by
 unfold cz; rw [← Int.mul_sub]; exact Int.dvd_mul_of_dvd_right (h k)
theorem cg_eq {p : Int} {f g : Nat → Int} (h : f = g) : cg p f g := by subst h; exact cg_refl p f
/-- one column of the search -/
theorem lin_next {p : Nat} {a b q r u x v y u2 v2 : Nat → Int} {A B : Nat → Int} (hq : fin q) (hx : fin x) (hy : fin y) (hA : fin A) (hB : fin B)
 (h1 : cg p a (az (mz u A) (mz v B))) (h2 : cg p b (az (mz x A) (mz y B))) (h3 : cg p a (az (mz q b) r)) (h4 : cg p u2 (az u (cz (-1) (mz q x)))) (h5 : cg p v2 (az v (cz (-1) (mz q y)))) :
 cg p r (az (mz u2 A) (mz v2 B)) := by
 have e1 : cg p (mz u2 A) (az (mz u A) (cz (-1) (mz q (mz x A)))) := by
  refine cg_trans (cg_mz h4) (cg_eq ?_)
  rw [mz_az, mz_cz, mz_assoc]
 have e2 : cg p (mz v2 B) (az (mz v B) (cz (-1) (mz q (mz y B)))) := by
  refine cg_trans (cg_mz h5) (cg_eq ?_)
  rw [mz_az, mz_cz, mz_assoc]
 have e3 : cg p (mz q b) (az (mz q (mz x A)) (mz q (mz y B))) := by
  refine cg_trans (cg_mz2 (cg_refl _ q) h2) (cg_eq ?_)
  rw [mz_az2]
 intro k
 have d1 := e1 k; have d2 := e2 k; have d3 := e3 k; have d4 := h1 k; have d5 := h3 k
 unfold az cz at *
 obtain ⟨x1, h1⟩ := d1; obtain ⟨x2, h2⟩ := d2; obtain ⟨x3, h3⟩ := d3; obtain ⟨x4, h4⟩ := d4; obtain ⟨x5, h5⟩ := d5
 refine ⟨x4 - x5 - x3 - x1 - x2, ?_⟩
 rw [Int.mul_sub, Int.mul_sub, Int.mul_sub, Int.mul_sub]
 omega
theorem bz_main {p : Nat} {A B : Nat → Int} (hp : p = 2 ∨ p = 3 ∨ p = 5 ∨ p = 7) (hA : fin A) (hB : fin B) : ∀ (n : Nat) (a b u x v y : Nat → Nat), bzI p a b u x v y → deg b + 1 ≤ (n : Int) →
 cg p (lz a) (az (mz (lz u) A) (mz (lz v) B)) → cg p (lz b) (az (mz (lz x) A) (mz (lz y) B)) →
 (∀ k, k < 64 → (bzRun p n a b u x v y).1 k < p) ∧ 0 ≤ deg (bzRun p n a b u x v y).1 ∧
 cg p (lz (bzRun p n a b u x v y).1) (az (mz (lz (bzRun p n a b u x v y).2.1) A) (mz (lz (bzRun p n a b u x v y).2.2) B)) ∧
 (∀ c, dv p c (lz (bzRun p n a b u x v y).1) ↔ (dv p c (lz a) ∧ dv p c (lz b))) ∧
 (∀ k, k < 64 → (bzRun p n a b u x v y).2.1 k < p) ∧ (∀ k, k < 64 → (bzRun p n a b u x v y).2.2 k < p)
 | n, a, b, u, x, v, y, hI, hn, h1, h2 => by
  have hp0 : 0 < p := by omega
  by_cases hz : deg b < 0
  · rw [bzRun_stop hz]
    obtain ⟨i1, i2, i3, _, i5, _, _, _, _, _, i11⟩ := hI
    refine ⟨i1, (by show 0 ≤ deg a; omega), h1, fun c => ?_, i3, i5⟩
    rw [lz_neg hz]
    exact ⟨fun h => ⟨h, dv_zS c⟩, fun h => h.1⟩
  · cases n with
    | zero => omega
    | succ n =>
     obtain ⟨hI', hdr, hdx, hdy⟩ := bzI_next hp hI hz
     rw [bzRun_go hz]
     obtain ⟨i1, i2, i3, i4, i5, i6, _⟩ := hI
     have hb0 : 0 ≤ deg b := by omega
     have step := lin_next (p := p) (fin_lz _) (fin_lz x) (fin_lz y) hA hB h1 h2 (divP hp i1 i2 hb0)
      (cg_trans (subP_cg (fun k _ => prd_lt hp0 k)) (cg_az (cg_refl _ _) (cg_cz _ (prd_cg hp0 hdx))))
      (cg_trans (subP_cg (fun k _ => prd_lt hp0 k)) (cg_az (cg_refl _ _) (cg_cz _ (prd_cg hp0 hdy))))
     obtain ⟨r1, r2, r3, r4, r5, r6⟩ := bz_main hp hA hB n b (resP p a b) x (subP p u (prd p (quoP p a b) x)) y (subP p v (prd p (quoP p a b) y)) hI' (by push_cast at hn; omega) h2 step
     exact ⟨r1, r2, r3, fun c => (r4 c).trans (dv_ab hp i1 i2 hb0).symm, r5, r6⟩
theorem dv_unit {p : Nat} {m f : Nat → Int} {c v : Int} (hv : (p : Int) ∣ c * v - 1) : dv p m (cz c f) ↔ dv p m f := by
 refine ⟨fun h => ?_, dv_cz c⟩
 have h2 := dv_cz v h
 refine (dv_congr (fun k => ?_)).1 h2
 unfold cz
 obtain ⟨x, hx⟩ := hv
 refine ⟨f k * x, ?_⟩
 have : v * (c * f k) - f k = (c * v - 1) * f k := by rw [Int.sub_mul, Int.one_mul, ← Int.mul_assoc, Int.mul_comm v c]
 rw [this, hx, Int.mul_assoc, Int.mul_comm x]
/-- monic -/
def mon (f : Nat → Nat) (d : Nat) : Prop := deg f = (d : Int) ∧ f d = 1
theorem mon_S {f : Nat → Nat} {d : Nat} (h : mon f d) : monS d (lz f) := by
 obtain ⟨h1, _, _⟩ := deg_top h.1
 refine ⟨?_, fun k hk => lz_above h.1 hk⟩
 unfold lz; rw [cut_in f h1, h.2]; rfl
/-- the greatest common divisor: a sum of multiples, monic, and divided by all common divisors alone -/
theorem bz_all {p : Nat} {a b : Nat → Nat} (hp : p = 2 ∨ p = 3 ∨ p = 5 ∨ p = 7) (ha : ∀ k, k < 64 → a k < p) (hb : ∀ k, k < 64 → b k < p) (h : 0 ≤ deg a ∨ 0 ≤ deg b) :
 (∀ k, bzD p a b k < p) ∧ (∃ d, mon (bzD p a b) d) ∧ cg p (lz (bzD p a b)) (az (mz (lz (bzU p a b)) (lz a)) (mz (lz (bzW p a b)) (lz b))) ∧ (∀ c, dv p c (lz (bzD p a b)) ↔ (dv p c (lz a) ∧ dv p c (lz b))) := by
 have hp0 : 0 < p := by omega
 have one : lz oneP = oneS := by
  funext k; unfold lz oneS
  by_cases hk : k < 64
  · rw [cut_in _ hk]; unfold oneP; split <;> rfl
  · rw [zcz _ (by omega), if_neg (by omega)]; rfl
 have zer : lz (fun _ => 0) = zS := lz_neg (deg_neg_iff.2 (fun _ _ => rfl))
 have e1 : ∀ f, mz oneS f = f := mz_one
 obtain ⟨r1, r2, r3, r4, r5, r6⟩ := bz_main hp (fin_lz a) (fin_lz b) 65 a b oneP (fun _ => 0) (fun _ => 0) oneP (bzI_start (by omega) ha hb h) (by have := zdb b; omega)
  (by rw [one, zer, e1, zS_mz, az_zS]; exact cg_refl _ _) (by rw [one, zer, e1, zS_mz, zS_az]; exact cg_refl _ _)
 have hV : bzV p a b = bzRun p 65 a b oneP (fun _ => 0) (fun _ => 0) oneP := rfl
 rw [← hV] at r1 r2 r3 r4
 obtain ⟨d, hd⟩ : ∃ d : Nat, deg (bzV p a b).1 = (d : Int) := ⟨(deg (bzV p a b).1).toNat, by omega⟩
 obtain ⟨d1, d2, d3⟩ := deg_top hd
 obtain ⟨i1, i2, i3, _⟩ := invF hp d2 (r1 d d1)
 have hc : bzC p a b = invN p ((bzV p a b).1 d) := by unfold bzC; rw [hd]; rfl
 obtain ⟨c, hcc⟩ : ∃ c, c = invN p ((bzV p a b).1 d) := ⟨_, rfl⟩
 rw [← hcc] at hc i1 i2 i3
 have hD : bzD p a b = sclP p (bzV p a b).1 c := by unfold bzD; rw [hc]
 have hU : bzU p a b = sclP p (bzV p a b).2.1 c := by unfold bzU; rw [hc]
 have hW : bzW p a b = sclP p (bzV p a b).2.2 c := by unfold bzW; rw [hc]
 have lead : bzD p a b d = 1 := by rw [hD]; unfold sclP; rw [Nat.mul_comm]; exact i3
 have degD : deg (bzD p a b) = (d : Int) := by
  have h1 := deg_le (f := bzD p a b) (d := (d : Int)) (by omega) (fun k hk hk2 => by rw [hD]; unfold sclP; rw [d3 k (by omega) hk2, Nat.zero_mul, Nat.zero_mod])
  have h2 : ¬ deg (bzD p a b) < (d : Int) := by
   intro h
   have := zero_above h d1
   omega
  omega
 refine ⟨fun k => by rw [hD]; exact Nat.mod_lt _ hp0, ⟨d, degD, lead⟩, ?_, fun c' => ?_⟩
 · rw [hD, hU, hW]
   have s1 := sclP_cg (p := p) (bzV p a b).1 c
   have s2 := cg_mz (g := lz a) (sclP_cg (p := p) (bzV p a b).2.1 c)
   have s3 := cg_mz (g := lz b) (sclP_cg (p := p) (bzV p a b).2.2 c)
   rw [mz_cz] at s2 s3
   refine cg_trans s1 (cg_trans (cg_cz _ r3) (cg_trans (cg_eq ?_) (cg_symm (cg_az s2 s3))))
   funext k; unfold az cz; rw [Int.mul_add]
 · rw [hD]
   refine (dv_congr (sclP_cg (bzV p a b).1 c)).trans ((dv_unit (v := ((bzV p a b).1 d : Int)) ?_).trans (r4 c'))
   have := mod_dvd p (c * (bzV p a b).1 d)
   rw [i3] at this
   obtain ⟨x, hx⟩ := this
   rw [Int.natCast_mul] at hx
   exact ⟨-x, by rw [Int.mul_neg]; omega⟩
/-- a divisor of something other than 0 has no greater degree -/
theorem dv_deg {p : Nat} {f g : Nat → Nat} {d : Nat} (hg : ∀ k, k < 64 → g k < p) (hm : mon f d) (h : dv p (lz f) (lz g)) (h0 : 0 ≤ deg g) : (d : Int) ≤ deg g := by
 by_cases hlt : (d : Int) ≤ deg g
 · exact hlt
 · exfalso
   have hu := rm_unique (d := d) (v := 1) (m := lz f) (f := lz g) (g := zS) (p := p) (by rw [(mon_S hm).1]; exact ⟨0, by omega⟩) (mon_S hm).2 (fun k hk => by
    have : lz g k = 0 := by
     unfold lz
     by_cases hk2 : k < 64
     · rw [cut_in _ hk2, zero_above (f := g) (k := k) (by omega) hk2]; rfl
     · rw [zcz _ (by omega)]; rfl
    rw [this]; exact ⟨0, by unfold zS; omega⟩) h
   have : deg g < 0 := deg_neg_iff.2 (fun k hk => by
    have h3 := hu k
    unfold lz zS at h3
    rw [cut_in _ hk] at h3
    have := hg k hk
    have := dvd_small h3 (by omega) (by omega)
    omega)
   omega
theorem one_of_mon0 {f : Nat → Nat} (h : mon f 0) : lz f = oneS := by
 funext k; unfold lz oneS
 by_cases hk : k < 64
 · rw [cut_in _ hk]
   by_cases h0 : k = 0
   · subst h0; rw [if_pos rfl, h.2]; rfl
   · rw [if_neg h0, zero_above (f := f) (k := k) (by have := h.1; omega) hk]; rfl
 · rw [zcz _ (by omega), if_neg (by omega)]; rfl
end Go.Proofs.Ytoncepgcfifgbaa
set_option linter.unusedVariables false
namespace Go.Proofs.Ytoncepgcfifgbaa
attribute [local irreducible] deg invN quoP resP
theorem ofN_lt {p : Nat} (hp : 0 < p) (N k : Nat) : ofN p N k < p := Nat.mod_lt _ hp
/-- the numbers of the monic polynomials of the degree n -/
def monL (p n : Nat) : List Nat := List.range' (p ^ n) (p ^ n)
theorem monL_mem {p n N : Nat} : N ∈ monL p n ↔ p ^ n ≤ N ∧ N < 2 * p ^ n := by
 unfold monL; rw [List.mem_range'_1]; omega
theorem ofN_high {p n N k : Nat} (hp : 2 ≤ p) (h : N < 2 * p ^ n) (hk : n < k) : ofN p N k = 0 := by
 unfold ofN dgt
 have h1 : p ^ (n + 1) ≤ p ^ k := Nat.pow_le_pow_right (by omega) hk
 have h2 : 2 * p ^ n ≤ p * p ^ n := Nat.mul_le_mul_right _ hp
 rw [Nat.pow_succ'] at h1
 rw [Nat.div_eq_of_lt (by omega), Nat.zero_mod]
theorem ofN_top {p n N : Nat} (hp : 2 ≤ p) (h1 : p ^ n ≤ N) (h2 : N < 2 * p ^ n) : ofN p N n = 1 := by
 unfold ofN dgt
 have hpos : 0 < p ^ n := Nat.pow_pos (by omega)
 have : N / p ^ n = 1 := by
  have e : N = (N - p ^ n) + p ^ n * 1 := by omega
  rw [e, Nat.add_mul_div_left _ _ hpos, Nat.div_eq_of_lt (by omega)]
 rw [this, Nat.mod_eq_of_lt (by omega)]
theorem mon_ofN {p n N : Nat} (hp : 2 ≤ p) (hn : n < 64) (h : N ∈ monL p n) : mon (ofN p N) n := by
 obtain ⟨h1, h2⟩ := monL_mem.1 h
 have ht := ofN_top hp h1 h2
 refine ⟨?_, ht⟩
 have a := deg_le (f := ofN p N) (d := (n : Int)) (by omega) (fun k hk _ => ofN_high hp h2 (by omega))
 have b : ¬ deg (ofN p N) < (n : Int) := by
  intro hlt
  have := zero_above hlt hn
  omega
 omega
theorem lz_congr {f g : Nat → Nat} (h : ∀ k, k < 64 → f k = g k) : lz f = lz g := by
 funext k; unfold lz
 by_cases hk : k < 64
 · rw [cut_in _ hk, cut_in _ hk, h k hk]
 · rw [zcz _ (by omega), zcz _ (by omega)]
/-- how often m divides a, and what is left -/
def dvo (p : Nat) (m : Nat → Nat) : Nat → (Nat → Nat) → Nat × (Nat → Nat)
 | 0, a => (0, a)
 | f + 1, a => if deg (resP p a m) < 0 then ((dvo p m f (quoP p a m)).1 + 1, (dvo p m f (quoP p a m)).2) else (0, a)
end Go.Proofs.Ytoncepgcfifgbaa
set_option linter.unusedVariables false
namespace Go.Proofs.Ytoncepgcfifgbaa
attribute [local irreducible] deg invN quoP resP
/-- all of a list, divided out one after the other: what is told, and what is left -/
def foR (p : Nat) : List Nat → (Nat → Nat) → List (Nat × Nat) × (Nat → Nat)
 | [], a => ([], a)
 | N :: ms, a => ((if 0 < (dvo p (ofN p N) 64 a).1 then [(N, (dvo p (ofN p N) 64 a).1)] else []) ++ (foR p ms (dvo p (ofN p N) 64 a).2).1, (foR p ms (dvo p (ofN p N) 64 a).2).2)
/-- degree by degree -/
def run (p : Nat) : Nat → Nat → (Nat → Nat) → List (Nat × Nat)
 | 0, _, _ => []
 | f + 1, n, a => if deg a ≤ 0 then [] else (foR p (monL p n) a).1 ++ run p f (n + 1) (foR p (monL p n) a).2
end Go.Proofs.Ytoncepgcfifgbaa
set_option linter.unusedVariables false
set_option linter.unusedVariables false
set_option linter.unusedVariables false
set_option linter.unusedVariables false
namespace Go.Proofs.Ytoncepgcfifgbaa
attribute [local irreducible] deg invN quoP resP
theorem addK_lt {p : Nat} {f g : Nat → Nat} {c : Int} (hp : 0 < p) (k : Nat) : addK p f g c k < p := by
 unfold addK
 have h1 : 0 ≤ ((f k : Int) + c * (g k : Int)) % (p : Int) := Int.emod_nonneg _ (by omega)
 have h2 := Int.emod_lt_of_pos ((f k : Int) + c * (g k : Int)) (b := (p : Int)) (by omega)
 omega
end Go.Proofs.Ytoncepgcfifgbaa
end
section
namespace Go.Proofs.Ytoncepgcfifgbaa
open Go.RowKit
set_option linter.unusedVariables false
set_option linter.unusedSimpArgs false
attribute [local irreducible] deg invN dS qS stp stpr quoP resP oneP
set_option maxRecDepth 100000 in
set_option maxHeartbeats 3000000 in
theorem l01Bezout_any (p : Nat) (A B : Nat → Nat) (w : World) (hp : p = 2 ∨ p = 3 ∨ p = 5 ∨ p = 7) (hA : ∀ k, k < 64 → A k < p) (hB : ∀ k, k < 64 → B k < p) (hd : 0 ≤ deg A ∨ 0 ≤ deg B) :
 Calls Try.prog 171 #[.int .i64 (p : Int), .agg (zb 64 A), .agg (zb 64 B)] w fun e w' => e = .returned (.tuple #[.agg (zb 64 (bzD p A B)), .agg (zb 64 (bzU p A B)), .agg (zb 64 (bzW p A B))]) ∧ Below w.heap.size w w' := by
 have p2 : 2 ≤ p := by omega
 have p7 : p ≤ 7 := by omega
 have p0 : 0 < p := by omega
 have HI0 := Lib.hid (bzI_start p2 hA hB hd)
 clear hA hB hd
 go_enter Try.func171, Try.ntmps171
 go_upto_region 1 with (fail)
 rw [← z64]
 obtain ⟨wo, hwo⟩ : ∃ wo : World, wo = (((((w.alloc (.cells (zb 64 A) 23)).alloc (.cells (zb 64 B) 23)).alloc (.cells (zb 64 fun _ => 0) 23)).alloc (.cells (zb 64 fun _ => 0) 23)).alloc (.cells (zb 64 fun _ => 0) 23)) := ⟨_, rfl⟩
 have b0 : Blk wo (w.heap.size) 64 23 A := by subst hwo; have := (((((Blk.new w 64 23 A).alloc (.cells (zb 64 B) 23)).alloc (.cells (zb 64 fun _ => 0) 23)).alloc (.cells (zb 64 fun _ => 0) 23)).alloc (.cells (zb 64 fun _ => 0) 23)); simpa using this
 have b1 : Blk wo (w.heap.size + 1) 64 23 B := by subst hwo; have := ((((Blk.new (w.alloc (.cells (zb 64 A) 23)) 64 23 B).alloc (.cells (zb 64 fun _ => 0) 23)).alloc (.cells (zb 64 fun _ => 0) 23)).alloc (.cells (zb 64 fun _ => 0) 23)); simpa using this
 have b2 : Blk wo (w.heap.size + 1 + 1) 64 23 (fun _ => 0) := by subst hwo; have := (((Blk.new ((w.alloc (.cells (zb 64 A) 23)).alloc (.cells (zb 64 B) 23)) 64 23 (fun _ => 0)).alloc (.cells (zb 64 fun _ => 0) 23)).alloc (.cells (zb 64 fun _ => 0) 23)); simpa using this
 have b3 : Blk wo (w.heap.size + 1 + 1 + 1) 64 23 (fun _ => 0) := by subst hwo; have := ((Blk.new (((w.alloc (.cells (zb 64 A) 23)).alloc (.cells (zb 64 B) 23)).alloc (.cells (zb 64 fun _ => 0) 23)) 64 23 (fun _ => 0)).alloc (.cells (zb 64 fun _ => 0) 23)); simpa using this
 have b4 : Blk wo (w.heap.size + 1 + 1 + 1 + 1) 64 23 (fun _ => 0) := by subst hwo; have := (Blk.new ((((w.alloc (.cells (zb 64 A) 23)).alloc (.cells (zb 64 B) 23)).alloc (.cells (zb 64 fun _ => 0) 23)).alloc (.cells (zb 64 fun _ => 0) 23)) 64 23 (fun _ => 0)); simpa using this
 have hb : Below w.heap.size w wo := by subst hwo; exact ((((((Below.refl _ _).alloc (Nat.le_refl _) _).alloc (by simp) _).alloc (by simp; omega) _).alloc (by simp; omega) _).alloc (by simp; omega) _)
 rw [← hwo]
 clear hwo
 have ha : Below wo.heap.size wo wo := Below.refl _ _
 have HX := Lib.hid (fun W => new4 W oneP (fun _ => 0) (fun _ => 0) oneP)
 go_wp2_with (first | (go_at_call 90; refine (acc (l01One_any _) (by assumption)).mono ?_; rintro e w1 ⟨rfl, h1, ha⟩) | (rw [← z64]; refine wpList_store_blk rfl 23 (.tmp 9) (.tmp 22) rfl _ 64 oneP rfl rfl 23 _ (HX.out w1).1 Try.size23 ?_) | (refine wpList_store_blk rfl 23 (.tmp 10) (.tmp 23) rfl _ 64 (fun _ => 0) rfl rfl 23 _ (HX.out w1).2.1 Try.size23 ?_) | (refine wpList_store_blk rfl 23 (.tmp 11) (.tmp 24) rfl _ 64 (fun _ => 0) rfl rfl 23 _ (HX.out w1).2.2.1 Try.size23 ?_) | (refine wpList_store_blk rfl 23 (.tmp 12) (.tmp 25) rfl _ 64 oneP rfl rfl 23 _ (HX.out w1).2.2.2.1 Try.size23 ?_))
 obtain ⟨_, _, _, _, f9, f10, f11, f12, hb4⟩ := HX.out w1
 obtain ⟨w4, hw4⟩ : ∃ w4 : World, w4 = ((((((((w1.alloc (.cells (zb 64 fun _ => 0) 23)).alloc (.cells (zb 64 fun _ => 0) 23)).alloc (.cells (zb 64 fun _ => 0) 23)).alloc (.cells (zb 64 fun _ => 0) 23)).setRow (w1.heap.size) (zb 64 oneP)).setRow (w1.heap.size + 1) (zb 64 (fun _ => 0))).setRow (w1.heap.size + 1 + 1) (zb 64 (fun _ => 0))).setRow (w1.heap.size + 1 + 1 + 1) (zb 64 oneP)) := ⟨_, rfl⟩
 rw [← hw4] at f9 f10 f11 f12 hb4 ⊢
 clear hw4 HX
 replace b0 := b0.zw ha
 replace b1 := b1.zw ha
 replace b2 := b2.zw ha
 replace b3 := b3.zw ha
 replace b4 := b4.zw ha
 have hl4 := b4.lt
 replace b0 := b0.zw hb4
 replace b1 := b1.zw hb4
 replace b2 := b2.zw hb4
 replace b3 := b3.zw hb4
 replace b4 := b4.zw hb4
 replace hb := hb.trans (ha.mono hb.size)
 replace hb := hb.trans (hb4.mono hb.size)
 clear ha h1 hb4
 obtain ⟨N, hN⟩ : ∃ N, N = w1.heap.size := ⟨_, rfl⟩
 rw [← hN] at f9 f10 f11 f12 hl4 ⊢
 clear hN
 simp only [Act.put]
 go_loopw [27] (fun i wr => ∃ (k : Nat) (pa pb pu px pv py : Nat → Nat), bzV p A B = bzRun p k pa pb pu px pv py ∧ deg pb + 1 ≤ (k : Int) ∧ bzI p pa pb pu px pv py ∧ Below w.heap.size w wr ∧ Blk wr w.heap.size 64 23 pa ∧ Blk wr (w.heap.size + 1) 64 23 pb ∧ Blk wr (w.heap.size + 1 + 1) 64 23 (fun _ => 0) ∧ Blk wr (w.heap.size + 1 + 1 + 1) 64 23 (fun _ => 0) ∧ Blk wr (w.heap.size + 1 + 1 + 1 + 1) 64 23 (fun _ => 0) ∧ Blk wr N 64 23 pu ∧ Blk wr (N + 1) 64 23 px ∧ Blk wr (N + 1 + 1) 64 23 pv ∧ Blk wr (N + 1 + 1 + 1) 64 23 py) (fun _ wr => degAt wr (w.heap.size + 1))
 case atStart => exact ⟨65, A, B, oneP, fun _ => 0, fun _ => 0, oneP, rfl, by have := zdb B; omega, HI0.out, hb, b0, b1, b2, b3, b4, f9, f10, f11, f12⟩
 case round =>
  clear hb b0 b1 b2 b3 b4 f9 f10 f11 f12
  obtain ⟨k, pa, pb, pu, px, pv, py, hrun, hk, hI, hb, b0, b1, b2, b3, b4, f9, f10, f11, f12⟩ := hrel
  have ⟨ia, ib, iu, ix, iv, iy, d1, d2, d3, d4, d5⟩ := hI
  by_cases hz : deg pb < 0
  · have hV := hrun.trans (bzRun_stop hz)
    obtain ⟨m, hm⟩ : ∃ m : Nat, deg pa = (m : Int) := ⟨(deg pa).toNat, by omega⟩
    obtain ⟨hm6, ham, _⟩ := deg_top hm
    obtain ⟨c, hc⟩ : ∃ c, c = bzC p A B := ⟨_, rfl⟩
    have hci : invN p (pa m) = c := by rw [hc]; unfold bzC; rw [hV]; show invN p (pa m) = invN p (pa (deg pa).toNat); rw [hm]; rfl
    have hcp : c < p := by rw [← hci]; exact (invF hp ham (ia m hm6)).2.1
    have HR := Lib.hid (show bzD p A B = sclP p pa c ∧ bzU p A B = sclP p pu c ∧ bzW p A B = sclP p pv c by
     unfold bzD bzU bzW; rw [← hc, hV]; exact ⟨rfl, rfl, rfl⟩)
    have HS := Lib.hid (show ∀ (f : Nat → Nat), (∀ i, i < 64 → f i < p) → ∀ W, Calls Try.prog 153 #[.int .i64 (p : Int), .agg (zb 64 fun _ => 0), .agg (zb 64 f), .int .i64 (c : Int)] W fun e w' => e = .returned (.agg (zb 64 (sclP p f c))) ∧ Below W.heap.size W w' by
     intro f hf W
     have := l01Add_any p (fun _ => 0) f (c : Int) W p2 p7 (by omega) (by omega) (fun _ _ => p0) hf
     rwa [addK_scl] at this)
    have HM := Lib.hid hm
    have HC := Lib.hid hci
    have HIA := Lib.hid ia; have HIU := Lib.hid iu; have HIV := Lib.hid iv
    have ha : Below wr.heap.size wr wr := Below.refl _ _
    clear hV hrun hI hk ib ix iy d1 d2 d3 d4 d5 hc hci hm
    go_upto_region 14 with (first | (refine zlb rfl 23 (.tmp 5) rfl _ rfl 64 23 _ (b1.below (by assumption) b1.lt) 5 Try.underlying23 Try.size23 ?_) | (refine zlb rfl 23 (.tmp 4) rfl _ rfl 64 23 _ (b0.below (by assumption) b0.lt) 5 Try.underlying23 Try.size23 ?_) | (go_at_call 88; refine (acc (l01Deg_any _ _) (by assumption)).mono ?_; rintro e w5 ⟨rfl, h5, ha⟩; rw [HM.out]; have c0 := (b0.zw ha).cell (i := m) hm6) | (go_at_call 88; refine (acc (l01Deg_any _ _) (by assumption)).mono ?_; rintro e w5 ⟨rfl, h5, ha⟩) | (go_at_call 156; refine (l01Inverse_any p (pa m) _ hp ham (HIA.out m hm6)).mono ?_; rintro e w5 ⟨rfl, rfl⟩; rw [HC.out]))
    replace b0 := b0.zw ha
    replace b2 := b2.zw ha
    replace b3 := b3.zw ha
    replace b4 := b4.zw ha
    replace f9 := f9.zw ha
    replace f11 := f11.zw ha
    replace hb := hb.trans (ha.mono hb.size)
    clear c0 ha h5 b1 f10 f12
    have lt_b0 : (w.heap.size) < w5.heap.size := b0.lt
    have lt_f9 : (N) < w5.heap.size := f9.lt
    have lt_f11 : (N + 1 + 1) < w5.heap.size := f11.lt
    have lt_b2 : (w.heap.size + 1 + 1) < w5.heap.size := b2.lt
    have lt_b3 : (w.heap.size + 1 + 1 + 1) < w5.heap.size := b3.lt
    have lt_b4 : (w.heap.size + 1 + 1 + 1 + 1) < w5.heap.size := b4.lt
    have hbase : w.heap.size ≤ w5.heap.size := hb.size
    refine zq Try.mixed (by kernel_rfl) (by kernel_rfl) (fun v => by (simp only [frL, Act.put, pA, pB, pC, Nat.reduceAdd, Nat.zero_add]; exact rfl))
     (fun L v wx => Below w.heap.size w wx ∧ w5.heap.size ≤ wx.heap.size ∧ Blk wx (w.heap.size) 64 23 (pa) ∧ Blk wx (N) 64 23 (pu) ∧ Blk wx (N + 1 + 1) 64 23 (pv) ∧ (∃ g, Blk wx (w.heap.size + 1 + 1) 64 23 (g)) ∧ (L 15 = false → Blk wx (w.heap.size + 1 + 1) 64 23 (fun _ => 0)) ∧ (L 15 = true → Blk wx (w.heap.size + 1 + 1) 64 23 (sclP p pa c)) ∧ (∃ g, Blk wx (w.heap.size + 1 + 1 + 1) 64 23 (g)) ∧ (L 16 = false → Blk wx (w.heap.size + 1 + 1 + 1) 64 23 (fun _ => 0)) ∧ (L 16 = true → Blk wx (w.heap.size + 1 + 1 + 1) 64 23 (sclP p pu c)) ∧ (∃ g, Blk wx (w.heap.size + 1 + 1 + 1 + 1) 64 23 (g)) ∧ (L 17 = false → Blk wx (w.heap.size + 1 + 1 + 1 + 1) 64 23 (fun _ => 0)) ∧ (L 17 = true → Blk wx (w.heap.size + 1 + 1 + 1 + 1) 64 23 (sclP p pv c)) ∧ (L 0 = true → v 0 = (.int .i64 (p : Int))) ∧ (L 1 = true → v 1 = (.agg (zb 64 (fun _ => 0)))) ∧ (L 2 = true → v 2 = (.agg (zb 64 (pa)))) ∧ (L 3 = true → v 3 = (.int .i64 (c : Int))) ∧ (L 4 = true → v 4 = (.agg (zb 64 (sclP p pa c)))) ∧ (L 5 = true → v 5 = (.int .i64 (p : Int))) ∧ (L 6 = true → v 6 = (.agg (zb 64 (fun _ => 0)))) ∧ (L 7 = true → v 7 = (.agg (zb 64 (pu)))) ∧ (L 8 = true → v 8 = (.int .i64 (c : Int))) ∧ (L 9 = true → v 9 = (.agg (zb 64 (sclP p pu c)))) ∧ (L 10 = true → v 10 = (.int .i64 (p : Int))) ∧ (L 11 = true → v 11 = (.agg (zb 64 (fun _ => 0)))) ∧ (L 12 = true → v 12 = (.agg (zb 64 (pv)))) ∧ (L 13 = true → v 13 = (.int .i64 (c : Int))) ∧ (L 14 = true → v 14 = (.agg (zb 64 (sclP p pv c))))) ?_ ?_ ?_
    · intro v hv0
      exact ⟨hb.drew, Nat.le_refl _, b0.drew, f9.drew, f11.drew, ⟨_, b2.drew⟩, (fun _ => b2.drew), (fun h => by cases h), ⟨_, b3.drew⟩, (fun _ => b3.drew), (fun h => by cases h), ⟨_, b4.drew⟩, (fun _ => b4.drew), (fun h => by cases h), (fun h => by cases h), (fun h => by cases h), (fun h => by cases h), (fun h => by cases h), (fun h => by cases h), (fun h => by cases h), (fun h => by cases h), (fun h => by cases h), (fun h => by cases h), (fun h => by cases h), (fun h => by cases h), (fun h => by cases h), (fun h => by cases h), (fun h => by cases h), (fun h => by cases h)⟩
    · refine (.cons rfl ?_ (.cons rfl ?_ (.cons rfl ?_ (.cons rfl ?_ (.cons rfl ?_ (.cons rfl ?_ (.cons rfl ?_ (.cons rfl ?_ (.cons rfl ?_ (.cons rfl ?_ (.cons rfl ?_ (.cons rfl ?_ (.cons rfl ?_ (.cons rfl ?_ (.cons rfl ?_ (.cons rfl ?_ (.cons rfl ?_ (.cons rfl ?_ (.nil _)))))))))))))))))))
      all_goals intro L v wx hd hn ⟨hB, hz, s0, s1, s2, x3, q3, n3, x4, q4, n4, x5, q5, n5, h0, h1, h2, h3, h4, h5, h6, h7, h8, h9, h10, h11, h12, h13, h14⟩ K hK
      · go_wp2_with fail
        exact hK _ (.int .i64 (p : Int)) _ (by simp only [Act.put, pA, pB, pC ]) ⟨hB, hz, s0, s1, s2, x3, q3, n3, x4, q4, n4, x5, q5, n5, (fun _ => rfl), h1, h2, h3, h4, h5, h6, h7, h8, h9, h10, h11, h12, h13, h14⟩
      · go_wp2_with fail
        rw [← z64]
        exact hK _ (.agg (zb 64 (fun _ => 0))) _ (by simp only [Act.put, pA, pB, pC ]) ⟨hB, hz, s0, s1, s2, x3, q3, n3, x4, q4, n4, x5, q5, n5, h0, (fun _ => rfl), h2, h3, h4, h5, h6, h7, h8, h9, h10, h11, h12, h13, h14⟩
      · refine wp_load_blk 23 _ rfl _ rfl 64 23 _ s0 _ Try.underlying23 Try.size23 ?_
        exact hK _ _ _ rfl ⟨hB, hz, s0, s1, s2, x3, q3, n3, x4, q4, n4, x5, q5, n5, h0, h1, (fun _ => rfl), h3, h4, h5, h6, h7, h8, h9, h10, h11, h12, h13, h14⟩
      · go_wp2_with fail
        exact hK _ (.int .i64 (c : Int)) _ (by simp only [Act.put, pA, pB, pC ]) ⟨hB, hz, s0, s1, s2, x3, q3, n3, x4, q4, n4, x5, q5, n5, h0, h1, h2, (fun _ => rfl), h4, h5, h6, h7, h8, h9, h10, h11, h12, h13, h14⟩
      · have e0 := h0 (zdq hd 0 rfl)
        have e1 := h1 (zdq hd 1 rfl)
        have e2 := h2 (zdq hd 2 rfl)
        have e3 := h3 (zdq hd 3 rfl)
        go_wp2_with (go_at_call 153; refine (HS.out pa HIA.out _).mono ?_; rintro e wy ⟨rfl, hy⟩)
        exact hK _ (.agg (zb 64 (sclP p pa c))) _ (by simp only [Act.put, pA, pB, pC, e0, e1, e2, e3]) ⟨hB.trans (hy.mono hB.size), (Nat.le_trans hz hy.size), s0.zw hy, s1.zw hy, s2.zw hy, (let ⟨g, h⟩ := x3; ⟨g, h.zw hy⟩), (fun h => (q3 h).below hy (q3 h).lt), (fun h => (n3 h).below hy (n3 h).lt), (let ⟨g, h⟩ := x4; ⟨g, h.zw hy⟩), (fun h => (q4 h).below hy (q4 h).lt), (fun h => (n4 h).below hy (n4 h).lt), (let ⟨g, h⟩ := x5; ⟨g, h.zw hy⟩), (fun h => (q5 h).below hy (q5 h).lt), (fun h => (n5 h).below hy (n5 h).lt), h0, h1, h2, h3, (fun _ => rfl), h5, h6, h7, h8, h9, h10, h11, h12, h13, h14⟩
      · go_wp2_with fail
        exact hK _ (.int .i64 (p : Int)) _ (by simp only [Act.put, pA, pB, pC ]) ⟨hB, hz, s0, s1, s2, x3, q3, n3, x4, q4, n4, x5, q5, n5, h0, h1, h2, h3, h4, (fun _ => rfl), h6, h7, h8, h9, h10, h11, h12, h13, h14⟩
      · go_wp2_with fail
        rw [← z64]
        exact hK _ (.agg (zb 64 (fun _ => 0))) _ (by simp only [Act.put, pA, pB, pC ]) ⟨hB, hz, s0, s1, s2, x3, q3, n3, x4, q4, n4, x5, q5, n5, h0, h1, h2, h3, h4, h5, (fun _ => rfl), h7, h8, h9, h10, h11, h12, h13, h14⟩
      · refine wp_load_blk 23 _ rfl _ rfl 64 23 _ s1 _ Try.underlying23 Try.size23 ?_
        exact hK _ _ _ rfl ⟨hB, hz, s0, s1, s2, x3, q3, n3, x4, q4, n4, x5, q5, n5, h0, h1, h2, h3, h4, h5, h6, (fun _ => rfl), h8, h9, h10, h11, h12, h13, h14⟩
      · go_wp2_with fail
        exact hK _ (.int .i64 (c : Int)) _ (by simp only [Act.put, pA, pB, pC ]) ⟨hB, hz, s0, s1, s2, x3, q3, n3, x4, q4, n4, x5, q5, n5, h0, h1, h2, h3, h4, h5, h6, h7, (fun _ => rfl), h9, h10, h11, h12, h13, h14⟩
      · have e5 := h5 (zdq hd 5 rfl)
        have e6 := h6 (zdq hd 6 rfl)
        have e7 := h7 (zdq hd 7 rfl)
        have e8 := h8 (zdq hd 8 rfl)
        go_wp2_with (go_at_call 153; refine (HS.out pu HIU.out _).mono ?_; rintro e wy ⟨rfl, hy⟩)
        exact hK _ (.agg (zb 64 (sclP p pu c))) _ (by simp only [Act.put, pA, pB, pC, e5, e6, e7, e8]) ⟨hB.trans (hy.mono hB.size), (Nat.le_trans hz hy.size), s0.zw hy, s1.zw hy, s2.zw hy, (let ⟨g, h⟩ := x3; ⟨g, h.zw hy⟩), (fun h => (q3 h).below hy (q3 h).lt), (fun h => (n3 h).below hy (n3 h).lt), (let ⟨g, h⟩ := x4; ⟨g, h.zw hy⟩), (fun h => (q4 h).below hy (q4 h).lt), (fun h => (n4 h).below hy (n4 h).lt), (let ⟨g, h⟩ := x5; ⟨g, h.zw hy⟩), (fun h => (q5 h).below hy (q5 h).lt), (fun h => (n5 h).below hy (n5 h).lt), h0, h1, h2, h3, h4, h5, h6, h7, h8, (fun _ => rfl), h10, h11, h12, h13, h14⟩
      · go_wp2_with fail
        exact hK _ (.int .i64 (p : Int)) _ (by simp only [Act.put, pA, pB, pC ]) ⟨hB, hz, s0, s1, s2, x3, q3, n3, x4, q4, n4, x5, q5, n5, h0, h1, h2, h3, h4, h5, h6, h7, h8, h9, (fun _ => rfl), h11, h12, h13, h14⟩
      · go_wp2_with fail
        rw [← z64]
        exact hK _ (.agg (zb 64 (fun _ => 0))) _ (by simp only [Act.put, pA, pB, pC ]) ⟨hB, hz, s0, s1, s2, x3, q3, n3, x4, q4, n4, x5, q5, n5, h0, h1, h2, h3, h4, h5, h6, h7, h8, h9, h10, (fun _ => rfl), h12, h13, h14⟩
      · refine wp_load_blk 23 _ rfl _ rfl 64 23 _ s2 _ Try.underlying23 Try.size23 ?_
        exact hK _ _ _ rfl ⟨hB, hz, s0, s1, s2, x3, q3, n3, x4, q4, n4, x5, q5, n5, h0, h1, h2, h3, h4, h5, h6, h7, h8, h9, h10, h11, (fun _ => rfl), h13, h14⟩
      · go_wp2_with fail
        exact hK _ (.int .i64 (c : Int)) _ (by simp only [Act.put, pA, pB, pC ]) ⟨hB, hz, s0, s1, s2, x3, q3, n3, x4, q4, n4, x5, q5, n5, h0, h1, h2, h3, h4, h5, h6, h7, h8, h9, h10, h11, h12, (fun _ => rfl), h14⟩
      · have e10 := h10 (zdq hd 10 rfl)
        have e11 := h11 (zdq hd 11 rfl)
        have e12 := h12 (zdq hd 12 rfl)
        have e13 := h13 (zdq hd 13 rfl)
        go_wp2_with (go_at_call 153; refine (HS.out pv HIV.out _).mono ?_; rintro e wy ⟨rfl, hy⟩)
        exact hK _ (.agg (zb 64 (sclP p pv c))) _ (by simp only [Act.put, pA, pB, pC, e10, e11, e12, e13]) ⟨hB.trans (hy.mono hB.size), (Nat.le_trans hz hy.size), s0.zw hy, s1.zw hy, s2.zw hy, (let ⟨g, h⟩ := x3; ⟨g, h.zw hy⟩), (fun h => (q3 h).below hy (q3 h).lt), (fun h => (n3 h).below hy (n3 h).lt), (let ⟨g, h⟩ := x4; ⟨g, h.zw hy⟩), (fun h => (q4 h).below hy (q4 h).lt), (fun h => (n4 h).below hy (n4 h).lt), (let ⟨g, h⟩ := x5; ⟨g, h.zw hy⟩), (fun h => (q5 h).below hy (q5 h).lt), (fun h => (n5 h).below hy (n5 h).lt), h0, h1, h2, h3, h4, h5, h6, h7, h8, h9, h10, h11, h12, h13, (fun _ => rfl)⟩
      · have e4 := h4 (zdq hd 4 rfl)
        obtain ⟨gz, hk⟩ := x3
        refine zsb 23 _ _ rfl _ 64 (sclP p pa c) rfl e4 23 gz hk Try.size23 ?_
        exact hK _ undef _ rfl ⟨zr hB (by omega) _, (by simpa [World.setRow] using hz), (s0).rowOther (by omega), (s1).rowOther (by omega), (s2).rowOther (by omega), ⟨_, hk.row _⟩, (fun h => absurd h (by simp [setL])), (fun _ => hk.row _), (let ⟨g, h⟩ := x4; ⟨g, (h).rowOther (by omega)⟩), (fun h => (q4 h).rowOther (by omega)), (fun h => (n4 h).rowOther (by omega)), (let ⟨g, h⟩ := x5; ⟨g, (h).rowOther (by omega)⟩), (fun h => (q5 h).rowOther (by omega)), (fun h => (n5 h).rowOther (by omega)), h0, h1, h2, h3, h4, h5, h6, h7, h8, h9, h10, h11, h12, h13, h14⟩
      · have e9 := h9 (zdq hd 9 rfl)
        obtain ⟨gz, hk⟩ := x4
        refine zsb 23 _ _ rfl _ 64 (sclP p pu c) rfl e9 23 gz hk Try.size23 ?_
        exact hK _ undef _ rfl ⟨zr hB (by omega) _, (by simpa [World.setRow] using hz), (s0).rowOther (by omega), (s1).rowOther (by omega), (s2).rowOther (by omega), (let ⟨g, h⟩ := x3; ⟨g, (h).rowOther (by omega)⟩), (fun h => (q3 h).rowOther (by omega)), (fun h => (n3 h).rowOther (by omega)), ⟨_, hk.row _⟩, (fun h => absurd h (by simp [setL])), (fun _ => hk.row _), (let ⟨g, h⟩ := x5; ⟨g, (h).rowOther (by omega)⟩), (fun h => (q5 h).rowOther (by omega)), (fun h => (n5 h).rowOther (by omega)), h0, h1, h2, h3, h4, h5, h6, h7, h8, h9, h10, h11, h12, h13, h14⟩
      · have e14 := h14 (zdq hd 14 rfl)
        obtain ⟨gz, hk⟩ := x5
        refine zsb 23 _ _ rfl _ 64 (sclP p pv c) rfl e14 23 gz hk Try.size23 ?_
        exact hK _ undef _ rfl ⟨zr hB (by omega) _, (by simpa [World.setRow] using hz), (s0).rowOther (by omega), (s1).rowOther (by omega), (s2).rowOther (by omega), (let ⟨g, h⟩ := x3; ⟨g, (h).rowOther (by omega)⟩), (fun h => (q3 h).rowOther (by omega)), (fun h => (n3 h).rowOther (by omega)), (let ⟨g, h⟩ := x4; ⟨g, (h).rowOther (by omega)⟩), (fun h => (q4 h).rowOther (by omega)), (fun h => (n4 h).rowOther (by omega)), ⟨_, hk.row _⟩, (fun h => absurd h (by simp [setL])), (fun _ => hk.row _), h0, h1, h2, h3, h4, h5, h6, h7, h8, h9, h10, h11, h12, h13, h14⟩
    · intro L v wx hL ⟨hB, hz, s0, s1, s2, x3, q3, n3, x4, q4, n4, x5, q5, n5, h0, h1, h2, h3, h4, h5, h6, h7, h8, h9, h10, h11, h12, h13, h14⟩
      have r3 := n3 (hL 15 (by decide))
      have r4 := n4 (hL 16 (by decide))
      have r5 := n5 (hL 17 (by decide))
      have e0 := h0 (hL 0 (by decide))
      have e1 := h1 (hL 1 (by decide))
      have e2 := h2 (hL 2 (by decide))
      have e3 := h3 (hL 3 (by decide))
      have e4 := h4 (hL 4 (by decide))
      have e5 := h5 (hL 5 (by decide))
      have e6 := h6 (hL 6 (by decide))
      have e7 := h7 (hL 7 (by decide))
      have e8 := h8 (hL 8 (by decide))
      have e9 := h9 (hL 9 (by decide))
      have e10 := h10 (hL 10 (by decide))
      have e11 := h11 (hL 11 (by decide))
      have e12 := h12 (hL 12 (by decide))
      have e13 := h13 (hL 13 (by decide))
      have e14 := h14 (hL 14 (by decide))
      clear hL x3 q3 n3 x4 q4 n4 x5 q5 n5 h0 h1 h2 h3 h4 h5 h6 h7 h8 h9 h10 h11 h12 h13 h14
      simp only [Exit.then, e0, e1, e2, e3, e4, e5, e6, e7, e8, e9, e10, e11, e12, e13, e14]
      clear e0 e1 e2 e3 e4 e5 e6 e7 e8 e9 e10 e11 e12 e13 e14
      go_wp2_with fail
      refine bodyPost_ret (results_bbb rfl _ _ _ 64 23 5 _ _ 64 23 5 _ _ 64 23 5 _ rfl r3 Try.underlying23 Try.size23 rfl r4 Try.underlying23 Try.size23 rfl r5 Try.underlying23 Try.size23) rfl ⟨by rw [HR.out.1, HR.out.2.1, HR.out.2.2], hB⟩
  · obtain ⟨k, rfl⟩ : ∃ j, k = j + 1 := ⟨k - 1, by omega⟩
    obtain ⟨hI', hdr, hdx, hdy⟩ := bzI_next hp hI hz
    have HI' := Lib.hid hI'
    have HRN := Lib.hid (hrun.trans (bzRun_go hz))
    have HDR := Lib.hid hdr
    have HT1 := Lib.hid (show tmV p (quoP p pa pb) px = ((prd p (quoP p pa pb) px), true) from if_pos hdx)
    have HT2 := Lib.hid (show tmV p (quoP p pa pb) py = ((prd p (quoP p pa pb) py), true) from if_pos hdy)
    have HL := Lib.hid (fun W => l01Divide_any p pa pb W hp ia ib (by omega))
    have HIX := Lib.hid ix; have HIY := Lib.hid iy; have HIU := Lib.hid iu; have HIV := Lib.hid iv
    have HSB := Lib.hid (show ∀ (f g : Nat → Nat), (∀ i, i < 64 → f i < p) → (∀ i, i < 64 → g i < p) → ∀ W, Calls Try.prog 153 #[.int .i64 (p : Int), .agg (zb 64 f), .agg (zb 64 g), .int .i64 (-1)] W fun e w' => e = .returned (.agg (zb 64 (subP p f g))) ∧ Below W.heap.size W w' by
     intro f g hf hg W
     have := l01Add_any p f g (-1) W p2 p7 (by omega) (by omega) hf hg
     rwa [zbc (g := subP p f g) (fun i hi => addK_neg p0 hg hi)] at this)
    have HY := Lib.hid (fun W => new2 W (quoP p pa pb) (resP p pa pb))
    have ha : Below wr.heap.size wr wr := Below.refl _ _
    clear hrun hI hI' hdr hdx hdy ia ib ix iy iu iv d1 d2 d3 d4 d5
    go_upto_region 4 with (first | (refine zlb rfl 23 (.tmp 5) rfl _ rfl 64 23 _ (b1.below (by assumption) b1.lt) 5 Try.underlying23 Try.size23 ?_) | (refine zlb rfl 23 (.tmp 4) rfl _ rfl 64 23 _ (b0.below (by assumption) b0.lt) 5 Try.underlying23 Try.size23 ?_) | (go_at_call 88; refine (acc (l01Deg_any _ _) (by assumption)).mono ?_; rintro e w1 ⟨rfl, h1, ha⟩) | (go_at_call 155; refine (acc (HL.out _) (by assumption)).mono ?_; rintro e w1 ⟨rfl, h1, ha⟩) | (rw [← z64]; refine wpList_store_blk rfl 23 (.tmp 13) (.tmp 34) rfl _ 64 (quoP p pa pb) rfl rfl 23 _ (HY.out w1).1 Try.size23 ?_) | (refine wpList_store_blk rfl 23 (.tmp 14) (.tmp 35) rfl _ 64 (resP p pa pb) rfl rfl 23 _ (HY.out w1).2.1 Try.size23 ?_))
    obtain ⟨_, _, f13, f14, hb5⟩ := HY.out w1
    have zM := ha.size
    replace ha := ha.trans (hb5.mono ha.size)
    obtain ⟨w5, hw5⟩ : ∃ w5 : World, w5 = ((((w1.alloc (.cells (zb 64 fun _ => 0) 23)).alloc (.cells (zb 64 fun _ => 0) 23)).setRow (w1.heap.size) (zb 64 (quoP p pa pb))).setRow (w1.heap.size + 1) (zb 64 (resP p pa pb))) := ⟨_, rfl⟩
    rw [← hw5] at f13 f14 hb5 ha ⊢
    obtain ⟨M, hM⟩ : ∃ M, M = w1.heap.size := ⟨_, rfl⟩
    rw [← hM] at f13 f14 zM ⊢
    clear hw5 hM hb5 h1 HY HL
    go_upto_region 5 with (first | (refine zlb rfl 23 (.tmp 13) rfl _ rfl 64 23 _ f13 5 Try.underlying23 Try.size23 ?_) | (refine zlb rfl 23 (.tmp 10) rfl _ rfl 64 23 _ (f10.zw ha) 5 Try.underlying23 Try.size23 ?_) | (go_at_call 91; refine (l01Times_any p (quoP p pa pb) px _ p2 p7 (fun i _ => quoP_lt p0 i) HIX.out).mono ?_; rw [HT1.out]; rintro e w6 ⟨rfl, h6⟩) | refine wpList_store_new rfl 23 _ _ rfl _ 23 64 ((prd p (quoP p pa pb) px)) rfl rfl rfl Try.size23 ?_)
    have f15 := Blk.new w6 64 23 (prd p (quoP p pa pb) px)
    replace f13 := (f13.zw h6).alloc (.cells (zb 64 (prd p (quoP p pa pb) px)) 23)
    replace f14 := (f14.zw h6).alloc (.cells (zb 64 (prd p (quoP p pa pb) px)) 23)
    replace ha := ha.trans (h6.mono ha.size)
    replace ha := ha.alloc ha.size (.cells (zb 64 (prd p (quoP p pa pb) px)) 23)
    obtain ⟨w7, hw7⟩ : ∃ w7 : World, w7 = w6.alloc (.cells (zb 64 (prd p (quoP p pa pb) px)) 23) := ⟨_, rfl⟩
    rw [← hw7] at f13 f14 f15 ha ⊢
    obtain ⟨M2, hM2⟩ : ∃ M, M = w6.heap.size := ⟨_, rfl⟩
    rw [← hM2] at f15 ⊢
    clear hw7 hM2 h6
    go_upto_region 6 with (first | (refine zlb rfl 23 (.tmp 13) rfl _ rfl 64 23 _ f13 5 Try.underlying23 Try.size23 ?_) | (refine zlb rfl 23 (.tmp 12) rfl _ rfl 64 23 _ (f12.zw ha) 5 Try.underlying23 Try.size23 ?_) | (go_at_call 91; refine (l01Times_any p (quoP p pa pb) py _ p2 p7 (fun i _ => quoP_lt p0 i) HIY.out).mono ?_; rw [HT2.out]; rintro e w8 ⟨rfl, h8⟩) | refine wpList_store_new rfl 23 _ _ rfl _ 23 64 ((prd p (quoP p pa pb) py)) rfl rfl rfl Try.size23 ?_)
    have f17 := Blk.new w8 64 23 (prd p (quoP p pa pb) py)
    replace f14 := (f14.zw h8).alloc (.cells (zb 64 (prd p (quoP p pa pb) py)) 23)
    replace f15 := (f15.zw h8).alloc (.cells (zb 64 (prd p (quoP p pa pb) py)) 23)
    replace ha := ha.trans (h8.mono ha.size)
    replace ha := ha.alloc ha.size (.cells (zb 64 (prd p (quoP p pa pb) py)) 23)
    obtain ⟨w9, hw9⟩ : ∃ w9 : World, w9 = w8.alloc (.cells (zb 64 (prd p (quoP p pa pb) py)) 23) := ⟨_, rfl⟩
    rw [← hw9] at f14 f15 f17 ha ⊢
    obtain ⟨M3, hM3⟩ : ∃ M, M = w8.heap.size := ⟨_, rfl⟩
    rw [← hM3] at f17 ⊢
    clear hw9 hM3 h8 f13
    have g9 := f9.zw ha
    have g11 := f11.zw ha
    have hl12 := f12.lt
    have lt_g9 : (N) < w9.heap.size := g9.lt
    have lt_g11 : (N + 1 + 1) < w9.heap.size := g11.lt
    have lt_f14 : (M + 1) < w9.heap.size := f14.lt
    have lt_f15 : (M2) < w9.heap.size := f15.lt
    have lt_f17 : (M3) < w9.heap.size := f17.lt
    have hbase : wr.heap.size ≤ w9.heap.size := ha.size
    refine zq Try.mixed (by kernel_rfl) (by kernel_rfl) (fun v => by (simp only [frL, Act.put, pA, pB, pC, Nat.reduceAdd, Nat.zero_add]; exact rfl))
     (fun L v wx => Below wr.heap.size wr wx ∧ w9.heap.size ≤ wx.heap.size ∧ Blk wx (N) 64 23 (pu) ∧ Blk wx (N + 1 + 1) 64 23 (pv) ∧ Blk wx (M + 1) 64 23 (resP p pa pb) ∧ Blk wx (M2) 64 23 (prd p (quoP p pa pb) px) ∧ Blk wx (M3) 64 23 (prd p (quoP p pa pb) py) ∧ (L 0 = true → v 0 = (.int .i64 (p : Int))) ∧ (L 1 = true → v 1 = (.agg (zb 64 (pu)))) ∧ (L 2 = true → v 2 = (.agg (zb 64 (prd p (quoP p pa pb) px)))) ∧ (L 3 = true → v 3 = (.agg (zb 64 (subP p pu (prd p (quoP p pa pb) px))))) ∧ (L 4 = true → v 4 = (.int .i64 (p : Int))) ∧ (L 5 = true → v 5 = (.agg (zb 64 (pv)))) ∧ (L 6 = true → v 6 = (.agg (zb 64 (prd p (quoP p pa pb) py)))) ∧ (L 7 = true → v 7 = (.agg (zb 64 (subP p pv (prd p (quoP p pa pb) py))))) ∧ (L 8 = true → AF (v 8) wx w9.heap.size 64 23) ∧ (L 9 = true → AF (v 9) wx w9.heap.size 64 23) ∧ (L 10 = true → PF (v 8) wx w9.heap.size 64 23 (subP p pu (prd p (quoP p pa pb) px))) ∧ (L 11 = true → PF (v 9) wx w9.heap.size 64 23 (subP p pv (prd p (quoP p pa pb) py))) ∧ (L 8 = true → L 9 = true → v 8 ≠ v 9)) ?_ ?_ ?_
    · intro v hv0
      exact ⟨ha.drew, Nat.le_refl _, g9.drew, g11.drew, f14.drew, f15.drew, f17.drew, (fun h => by cases h), (fun h => by cases h), (fun h => by cases h), (fun h => by cases h), (fun h => by cases h), (fun h => by cases h), (fun h => by cases h), (fun h => by cases h), (fun h => by cases h), (fun h => by cases h), (fun h => by cases h), (fun h => by cases h), (fun h => by cases h)⟩
    · refine (.cons rfl ?_ (.cons rfl ?_ (.cons rfl ?_ (.cons rfl ?_ (.cons rfl ?_ (.cons rfl ?_ (.cons rfl ?_ (.cons rfl ?_ (.cons rfl ?_ (.cons rfl ?_ (.cons rfl ?_ (.cons rfl ?_ (.nil _)))))))))))))
      all_goals intro L v wx hd hn ⟨hB, hz, s0, s1, s2, s3, s4, h0, h1, h2, h3, h4, h5, h6, h7, h8, h9, h10, h11, d8_9⟩ K hK
      · go_wp2_with fail
        exact hK _ (.int .i64 (p : Int)) _ (by simp only [Act.put, pA, pB, pC ]) ⟨hB, hz, s0, s1, s2, s3, s4, (fun _ => rfl), h1, h2, h3, h4, h5, h6, h7, h8, h9, h10, h11, d8_9⟩
      · refine wp_load_blk 23 _ rfl _ rfl 64 23 _ s0 _ Try.underlying23 Try.size23 ?_
        exact hK _ _ _ rfl ⟨hB, hz, s0, s1, s2, s3, s4, h0, (fun _ => rfl), h2, h3, h4, h5, h6, h7, h8, h9, h10, h11, d8_9⟩
      · refine wp_load_blk 23 _ rfl _ rfl 64 23 _ s3 _ Try.underlying23 Try.size23 ?_
        exact hK _ _ _ rfl ⟨hB, hz, s0, s1, s2, s3, s4, h0, h1, (fun _ => rfl), h3, h4, h5, h6, h7, h8, h9, h10, h11, d8_9⟩
      · have e0 := h0 (zdq hd 0 rfl)
        have e1 := h1 (zdq hd 1 rfl)
        have e2 := h2 (zdq hd 2 rfl)
        go_wp2_with (go_at_call 153; refine (HSB.out pu (prd p (quoP p pa pb) px) HIU.out (fun i _ => prd_lt p0 i) _).mono ?_; rintro e wy ⟨rfl, hy⟩)
        exact hK _ (.agg (zb 64 (subP p pu (prd p (quoP p pa pb) px)))) _ (by simp only [Act.put, pA, pB, pC, e0, e1, e2]) ⟨hB.trans (hy.mono hB.size), (Nat.le_trans hz hy.size), s0.zw hy, s1.zw hy, s2.zw hy, s3.zw hy, s4.zw hy, h0, h1, h2, (fun _ => rfl), h4, h5, h6, h7, (fun h => (h8 h).below hy), (fun h => (h9 h).below hy), (fun h => (h10 h).below hy), (fun h => (h11 h).below hy), d8_9⟩
      · go_wp2_with fail
        exact hK _ (.int .i64 (p : Int)) _ (by simp only [Act.put, pA, pB, pC ]) ⟨hB, hz, s0, s1, s2, s3, s4, h0, h1, h2, h3, (fun _ => rfl), h5, h6, h7, h8, h9, h10, h11, d8_9⟩
      · refine wp_load_blk 23 _ rfl _ rfl 64 23 _ s1 _ Try.underlying23 Try.size23 ?_
        exact hK _ _ _ rfl ⟨hB, hz, s0, s1, s2, s3, s4, h0, h1, h2, h3, h4, (fun _ => rfl), h6, h7, h8, h9, h10, h11, d8_9⟩
      · refine wp_load_blk 23 _ rfl _ rfl 64 23 _ s4 _ Try.underlying23 Try.size23 ?_
        exact hK _ _ _ rfl ⟨hB, hz, s0, s1, s2, s3, s4, h0, h1, h2, h3, h4, h5, (fun _ => rfl), h7, h8, h9, h10, h11, d8_9⟩
      · have e4 := h4 (zdq hd 4 rfl)
        have e5 := h5 (zdq hd 5 rfl)
        have e6 := h6 (zdq hd 6 rfl)
        go_wp2_with (go_at_call 153; refine (HSB.out pv (prd p (quoP p pa pb) py) HIV.out (fun i _ => prd_lt p0 i) _).mono ?_; rintro e wy ⟨rfl, hy⟩)
        exact hK _ (.agg (zb 64 (subP p pv (prd p (quoP p pa pb) py)))) _ (by simp only [Act.put, pA, pB, pC, e4, e5, e6]) ⟨hB.trans (hy.mono hB.size), (Nat.le_trans hz hy.size), s0.zw hy, s1.zw hy, s2.zw hy, s3.zw hy, s4.zw hy, h0, h1, h2, h3, h4, h5, h6, (fun _ => rfl), (fun h => (h8 h).below hy), (fun h => (h9 h).below hy), (fun h => (h10 h).below hy), (fun h => (h11 h).below hy), d8_9⟩
      · go_wp2_with fail
        rw [← z64]
        exact hK _ (.pointer (some ⟨wx.heap.size, 0, none⟩)) _ (by simp only [Act.put, pA, pB, pC ]) ⟨hB.alloc hB.size _, (by simp; omega), (s0).alloc _, (s1).alloc _, (s2).alloc _, (s3).alloc _, (s4).alloc _, h0, h1, h2, h3, h4, h5, h6, h7, (fun _ => (PF.new wx 64 23 _ hz).af), (fun h => (h9 h).below (zal _ _)), (fun h => absurd rfl (hn 10 _ rfl h ⟨8, .data⟩ (by simp) rfl)), (fun h => (h11 h).below (zal _ _)), (fun h g1 => Ne.symm ((h9 g1).ne_new))⟩
      · go_wp2_with fail
        rw [← z64]
        exact hK _ (.pointer (some ⟨wx.heap.size, 0, none⟩)) _ (by simp only [Act.put, pA, pB, pC ]) ⟨hB.alloc hB.size _, (by simp; omega), (s0).alloc _, (s1).alloc _, (s2).alloc _, (s3).alloc _, (s4).alloc _, h0, h1, h2, h3, h4, h5, h6, h7, (fun h => (h8 h).below (zal _ _)), (fun _ => (PF.new wx 64 23 _ hz).af), (fun h => (h10 h).below (zal _ _)), (fun h => absurd rfl (hn 11 _ rfl h ⟨9, .data⟩ (by simp) rfl)), (fun h g1 => (h8 h).ne_new)⟩
      · have e3 := h3 (zdq hd 3 rfl)
        obtain ⟨gz, b, ea, hN, hk⟩ := (h8 (zdq hd 8 rfl)).out
        refine zsb 23 _ _ rfl b 64 (subP p pu (prd p (quoP p pa pb) px)) ea e3 23 gz hk Try.size23 ?_
        exact hK _ undef _ rfl ⟨zr hB (Nat.le_trans hbase hN) _, (by simpa [World.setRow] using hz), (s0).rowOther (by omega), (s1).rowOther (by omega), (s2).rowOther (by omega), (s3).rowOther (by omega), (s4).rowOther (by omega), h0, h1, h2, h3, h4, h5, h6, h7, (fun h => (h8 h).row hk), (fun h => (h9 h).row hk), (fun _ => by rw [show updV v 10 undef 8 = v 8 from rfl, ea]; exact PF.row hk hN _), (fun h => (h11 h).rowOther (by rw [← ea]; exact (Ne.symm (d8_9 (zdq hd 8 rfl) (zdq hd 9 rfl))))), d8_9⟩
      · have e7 := h7 (zdq hd 7 rfl)
        obtain ⟨gz, b, ea, hN, hk⟩ := (h9 (zdq hd 9 rfl)).out
        refine zsb 23 _ _ rfl b 64 (subP p pv (prd p (quoP p pa pb) py)) ea e7 23 gz hk Try.size23 ?_
        exact hK _ undef _ rfl ⟨zr hB (Nat.le_trans hbase hN) _, (by simpa [World.setRow] using hz), (s0).rowOther (by omega), (s1).rowOther (by omega), (s2).rowOther (by omega), (s3).rowOther (by omega), (s4).rowOther (by omega), h0, h1, h2, h3, h4, h5, h6, h7, (fun h => (h8 h).row hk), (fun h => (h9 h).row hk), (fun h => (h10 h).rowOther (by rw [← ea]; exact (d8_9 (zdq hd 8 rfl) (zdq hd 9 rfl)))), (fun _ => by rw [show updV v 11 undef 9 = v 9 from rfl, ea]; exact PF.row hk hN _), d8_9⟩
    · intro L v wx hL ⟨hB, hz, s0, s1, s2, s3, s4, h0, h1, h2, h3, h4, h5, h6, h7, h8, h9, h10, h11, d8_9⟩
      have e0 := h0 (hL 0 (by decide))
      have e1 := h1 (hL 1 (by decide))
      have e2 := h2 (hL 2 (by decide))
      have e3 := h3 (hL 3 (by decide))
      have e4 := h4 (hL 4 (by decide))
      have e5 := h5 (hL 5 (by decide))
      have e6 := h6 (hL 6 (by decide))
      have e7 := h7 (hL 7 (by decide))
      obtain ⟨b8, e8, hN8, hb8⟩ := (h10 (hL 10 (by decide))).out
      obtain ⟨b9, e9, hN9, hb9⟩ := (h11 (hL 11 (by decide))).out
      have n8_9 := d8_9 (hL 8 (by decide)) (hL 9 (by decide))
      clear hL h0 h1 h2 h3 h4 h5 h6 h7 h8 h9 h10 h11 d8_9
      rw [e8, e9] at n8_9
      have m8_9 : b8 ≠ b9 := fun h => n8_9 (by rw [h])
      clear n8_9
      simp only [Exit.then, e0, e1, e2, e3, e4, e5, e6, e7, e8, e9]
      clear e0 e1 e2 e3 e4 e5 e6 e7 e8 e9
      have z0 := b0.lt
      have z1 := b1.lt
      have z9 := f9.lt
      have z10 := f10.lt
      have z11 := f11.lt
      have z12 := f12.lt
      have z14 := f14.lt
      have zs := ha.size
      have q0 : Blk wx (w.heap.size + 1) 64 23 (pb) := (b1.zw hB)
      have q1 : Blk wx (w.heap.size) 64 23 (pa) := (b0.zw hB)
      have q2 : Blk (wx.setRow (w.heap.size) (zb 64 (pb))) (M + 1) 64 23 (resP p pa pb) := (s2.rowOther (by omega))
      have q3 : Blk (wx.setRow (w.heap.size) (zb 64 (pb))) (w.heap.size + 1) 64 23 (pb) := ((b1.zw hB).rowOther (by omega))
      have q4 : Blk ((wx.setRow (w.heap.size) (zb 64 (pb))).setRow (w.heap.size + 1) (zb 64 (resP p pa pb))) (N + 1) 64 23 (px) := (((f10.zw hB).rowOther (by omega)).rowOther (by omega))
      have q5 : Blk ((wx.setRow (w.heap.size) (zb 64 (pb))).setRow (w.heap.size + 1) (zb 64 (resP p pa pb))) N 64 23 (pu) := (((f9.zw hB).rowOther (by omega)).rowOther (by omega))
      have q6 : Blk (((wx.setRow (w.heap.size) (zb 64 (pb))).setRow (w.heap.size + 1) (zb 64 (resP p pa pb))).setRow N (zb 64 (px))) (N + 1 + 1 + 1) 64 23 (py) := ((((f12.zw hB).rowOther (by omega)).rowOther (by omega)).rowOther (by omega))
      have q7 : Blk (((wx.setRow (w.heap.size) (zb 64 (pb))).setRow (w.heap.size + 1) (zb 64 (resP p pa pb))).setRow N (zb 64 (px))) (N + 1 + 1) 64 23 (pv) := ((((f11.zw hB).rowOther (by omega)).rowOther (by omega)).rowOther (by omega))
      have q8 : Blk ((((wx.setRow (w.heap.size) (zb 64 (pb))).setRow (w.heap.size + 1) (zb 64 (resP p pa pb))).setRow N (zb 64 (px))).setRow (N + 1 + 1) (zb 64 (py))) b8 64 23 ((subP p pu (prd p (quoP p pa pb) px))) := ((((hb8.rowOther (by omega)).rowOther (by omega)).rowOther (by omega)).rowOther (by omega))
      have q9 : Blk ((((wx.setRow (w.heap.size) (zb 64 (pb))).setRow (w.heap.size + 1) (zb 64 (resP p pa pb))).setRow N (zb 64 (px))).setRow (N + 1 + 1) (zb 64 (py))) (N + 1) 64 23 (px) := (((((f10.zw hB).rowOther (by omega)).rowOther (by omega)).rowOther (by omega)).rowOther (by omega))
      have q10 : Blk (((((wx.setRow (w.heap.size) (zb 64 (pb))).setRow (w.heap.size + 1) (zb 64 (resP p pa pb))).setRow N (zb 64 (px))).setRow (N + 1 + 1) (zb 64 (py))).setRow (N + 1) (zb 64 ((subP p pu (prd p (quoP p pa pb) px))))) b9 64 23 ((subP p pv (prd p (quoP p pa pb) py))) := (((((hb9.rowOther (by omega)).rowOther (by omega)).rowOther (by omega)).rowOther (by omega)).rowOther (by omega))
      have q11 : Blk (((((wx.setRow (w.heap.size) (zb 64 (pb))).setRow (w.heap.size + 1) (zb 64 (resP p pa pb))).setRow N (zb 64 (px))).setRow (N + 1 + 1) (zb 64 (py))).setRow (N + 1) (zb 64 ((subP p pu (prd p (quoP p pa pb) px))))) (N + 1 + 1 + 1) 64 23 (py) := ((((((f12.zw hB).rowOther (by omega)).rowOther (by omega)).rowOther (by omega)).rowOther (by omega)).rowOther (by omega))
      have hbF : Below w.heap.size w ((((((wx.setRow (w.heap.size) (zb 64 (pb))).setRow (w.heap.size + 1) (zb 64 (resP p pa pb))).setRow N (zb 64 (px))).setRow (N + 1 + 1) (zb 64 (py))).setRow (N + 1) (zb 64 ((subP p pu (prd p (quoP p pa pb) px))))).setRow (N + 1 + 1 + 1) (zb 64 ((subP p pv (prd p (quoP p pa pb) py))))) := (zr (zr (zr (zr (zr (zr (hb.trans (hB.mono hb.size)) (by omega) _) (by omega) _) (by omega) _) (by omega) _) (by omega) _) (by omega) _)
      have kn0 : Blk ((((((wx.setRow (w.heap.size) (zb 64 (pb))).setRow (w.heap.size + 1) (zb 64 (resP p pa pb))).setRow N (zb 64 (px))).setRow (N + 1 + 1) (zb 64 (py))).setRow (N + 1) (zb 64 ((subP p pu (prd p (quoP p pa pb) px))))).setRow (N + 1 + 1 + 1) (zb 64 ((subP p pv (prd p (quoP p pa pb) py))))) (w.heap.size) 64 23 (pb) := (((((((b0.zw hB).row (pb)).rowOther (by omega)).rowOther (by omega)).rowOther (by omega)).rowOther (by omega)).rowOther (by omega))
      have kn1 : Blk ((((((wx.setRow (w.heap.size) (zb 64 (pb))).setRow (w.heap.size + 1) (zb 64 (resP p pa pb))).setRow N (zb 64 (px))).setRow (N + 1 + 1) (zb 64 (py))).setRow (N + 1) (zb 64 ((subP p pu (prd p (quoP p pa pb) px))))).setRow (N + 1 + 1 + 1) (zb 64 ((subP p pv (prd p (quoP p pa pb) py))))) (w.heap.size + 1) 64 23 (resP p pa pb) := (((((((b1.zw hB).rowOther (by omega)).row (resP p pa pb)).rowOther (by omega)).rowOther (by omega)).rowOther (by omega)).rowOther (by omega))
      have kN0 : Blk ((((((wx.setRow (w.heap.size) (zb 64 (pb))).setRow (w.heap.size + 1) (zb 64 (resP p pa pb))).setRow N (zb 64 (px))).setRow (N + 1 + 1) (zb 64 (py))).setRow (N + 1) (zb 64 ((subP p pu (prd p (quoP p pa pb) px))))).setRow (N + 1 + 1 + 1) (zb 64 ((subP p pv (prd p (quoP p pa pb) py))))) N 64 23 (px) := (((((((f9.zw hB).rowOther (by omega)).rowOther (by omega)).row (px)).rowOther (by omega)).rowOther (by omega)).rowOther (by omega))
      have kN1 : Blk ((((((wx.setRow (w.heap.size) (zb 64 (pb))).setRow (w.heap.size + 1) (zb 64 (resP p pa pb))).setRow N (zb 64 (px))).setRow (N + 1 + 1) (zb 64 (py))).setRow (N + 1) (zb 64 ((subP p pu (prd p (quoP p pa pb) px))))).setRow (N + 1 + 1 + 1) (zb 64 ((subP p pv (prd p (quoP p pa pb) py))))) (N + 1) 64 23 ((subP p pu (prd p (quoP p pa pb) px))) := (((((((f10.zw hB).rowOther (by omega)).rowOther (by omega)).rowOther (by omega)).rowOther (by omega)).row ((subP p pu (prd p (quoP p pa pb) px)))).rowOther (by omega))
      have kN2 : Blk ((((((wx.setRow (w.heap.size) (zb 64 (pb))).setRow (w.heap.size + 1) (zb 64 (resP p pa pb))).setRow N (zb 64 (px))).setRow (N + 1 + 1) (zb 64 (py))).setRow (N + 1) (zb 64 ((subP p pu (prd p (quoP p pa pb) px))))).setRow (N + 1 + 1 + 1) (zb 64 ((subP p pv (prd p (quoP p pa pb) py))))) (N + 1 + 1) 64 23 (py) := (((((((f11.zw hB).rowOther (by omega)).rowOther (by omega)).rowOther (by omega)).row (py)).rowOther (by omega)).rowOther (by omega))
      have kN3 : Blk ((((((wx.setRow (w.heap.size) (zb 64 (pb))).setRow (w.heap.size + 1) (zb 64 (resP p pa pb))).setRow N (zb 64 (px))).setRow (N + 1 + 1) (zb 64 (py))).setRow (N + 1) (zb 64 ((subP p pu (prd p (quoP p pa pb) px))))).setRow (N + 1 + 1 + 1) (zb 64 ((subP p pv (prd p (quoP p pa pb) py))))) (N + 1 + 1 + 1) 64 23 ((subP p pv (prd p (quoP p pa pb) py))) := (((((((f12.zw hB).rowOther (by omega)).rowOther (by omega)).rowOther (by omega)).rowOther (by omega)).rowOther (by omega)).row ((subP p pv (prd p (quoP p pa pb) py))))
      have kz0 : Blk ((((((wx.setRow (w.heap.size) (zb 64 (pb))).setRow (w.heap.size + 1) (zb 64 (resP p pa pb))).setRow N (zb 64 (px))).setRow (N + 1 + 1) (zb 64 (py))).setRow (N + 1) (zb 64 ((subP p pu (prd p (quoP p pa pb) px))))).setRow (N + 1 + 1 + 1) (zb 64 ((subP p pv (prd p (quoP p pa pb) py))))) (w.heap.size + 1 + 1) 64 23 (fun _ => 0) := (((((((b2.zw hB).rowOther (by omega)).rowOther (by omega)).rowOther (by omega)).rowOther (by omega)).rowOther (by omega)).rowOther (by omega))
      have kz1 : Blk ((((((wx.setRow (w.heap.size) (zb 64 (pb))).setRow (w.heap.size + 1) (zb 64 (resP p pa pb))).setRow N (zb 64 (px))).setRow (N + 1 + 1) (zb 64 (py))).setRow (N + 1) (zb 64 ((subP p pu (prd p (quoP p pa pb) px))))).setRow (N + 1 + 1 + 1) (zb 64 ((subP p pv (prd p (quoP p pa pb) py))))) (w.heap.size + 1 + 1 + 1) 64 23 (fun _ => 0) := (((((((b3.zw hB).rowOther (by omega)).rowOther (by omega)).rowOther (by omega)).rowOther (by omega)).rowOther (by omega)).rowOther (by omega))
      have kz2 : Blk ((((((wx.setRow (w.heap.size) (zb 64 (pb))).setRow (w.heap.size + 1) (zb 64 (resP p pa pb))).setRow N (zb 64 (px))).setRow (N + 1 + 1) (zb 64 (py))).setRow (N + 1) (zb 64 ((subP p pu (prd p (quoP p pa pb) px))))).setRow (N + 1 + 1 + 1) (zb 64 ((subP p pv (prd p (quoP p pa pb) py))))) (w.heap.size + 1 + 1 + 1 + 1) 64 23 (fun _ => 0) := (((((((b4.zw hB).rowOther (by omega)).rowOther (by omega)).rowOther (by omega)).rowOther (by omega)).rowOther (by omega)).rowOther (by omega))
      clear z0 z1 z9 z10 z11 z12 z14 zs
      go_upto_region 8 with (first | (refine zlb rfl 23 (.tmp 5) rfl _ rfl 64 23 _ q0 5 Try.underlying23 Try.size23 ?_) | (refine zsr (.tmp 4) (.tmp 58) (pb) q1 Try.size23 ?_))
      try simp only [Act.put, pA, pB, pC]
      go_upto_region 9 with (first | (refine zlb rfl 23 (.tmp 14) rfl _ rfl 64 23 _ q2 5 Try.underlying23 Try.size23 ?_) | (refine zsr (.tmp 5) (.tmp 59) (resP p pa pb) q3 Try.size23 ?_))
      try simp only [Act.put, pA, pB, pC]
      go_upto_region 10 with (first | (refine zlb rfl 23 (.tmp 10) rfl _ rfl 64 23 _ q4 5 Try.underlying23 Try.size23 ?_) | (refine zsr (.tmp 9) (.tmp 60) (px) q5 Try.size23 ?_))
      try simp only [Act.put, pA, pB, pC]
      go_upto_region 11 with (first | (refine zlb rfl 23 (.tmp 12) rfl _ rfl 64 23 _ q6 5 Try.underlying23 Try.size23 ?_) | (refine zsr (.tmp 11) (.tmp 61) (py) q7 Try.size23 ?_))
      try simp only [Act.put, pA, pB, pC]
      go_upto_region 12 with (first | (refine zlb rfl 23 (.tmp 19) rfl _ rfl 64 23 _ q8 5 Try.underlying23 Try.size23 ?_) | (refine zsr (.tmp 10) (.tmp 62) ((subP p pu (prd p (quoP p pa pb) px))) q9 Try.size23 ?_))
      try simp only [Act.put, pA, pB, pC]
      go_wp2_with (first | (refine zlb rfl 23 (.tmp 20) rfl _ rfl 64 23 _ q10 5 Try.underlying23 Try.size23 ?_) | (refine zsr (.tmp 12) (.tmp 63) ((subP p pv (prd p (quoP p pa pb) py))) q11 Try.size23 ?_))
      try simp only [Act.put, pA, pB, pC]
      try simp only [Act.put]
      go_roundw
      case rel => exact ⟨k, pb, resP p pa pb, px, (subP p pu (prd p (quoP p pa pb) px)), py, (subP p pv (prd p (quoP p pa pb) py)), HRN.out, by have := HDR.out; omega, HI'.out, hbF, kn0, kn1, kz0, kz1, kz2, kN0, kN1, kN2, kN3⟩
      case measure =>
       rw [degAt_blk kn1 (by omega), degAt_blk b1 (by omega)]
       have := HDR.out
       omega
end Go.Proofs.Ytoncepgcfifgbaa
end
