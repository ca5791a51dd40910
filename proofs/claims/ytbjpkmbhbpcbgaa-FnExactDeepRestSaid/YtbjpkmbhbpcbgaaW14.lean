/-
  Walks: long division, label by label.
-/
import Derived.Test.YtbjpkmbhbpcbgaaW12
import Derived.Test.YtbjpkmbhbpcbgaaW13
import Derived.Test.YtbjpkmbhbpcbgaaSj
import Derived.Test.YtbjpkmbhbpcbgaaInv2
namespace Go.Proofs.Ytbjpkmbhbpcbgaa
open Go.RowKit
set_option linter.unusedVariables false
set_option linter.unusedSimpArgs false
attribute [local irreducible] deg invN dS qS stp stpr
/-- the first scope within a code -/
def scopeIn : Code → Option Code
  | .seq a b => match scopeIn a with
    | some c => some c
    | none => scopeIn b
  | .scope c => some c
  | _ => none
/-- what stands behind a label of the first scope -/
def behind (fn : Func) (l : Nat) : Code := (findLabel ((fn.body.bind scopeIn).getD .skip) l).getD .skip
def tailOf : Code → Code
  | .seq _ b => b
  | c => c
theorem behind_tail {fn : Func} {l : Nat} {P : Program} {Q : Exit → Act → World → Prop} {a : Act} {w : World} (hs : behind fn l = .seq .skip (tailOf (behind fn l))) (h : (tailOf (behind fn l)).wp P Q a w) : (behind fn l).wp P Q a w :=
  (congrArg (fun c : Code => c.wp P Q a w) hs).mpr (wp_seq (wp_skip h))
theorem jumps_less {J : Nat → Act → World → Prop} {M : Nat → Act → Nat} {N : Nat} {Q : Exit → Act → World → Prop} : ∀ e a w, Exit.jumps (fun l a w => J l a w ∧ M l a < N) Q e a w → Exit.jumps J Q e a w
  | .goto _, _, _, h => h.1
  | .normal, _, _, h => h
  | .exit _, _, _, h => h
  | .ret, _, _, h => h
  | .panic _, _, _, h => h
  | .outgrown, _, _, h => h
/-- the relation of the three labels: done 0, look 1, next 2 -/
def ldJ (p m inv : Nat) (a b : Nat → Nat) (w : World) (l : Nat) (a' : Act) (w' : World) : Prop :=
  ∃ (t : Nat) (v9 : Value) (v12 : Int) (u13 u14 u15 u16 u17 u18 u19 u20 u21 u22 u23 u24 u25 u26 u27 u28 u29 u30 u31 u32 u33 u34 u35 u36 u37 u38 u39 u40 u41 u42 u43 u44 u45 u46 u47 u48 u49 u50 u51 u52 u53 u54 u55 u56 u57 u58 u59 u60 u61 u62 u63 u64 u65 u66 u67 u68 u69 u70 u71 u72 u73 u74 u75 u76 u77 : Value), a' = { tmps := #[.int .i64 (p : Int), .agg (bcells 128 a), .agg (bcells 64 b), undef, .pointer (some ⟨w.heap.size, 0, none⟩), .pointer (some ⟨w.heap.size + 1, 0, none⟩), .pointer (some ⟨w.heap.size + 1 + 1, 0, none⟩), .pointer (some ⟨w.heap.size + 1 + 1 + 1, 0, none⟩), .pointer (some ⟨w.heap.size + 1 + 1 + 1 + 1, 0, none⟩), v9, .int .i64 (m : Int), .int .u8 (inv : Int), .int .i64 v12, u13, u14, u15, u16, u17, u18, u19, u20, u21, u22, u23, u24, u25, u26, u27, u28, u29, u30, u31, u32, u33, u34, u35, u36, u37, u38, u39, u40, u41, u42, u43, u44, u45, u46, u47, u48, u49, u50, u51, u52, u53, u54, u55, u56, u57, u58, u59, u60, u61, u62, u63, u64, u65, u66, u67, u68, u69, u70, u71, u72, u73, u74, u75, u76, u77], defers := [] } ∧ Below w.heap.size w w' ∧ Blk w' w.heap.size 128 118 (dS p inv m b a (128 - t)) ∧ Blk w' (w.heap.size + 1) 64 23 b ∧ Blk w' (w.heap.size + 1 + 1) 128 118 (fun _ => 0) ∧ Blk w' (w.heap.size + 1 + 1 + 1) 64 23 (fun _ => 0) ∧ Blk w' (w.heap.size + 1 + 1 + 1 + 1) 128 118 (qS p inv m b a (128 - t)) ∧ m ≤ t ∧ t ≤ 128 ∧ ((l = 1 ∧ v12 = (t : Int) - 1) ∨ (l = 2 ∧ v12 = (t : Int) ∧ t ≤ 127) ∨ (l = 0 ∧ t = m))
def ldM (l : Nat) (a' : Act) : Nat := 3 * (intOf (a'.tmps.getD 12 undef) + 1).toNat + (if l = 1 then 2 else if l = 2 then 1 else 0)
set_option maxRecDepth 100000 in
set_option maxHeartbeats 1600000 in
theorem ld_next (p m inv : Nat) (a b : Nat → Nat) (w : World) (v9 : Value) (u13 u14 u15 u16 u17 u18 u19 u20 u21 u22 u23 u24 u25 u26 u27 u28 u29 u30 u31 u32 u33 u34 u35 u36 u37 u38 u39 u40 u41 u42 u43 u44 u45 u46 u47 u48 u49 u50 u51 u52 u53 u54 u55 u56 u57 u58 u59 u60 u61 u62 u63 u64 u65 u66 u67 u68 u69 u70 u71 u72 u73 u74 u75 u76 u77 : Value) (t : Nat) (wr : World) (Q : Exit → Act → World → Prop) (hb : Below w.heap.size w wr) (b0 : Blk wr w.heap.size 128 118 (dS p inv m b a (128 - t))) (b1 : Blk wr (w.heap.size + 1) 64 23 b) (b2 : Blk wr (w.heap.size + 1 + 1) 128 118 (fun _ => 0)) (b3 : Blk wr (w.heap.size + 1 + 1 + 1) 64 23 (fun _ => 0)) (b4 : Blk wr (w.heap.size + 1 + 1 + 1 + 1) 128 118 (qS p inv m b a (128 - t))) (h1 : m ≤ t) (h2 : t ≤ 127) :
    (behind Try.f174 2).wp Try.prog (Exit.jumps (fun l' a' w' => ldJ p m inv a b w l' a' w' ∧ ldM l' a' < 3 * (t + 1) + 1) Q) { tmps := #[.int .i64 (p : Int), .agg (bcells 128 a), .agg (bcells 64 b), undef, .pointer (some ⟨w.heap.size, 0, none⟩), .pointer (some ⟨w.heap.size + 1, 0, none⟩), .pointer (some ⟨w.heap.size + 1 + 1, 0, none⟩), .pointer (some ⟨w.heap.size + 1 + 1 + 1, 0, none⟩), .pointer (some ⟨w.heap.size + 1 + 1 + 1 + 1, 0, none⟩), v9, .int .i64 (m : Int), .int .u8 (inv : Int), .int .i64 (t : Int), u13, u14, u15, u16, u17, u18, u19, u20, u21, u22, u23, u24, u25, u26, u27, u28, u29, u30, u31, u32, u33, u34, u35, u36, u37, u38, u39, u40, u41, u42, u43, u44, u45, u46, u47, u48, u49, u50, u51, u52, u53, u54, u55, u56, u57, u58, u59, u60, u61, u62, u63, u64, u65, u66, u67, u68, u69, u70, u71, u72, u73, u74, u75, u76, u77], defers := [] } wr := by
  simp only [tailOf, behind, Try.f174, Option.bind_some, scopeIn, Option.getD_some, findLabel, Nat.reduceBEq, if_true, if_false, Bool.false_eq_true, beq_self_eq_true]
  go_wp2_with fail
  go_step3
  refine ⟨⟨t, _, _, _, _, _, _, _, _, _, _, _, _, _, _, _, _, _, _, _, _, _, _, _, _, _, _, _, _, _, _, _, _, _, _, _, _, _, _, _, _, _, _, _, _, _, _, _, _, _, _, _, _, _, _, _, _, _, _, _, _, _, _, _, _, _, _, _, rfl, hb, b0, b1, b2, b3, b4, h1, by omega, Or.inl ⟨rfl, rfl⟩⟩, ?_⟩
  simp [ldM, intOf] <;> omega
set_option maxRecDepth 100000 in
set_option maxHeartbeats 1600000 in
theorem ld_stop (p m inv : Nat) (a b : Nat → Nat) (w : World) (v9 : Value) (u13 u14 u15 u16 u17 u18 u19 u20 u21 u22 u23 u24 u25 u26 u27 u28 u29 u30 u31 u32 u33 u34 u35 u36 u37 u38 u39 u40 u41 u42 u43 u44 u45 u46 u47 u48 u49 u50 u51 u52 u53 u54 u55 u56 u57 u58 u59 u60 u61 u62 u63 u64 u65 u66 u67 u68 u69 u70 u71 u72 u73 u74 u75 u76 u77 : Value) (wr : World) (Q : Exit → Act → World → Prop) (hb : Below w.heap.size w wr) (b0 : Blk wr w.heap.size 128 118 (dS p inv m b a (128 - m))) (b1 : Blk wr (w.heap.size + 1) 64 23 b) (b2 : Blk wr (w.heap.size + 1 + 1) 128 118 (fun _ => 0)) (b3 : Blk wr (w.heap.size + 1 + 1 + 1) 64 23 (fun _ => 0)) (b4 : Blk wr (w.heap.size + 1 + 1 + 1 + 1) 128 118 (qS p inv m b a (128 - m))) (h1 : m ≤ 128) :
    (behind Try.f174 1).wp Try.prog (Exit.jumps (fun l' a' w' => ldJ p m inv a b w l' a' w' ∧ ldM l' a' < 3 * m + 2) Q) { tmps := #[.int .i64 (p : Int), .agg (bcells 128 a), .agg (bcells 64 b), undef, .pointer (some ⟨w.heap.size, 0, none⟩), .pointer (some ⟨w.heap.size + 1, 0, none⟩), .pointer (some ⟨w.heap.size + 1 + 1, 0, none⟩), .pointer (some ⟨w.heap.size + 1 + 1 + 1, 0, none⟩), .pointer (some ⟨w.heap.size + 1 + 1 + 1 + 1, 0, none⟩), v9, .int .i64 (m : Int), .int .u8 (inv : Int), .int .i64 ((m : Int) - 1), u13, u14, u15, u16, u17, u18, u19, u20, u21, u22, u23, u24, u25, u26, u27, u28, u29, u30, u31, u32, u33, u34, u35, u36, u37, u38, u39, u40, u41, u42, u43, u44, u45, u46, u47, u48, u49, u50, u51, u52, u53, u54, u55, u56, u57, u58, u59, u60, u61, u62, u63, u64, u65, u66, u67, u68, u69, u70, u71, u72, u73, u74, u75, u76, u77], defers := [] } wr := by
  simp only [tailOf, behind, Try.f174, Option.bind_some, scopeIn, Option.getD_some, findLabel, Nat.reduceBEq, if_true, if_false, Bool.false_eq_true, beq_self_eq_true]
  go_wp2_with fail
  go_step3
  refine ⟨⟨m, _, _, _, _, _, _, _, _, _, _, _, _, _, _, _, _, _, _, _, _, _, _, _, _, _, _, _, _, _, _, _, _, _, _, _, _, _, _, _, _, _, _, _, _, _, _, _, _, _, _, _, _, _, _, _, _, _, _, _, _, _, _, _, _, _, _, _, rfl, hb, b0, b1, b2, b3, b4, by omega, by omega, Or.inr (Or.inr ⟨rfl, rfl⟩)⟩, ?_⟩
  simp [ldM, intOf]
set_option maxRecDepth 100000 in
set_option maxHeartbeats 1600000 in
theorem ld_zero (p m inv : Nat) (a b : Nat → Nat) (w : World) (v9 : Value) (u13 u14 u15 u16 u17 u18 u19 u20 u21 u22 u23 u24 u25 u26 u27 u28 u29 u30 u31 u32 u33 u34 u35 u36 u37 u38 u39 u40 u41 u42 u43 u44 u45 u46 u47 u48 u49 u50 u51 u52 u53 u54 u55 u56 u57 u58 u59 u60 u61 u62 u63 u64 u65 u66 u67 u68 u69 u70 u71 u72 u73 u74 u75 u76 u77 : Value) (j : Nat) (wr : World) (Q : Exit → Act → World → Prop) (A : Nat → Nat) (hb : Below w.heap.size w wr) (b0 : Blk wr w.heap.size 128 118 A) (b1 : Blk wr (w.heap.size + 1) 64 23 b) (b2 : Blk wr (w.heap.size + 1 + 1) 128 118 (fun _ => 0)) (b3 : Blk wr (w.heap.size + 1 + 1 + 1) 64 23 (fun _ => 0)) (b4 : Blk wr (w.heap.size + 1 + 1 + 1 + 1) 128 118 (qS p inv m b a (127 - j))) (h1 : m ≤ j) (h2 : j ≤ 127)
    (hA : A = dS p inv m b a (127 - j)) (hAp : ∀ k, k < 128 → A k < p) (h0 : A j = 0) :
    (tailOf (behind Try.f174 1)).wp Try.prog (Exit.jumps (fun l' a' w' => ldJ p m inv a b w l' a' w' ∧ ldM l' a' < 3 * (j + 1) + 2) Q) { tmps := #[.int .i64 (p : Int), .agg (bcells 128 a), .agg (bcells 64 b), undef, .pointer (some ⟨w.heap.size, 0, none⟩), .pointer (some ⟨w.heap.size + 1, 0, none⟩), .pointer (some ⟨w.heap.size + 1 + 1, 0, none⟩), .pointer (some ⟨w.heap.size + 1 + 1 + 1, 0, none⟩), .pointer (some ⟨w.heap.size + 1 + 1 + 1 + 1, 0, none⟩), v9, .int .i64 (m : Int), .int .u8 (inv : Int), .int .i64 (j : Int), u13, u14, u15, u16, u17, u18, u19, u20, u21, u22, u23, u24, u25, u26, u27, u28, u29, u30, u31, u32, u33, u34, u35, u36, u37, u38, u39, u40, u41, u42, u43, u44, u45, u46, u47, u48, u49, u50, u51, u52, u53, u54, u55, u56, u57, u58, u59, u60, u61, u62, u63, u64, u65, u66, u67, u68, u69, u70, u71, u72, u73, u74, u75, u76, u77], defers := [] } wr := by
  have HN := Lib.hid (show ∀ k, stp p inv m b j A k = dS p inv m b a (128 - j) k by
    intro k; rw [show 128 - j = 127 - j + 1 by omega, dS_succ, show 127 - (127 - j) = j by omega, hA])
  have HS := Lib.hid (show ∀ k, qS p inv m b a (127 - j) k = qS p inv m b a (128 - j) k by
    intro k
    rw [show 128 - j = 127 - j + 1 by omega]
    exact (qS_skip (p := p) (inv := inv) (m := m) b a (i := 127 - j) (by omega) (by rw [show 127 - (127 - j) = j by omega, ← hA]; exact h0) k).symm)
  have HAP := Lib.hid hAp
  have H0 := Lib.hid h0
  have c0 := b0.cell (i := j) (by omega)
  rw [h0] at c0
  clear hA hAp h0
  simp only [tailOf, behind, Try.f174, Option.bind_some, scopeIn, Option.getD_some, findLabel, Nat.reduceBEq, if_true, if_false, Bool.false_eq_true, beq_self_eq_true]
  go_wp2_with fail
  go_step3
  refine ⟨⟨j, _, _, _, _, _, _, _, _, _, _, _, _, _, _, _, _, _, _, _, _, _, _, _, _, _, _, _, _, _, _, _, _, _, _, _, _, _, _, _, _, _, _, _, _, _, _, _, _, _, _, _, _, _, _, _, _, _, _, _, _, _, _, _, _, _, _, _, rfl, hb, b0.congr (fun k hk => by rw [← HN.out k]; exact (stp_skip HAP.out H0.out hk).symm), b1, b2, b3, b4.congr (fun k _ => HS.out k), h1, by omega, Or.inr (Or.inl ⟨rfl, rfl, h2⟩)⟩, ?_⟩
  simp [ldM, intOf]
set_option maxRecDepth 100000 in
set_option maxHeartbeats 3200000 in
theorem ld_take (p m inv : Nat) (a b : Nat → Nat) (w : World) (v9 : Value) (u13 u14 u15 u16 u17 u18 u19 u20 u21 u22 u23 u24 u25 u26 u27 u28 u29 u30 u31 u32 u33 u34 u35 u36 u37 u38 u39 u40 u41 u42 u43 u44 u45 u46 u47 u48 u49 u50 u51 u52 u53 u54 u55 u56 u57 u58 u59 u60 u61 u62 u63 u64 u65 u66 u67 u68 u69 u70 u71 u72 u73 u74 u75 u76 u77 : Value) (j : Nat) (wr : World) (Q : Exit → Act → World → Prop) (A : Nat → Nat) (hb : Below w.heap.size w wr) (b0 : Blk wr w.heap.size 128 118 A) (b1 : Blk wr (w.heap.size + 1) 64 23 b) (b2 : Blk wr (w.heap.size + 1 + 1) 128 118 (fun _ => 0)) (b3 : Blk wr (w.heap.size + 1 + 1 + 1) 64 23 (fun _ => 0)) (b4 : Blk wr (w.heap.size + 1 + 1 + 1 + 1) 128 118 (qS p inv m b a (127 - j))) (h1 : m ≤ j) (h2 : j ≤ 127)
    (hA : A = dS p inv m b a (127 - j)) (hAp : ∀ k, k < 128 → A k < p) (h0 : A j ≠ 0) (p2 : 2 ≤ p) (p7 : p ≤ 7) (hi7 : inv < p) (hbp : ∀ k, k < 64 → b k < p) (hm6 : m < 64) :
    (tailOf (behind Try.f174 1)).wp Try.prog (Exit.jumps (fun l' a' w' => ldJ p m inv a b w l' a' w' ∧ ldM l' a' < 3 * (j + 1) + 2) Q) { tmps := #[.int .i64 (p : Int), .agg (bcells 128 a), .agg (bcells 64 b), undef, .pointer (some ⟨w.heap.size, 0, none⟩), .pointer (some ⟨w.heap.size + 1, 0, none⟩), .pointer (some ⟨w.heap.size + 1 + 1, 0, none⟩), .pointer (some ⟨w.heap.size + 1 + 1 + 1, 0, none⟩), .pointer (some ⟨w.heap.size + 1 + 1 + 1 + 1, 0, none⟩), v9, .int .i64 (m : Int), .int .u8 (inv : Int), .int .i64 (j : Int), u13, u14, u15, u16, u17, u18, u19, u20, u21, u22, u23, u24, u25, u26, u27, u28, u29, u30, u31, u32, u33, u34, u35, u36, u37, u38, u39, u40, u41, u42, u43, u44, u45, u46, u47, u48, u49, u50, u51, u52, u53, u54, u55, u56, u57, u58, u59, u60, u61, u62, u63, u64, u65, u66, u67, u68, u69, u70, u71, u72, u73, u74, u75, u76, u77], defers := [] } wr := by
  have HN := Lib.hid (show ∀ k, stp p inv m b j A k = dS p inv m b a (128 - j) k by
    intro k; rw [show 128 - j = 127 - j + 1 by omega, dS_succ, show 127 - (127 - j) = j by omega, hA])
  have HQ := Lib.hid (show ∀ k, upd (qS p inv m b a (127 - j)) (j - m) (A j * inv % p) k = qS p inv m b a (128 - j) k by
    intro k
    have := qS_next (p := p) (inv := inv) b a (i := 127 - j) (m := m) (by omega) k
    rw [show 127 - (127 - j) = j by omega, ← hA] at this
    rw [show 128 - j = 127 - j + 1 by omega]
    exact this)
  have HAP := Lib.hid hAp
  have HB := Lib.hid hbp
  have hjA : A j < p := hAp j (by omega)
  have c0 := b0.cell (i := j) (by omega)
  have h0' : (A j : Int) ≠ 0 := by omega
  obtain ⟨m1, m2⟩ := small_nat_mul p7 hjA hi7
  obtain ⟨τ, hτ⟩ : ∃ τ : Nat, τ = A j * inv % p := ⟨_, rfl⟩
  have hτp : τ < p := by rw [hτ]; exact Nat.mod_lt _ (by omega)
  have hτe : (A j : Int) * (inv : Int) % (p : Int) = (τ : Int) := by rw [hτ]; push_cast; rfl
  have HT := Lib.hid hτ
  have hjm : ((j : Int) - (m : Int)).toNat = j - m := by omega
  have z4 := b4.frozen (j - m)
  have c4 := b4.cell (i := j - m) (by omega)
  clear hA hAp h0 hτ hbp
  simp only [tailOf, behind, Try.f174, Option.bind_some, scopeIn, Option.getD_some, findLabel, Nat.reduceBEq, if_true, if_false, Bool.false_eq_true, beq_self_eq_true]
  go_wp2_with fail
  rw [hτe]
  simp only [show decide (j < m) = false by simp <;> omega, show ((A j : Int) == 0) = false by simp <;> omega]
  have b4q : Blk (wr.setCell ⟨w.heap.size + 1 + 1 + 1 + 1, j - m, none⟩ (.int .u8 (τ : Int))) (w.heap.size + 1 + 1 + 1 + 1) 128 118 (qS p inv m b a (128 - j)) := (b4.set rfl).congr (fun k _ => by rw [← HQ.out k, HT.out])
  have hbq : Below w.heap.size w (wr.setCell ⟨w.heap.size + 1 + 1 + 1 + 1, j - m, none⟩ (.int .u8 (τ : Int))) := hb.setCell (by simp; omega) _
  have b0q := (b0.congr (fun k _ => (stpr_zero p inv m b j A k).symm)).setOther (a := ⟨w.heap.size + 1 + 1 + 1 + 1, j - m, none⟩) (v := .int .u8 (τ : Int)) (by simp <;> omega)
  have b1q := b1.setOther (a := ⟨w.heap.size + 1 + 1 + 1 + 1, j - m, none⟩) (v := .int .u8 (τ : Int)) (by simp <;> omega)
  have b2q := b2.setOther (a := ⟨w.heap.size + 1 + 1 + 1 + 1, j - m, none⟩) (v := .int .u8 (τ : Int)) (by simp <;> omega)
  have b3q := b3.setOther (a := ⟨w.heap.size + 1 + 1 + 1 + 1, j - m, none⟩) (v := .int .u8 (τ : Int)) (by simp <;> omega)
  obtain ⟨w5, hw5⟩ : ∃ w5, w5 = wr.setCell ⟨w.heap.size + 1 + 1 + 1 + 1, j - m, none⟩ (.int .u8 (τ : Int)) := ⟨_, rfl⟩
  rw [← hw5] at b4q hbq b0q b1q b2q b3q ⊢
  clear hw5 hb b0 b1 b2 b3 b4 c0 c4 z4 hτe m1 m2 h0' hjm
  go_loopw [43] (fun c wr => ∃ i : Nat, i ≤ m + 1 ∧ c = .int .i64 (i : Int) ∧ Below w.heap.size w wr ∧ Blk wr w.heap.size 128 118 (stpr p inv m b j A i) ∧ Blk wr (w.heap.size + 1) 64 23 b ∧ Blk wr (w.heap.size + 1 + 1) 128 118 (fun _ => 0) ∧ Blk wr (w.heap.size + 1 + 1 + 1) 64 23 (fun _ => 0) ∧ Blk wr (w.heap.size + 1 + 1 + 1 + 1) 128 118 (qS p inv m b a (128 - j))) (fun c _ => m + 1 - (intOf c).toNat)
  case atStart => exact ⟨0, by omega, rfl, hbq, b0q, b1q, b2q, b3q, b4q⟩
  case round =>
    clear hbq b0q b1q b2q b3q b4q
    obtain ⟨i, hi, rfl, hb, b0, b1, b2, b3, b4⟩ := hrel
    by_cases hlt : i < m + 1
    · have v1 := HAP.out (j - m + i) (by omega)
      have v2 := HB.out i (by omega)
      have hji : ((j : Int) - (m : Int) + (i : Int)).toNat = j - m + i := by omega
      have hc : ((p - A j * inv % p : Nat) : Int) = (p : Int) - (τ : Int) := by rw [← HT.out]; omega
      have HE := Lib.hid (show ((A (j - m + i) : Int) + ((p : Int) - (τ : Int)) * (b i : Int)) % (p : Int) = (((A (j - m + i) + (p - A j * inv % p) * b i) % p : Nat) : Int) by rw [Int.natCast_emod, Int.natCast_add, Int.natCast_mul, hc])
      have m3 : 0 ≤ ((p : Int) - (τ : Int)) * (b i : Int) := Int.mul_nonneg (by omega) (by omega)
      have m4 : ((p : Int) - (τ : Int)) * (b i : Int) ≤ 42 := by
        have : ((p : Int) - (τ : Int)) * (b i : Int) ≤ 7 * 6 := Int.mul_le_mul (by omega) (by omega) (by omega) (by omega)
        omega
      clear hc
      go_wp2_with fail
      simp only [show decide ((i : Int) < (m : Int) + 1) = true by simp <;> omega]
      have lt_b0 : (w.heap.size) < wr.heap.size := b0.lt
      have lt_b1 : (w.heap.size + 1) < wr.heap.size := b1.lt
      have lt_b2 : (w.heap.size + 1 + 1) < wr.heap.size := b2.lt
      have lt_b3 : (w.heap.size + 1 + 1 + 1) < wr.heap.size := b3.lt
      have lt_b4 : (w.heap.size + 1 + 1 + 1 + 1) < wr.heap.size := b4.lt
      have hbase : w.heap.size ≤ wr.heap.size := hb.size
      refine wp_region_steps0 Try.mixed (by kernel_rfl) (by kernel_rfl) (fun v => by (simp only [frL, Act.put, List.setIfInBounds_toArray, List.set_cons_zero, List.set_cons_succ, Nat.reduceAdd, Nat.zero_add]; exact rfl))
        (fun L v wx => Below w.heap.size w wx ∧ wr.heap.size ≤ wx.heap.size ∧ (∃ g, Blk wx (w.heap.size) 128 118 (g)) ∧ (L 25 = false → Blk wx (w.heap.size) 128 118 (stpr p inv m b j A i)) ∧ (L 25 = true → Blk wx (w.heap.size) 128 118 (stpr p inv m b j A (i + 1))) ∧ Blk wx (w.heap.size + 1) 64 23 (b) ∧ Blk wx (w.heap.size + 1 + 1) 128 118 (fun _ => 0) ∧ Blk wx (w.heap.size + 1 + 1 + 1) 64 23 (fun _ => 0) ∧ Blk wx (w.heap.size + 1 + 1 + 1 + 1) 128 118 (qS p inv m b a (128 - j)) ∧ (L 0 = true → v 0 = (.int .i64 (j : Int))) ∧ (L 1 = true → v 1 = (.int .i64 (m : Int))) ∧ (L 2 = true → v 2 = (.int .i64 ((j : Int) - (m : Int)))) ∧ (L 3 = true → v 3 = (.int .i64 (i : Int))) ∧ (L 4 = true → v 4 = (.int .i64 ((j : Int) - (m : Int) + (i : Int)))) ∧ (L 5 = true → v 5 = (.int .i64 (j : Int))) ∧ (L 6 = true → v 6 = (.int .i64 (m : Int))) ∧ (L 7 = true → v 7 = (.int .i64 ((j : Int) - (m : Int)))) ∧ (L 8 = true → v 8 = (.int .i64 (i : Int))) ∧ (L 9 = true → v 9 = (.int .i64 ((j : Int) - (m : Int) + (i : Int)))) ∧ (L 10 = true → v 10 = (.pointer (some ⟨w.heap.size, j - m + i, none⟩))) ∧ (L 11 = true → v 11 = (.int .u8 (A (j - m + i) : Int))) ∧ (L 12 = true → v 12 = (.int .i64 (p : Int))) ∧ (L 13 = true → v 13 = (.int .u8 (p : Int))) ∧ (L 14 = true → v 14 = (.int .u8 (τ : Int))) ∧ (L 15 = true → v 15 = (.int .u8 ((p : Int) - (τ : Int)))) ∧ (L 16 = true → v 16 = (.int .i64 (i : Int))) ∧ (L 17 = true → v 17 = (.pointer (some ⟨w.heap.size + 1, i, none⟩))) ∧ (L 18 = true → v 18 = (.int .u8 (b i : Int))) ∧ (L 19 = true → v 19 = (.int .u8 (((p : Int) - (τ : Int)) * (b i : Int)))) ∧ (L 20 = true → v 20 = (.int .u8 ((A (j - m + i) : Int) + (((p : Int) - (τ : Int)) * (b i : Int))))) ∧ (L 21 = true → v 21 = (.int .i64 (p : Int))) ∧ (L 22 = true → v 22 = (.int .u8 (p : Int))) ∧ (L 23 = true → v 23 = (.int .u8 (((A (j - m + i) : Int) + (((p : Int) - (τ : Int)) * (b i : Int))) % (p : Int)))) ∧ (L 24 = true → v 24 = (.pointer (some ⟨w.heap.size, j - m + i, none⟩)))) ?_ ?_ ?_
      · intro v hv0
        exact ⟨hb.drew, Nat.le_refl _, ⟨_, b0.drew⟩, (fun _ => b0.drew), (fun h => by cases h), b1.drew, b2.drew, b3.drew, b4.drew, (fun h => by cases h), (fun h => by cases h), (fun h => by cases h), (fun h => by cases h), (fun h => by cases h), (fun h => by cases h), (fun h => by cases h), (fun h => by cases h), (fun h => by cases h), (fun h => by cases h), (fun h => by cases h), (fun h => by cases h), (fun h => by cases h), (fun h => by cases h), (fun h => by cases h), (fun h => by cases h), (fun h => by cases h), (fun h => by cases h), (fun h => by cases h), (fun h => by cases h), (fun h => by cases h), (fun h => by cases h), (fun h => by cases h), (fun h => by cases h), (fun h => by cases h)⟩
      · refine (.cons rfl ?_ (.cons rfl ?_ (.cons rfl ?_ (.cons rfl ?_ (.cons rfl ?_ (.cons rfl ?_ (.cons rfl ?_ (.cons rfl ?_ (.cons rfl ?_ (.cons rfl ?_ (.cons rfl ?_ (.cons rfl ?_ (.cons rfl ?_ (.cons rfl ?_ (.cons rfl ?_ (.cons rfl ?_ (.cons rfl ?_ (.cons rfl ?_ (.cons rfl ?_ (.cons rfl ?_ (.cons rfl ?_ (.cons rfl ?_ (.cons rfl ?_ (.cons rfl ?_ (.cons rfl ?_ (.cons rfl ?_ (.nil _)))))))))))))))))))))))))))
        · intro L v wx hd hn ⟨hB, hz, x0, q0, n0, s1, s2, s3, s4, h0, h1, h2, h3, h4, h5, h6, h7, h8, h9, h10, h11, h12, h13, h14, h15, h16, h17, h18, h19, h20, h21, h22, h23, h24⟩ K hK
          go_wp2_with fail
          exact hK _ (.int .i64 (j : Int)) _ (by simp only [Act.put, List.setIfInBounds_toArray, List.set_cons_zero, List.set_cons_succ ]) ⟨hB, hz, x0, q0, n0, s1, s2, s3, s4, (fun _ => rfl), h1, h2, h3, h4, h5, h6, h7, h8, h9, h10, h11, h12, h13, h14, h15, h16, h17, h18, h19, h20, h21, h22, h23, h24⟩
        · intro L v wx hd hn ⟨hB, hz, x0, q0, n0, s1, s2, s3, s4, h0, h1, h2, h3, h4, h5, h6, h7, h8, h9, h10, h11, h12, h13, h14, h15, h16, h17, h18, h19, h20, h21, h22, h23, h24⟩ K hK
          go_wp2_with fail
          exact hK _ (.int .i64 (m : Int)) _ (by simp only [Act.put, List.setIfInBounds_toArray, List.set_cons_zero, List.set_cons_succ ]) ⟨hB, hz, x0, q0, n0, s1, s2, s3, s4, h0, (fun _ => rfl), h2, h3, h4, h5, h6, h7, h8, h9, h10, h11, h12, h13, h14, h15, h16, h17, h18, h19, h20, h21, h22, h23, h24⟩
        · intro L v wx hd hn ⟨hB, hz, x0, q0, n0, s1, s2, s3, s4, h0, h1, h2, h3, h4, h5, h6, h7, h8, h9, h10, h11, h12, h13, h14, h15, h16, h17, h18, h19, h20, h21, h22, h23, h24⟩ K hK
          have e0 := h0 (hd ⟨0, .data⟩ (by simp) rfl)
          have e1 := h1 (hd ⟨1, .data⟩ (by simp) rfl)
          go_wp2_with fail
          exact hK _ (.int .i64 ((j : Int) - (m : Int))) _ (by simp only [Act.put, List.setIfInBounds_toArray, List.set_cons_zero, List.set_cons_succ, e0, e1]) ⟨hB, hz, x0, q0, n0, s1, s2, s3, s4, h0, h1, (fun _ => rfl), h3, h4, h5, h6, h7, h8, h9, h10, h11, h12, h13, h14, h15, h16, h17, h18, h19, h20, h21, h22, h23, h24⟩
        · intro L v wx hd hn ⟨hB, hz, x0, q0, n0, s1, s2, s3, s4, h0, h1, h2, h3, h4, h5, h6, h7, h8, h9, h10, h11, h12, h13, h14, h15, h16, h17, h18, h19, h20, h21, h22, h23, h24⟩ K hK
          go_wp2_with fail
          exact hK _ (.int .i64 (i : Int)) _ (by simp only [Act.put, List.setIfInBounds_toArray, List.set_cons_zero, List.set_cons_succ ]) ⟨hB, hz, x0, q0, n0, s1, s2, s3, s4, h0, h1, h2, (fun _ => rfl), h4, h5, h6, h7, h8, h9, h10, h11, h12, h13, h14, h15, h16, h17, h18, h19, h20, h21, h22, h23, h24⟩
        · intro L v wx hd hn ⟨hB, hz, x0, q0, n0, s1, s2, s3, s4, h0, h1, h2, h3, h4, h5, h6, h7, h8, h9, h10, h11, h12, h13, h14, h15, h16, h17, h18, h19, h20, h21, h22, h23, h24⟩ K hK
          have e2 := h2 (hd ⟨2, .data⟩ (by simp) rfl)
          have e3 := h3 (hd ⟨3, .data⟩ (by simp) rfl)
          go_wp2_with fail
          exact hK _ (.int .i64 ((j : Int) - (m : Int) + (i : Int))) _ (by simp only [Act.put, List.setIfInBounds_toArray, List.set_cons_zero, List.set_cons_succ, e2, e3]) ⟨hB, hz, x0, q0, n0, s1, s2, s3, s4, h0, h1, h2, h3, (fun _ => rfl), h5, h6, h7, h8, h9, h10, h11, h12, h13, h14, h15, h16, h17, h18, h19, h20, h21, h22, h23, h24⟩
        · intro L v wx hd hn ⟨hB, hz, x0, q0, n0, s1, s2, s3, s4, h0, h1, h2, h3, h4, h5, h6, h7, h8, h9, h10, h11, h12, h13, h14, h15, h16, h17, h18, h19, h20, h21, h22, h23, h24⟩ K hK
          go_wp2_with fail
          exact hK _ (.int .i64 (j : Int)) _ (by simp only [Act.put, List.setIfInBounds_toArray, List.set_cons_zero, List.set_cons_succ ]) ⟨hB, hz, x0, q0, n0, s1, s2, s3, s4, h0, h1, h2, h3, h4, (fun _ => rfl), h6, h7, h8, h9, h10, h11, h12, h13, h14, h15, h16, h17, h18, h19, h20, h21, h22, h23, h24⟩
        · intro L v wx hd hn ⟨hB, hz, x0, q0, n0, s1, s2, s3, s4, h0, h1, h2, h3, h4, h5, h6, h7, h8, h9, h10, h11, h12, h13, h14, h15, h16, h17, h18, h19, h20, h21, h22, h23, h24⟩ K hK
          go_wp2_with fail
          exact hK _ (.int .i64 (m : Int)) _ (by simp only [Act.put, List.setIfInBounds_toArray, List.set_cons_zero, List.set_cons_succ ]) ⟨hB, hz, x0, q0, n0, s1, s2, s3, s4, h0, h1, h2, h3, h4, h5, (fun _ => rfl), h7, h8, h9, h10, h11, h12, h13, h14, h15, h16, h17, h18, h19, h20, h21, h22, h23, h24⟩
        · intro L v wx hd hn ⟨hB, hz, x0, q0, n0, s1, s2, s3, s4, h0, h1, h2, h3, h4, h5, h6, h7, h8, h9, h10, h11, h12, h13, h14, h15, h16, h17, h18, h19, h20, h21, h22, h23, h24⟩ K hK
          have e5 := h5 (hd ⟨5, .data⟩ (by simp) rfl)
          have e6 := h6 (hd ⟨6, .data⟩ (by simp) rfl)
          go_wp2_with fail
          exact hK _ (.int .i64 ((j : Int) - (m : Int))) _ (by simp only [Act.put, List.setIfInBounds_toArray, List.set_cons_zero, List.set_cons_succ, e5, e6]) ⟨hB, hz, x0, q0, n0, s1, s2, s3, s4, h0, h1, h2, h3, h4, h5, h6, (fun _ => rfl), h8, h9, h10, h11, h12, h13, h14, h15, h16, h17, h18, h19, h20, h21, h22, h23, h24⟩
        · intro L v wx hd hn ⟨hB, hz, x0, q0, n0, s1, s2, s3, s4, h0, h1, h2, h3, h4, h5, h6, h7, h8, h9, h10, h11, h12, h13, h14, h15, h16, h17, h18, h19, h20, h21, h22, h23, h24⟩ K hK
          go_wp2_with fail
          exact hK _ (.int .i64 (i : Int)) _ (by simp only [Act.put, List.setIfInBounds_toArray, List.set_cons_zero, List.set_cons_succ ]) ⟨hB, hz, x0, q0, n0, s1, s2, s3, s4, h0, h1, h2, h3, h4, h5, h6, h7, (fun _ => rfl), h9, h10, h11, h12, h13, h14, h15, h16, h17, h18, h19, h20, h21, h22, h23, h24⟩
        · intro L v wx hd hn ⟨hB, hz, x0, q0, n0, s1, s2, s3, s4, h0, h1, h2, h3, h4, h5, h6, h7, h8, h9, h10, h11, h12, h13, h14, h15, h16, h17, h18, h19, h20, h21, h22, h23, h24⟩ K hK
          have e7 := h7 (hd ⟨7, .data⟩ (by simp) rfl)
          have e8 := h8 (hd ⟨8, .data⟩ (by simp) rfl)
          go_wp2_with fail
          exact hK _ (.int .i64 ((j : Int) - (m : Int) + (i : Int))) _ (by simp only [Act.put, List.setIfInBounds_toArray, List.set_cons_zero, List.set_cons_succ, e7, e8]) ⟨hB, hz, x0, q0, n0, s1, s2, s3, s4, h0, h1, h2, h3, h4, h5, h6, h7, h8, (fun _ => rfl), h10, h11, h12, h13, h14, h15, h16, h17, h18, h19, h20, h21, h22, h23, h24⟩
        · intro L v wx hd hn ⟨hB, hz, x0, q0, n0, s1, s2, s3, s4, h0, h1, h2, h3, h4, h5, h6, h7, h8, h9, h10, h11, h12, h13, h14, h15, h16, h17, h18, h19, h20, h21, h22, h23, h24⟩ K hK
          have e9 := h9 (hd ⟨9, .data⟩ (by simp) rfl)
          go_wp2_with fail
          exact hK _ (.pointer (some ⟨w.heap.size, j - m + i, none⟩)) _ (by simp only [Act.put, List.setIfInBounds_toArray, List.set_cons_zero, List.set_cons_succ, e9]) ⟨hB, hz, x0, q0, n0, s1, s2, s3, s4, h0, h1, h2, h3, h4, h5, h6, h7, h8, h9, (fun _ => rfl), h11, h12, h13, h14, h15, h16, h17, h18, h19, h20, h21, h22, h23, h24⟩
        · intro L v wx hd hn ⟨hB, hz, x0, q0, n0, s1, s2, s3, s4, h0, h1, h2, h3, h4, h5, h6, h7, h8, h9, h10, h11, h12, h13, h14, h15, h16, h17, h18, h19, h20, h21, h22, h23, h24⟩ K hK
          have e10 := h10 (hd ⟨10, .data⟩ (by simp) rfl)
          have s0 := q0 (by
            cases hL : L 25 with
            | false => rfl
            | true => exact absurd rfl (hn 25 _ rfl hL ⟨11, .phase⟩ (by simp) rfl))
          have cc := s0.cell (i := j - m + i) (by omega)
          rw [stpr_at] at cc
          go_wp2_with fail
          exact hK _ (.int .u8 (A (j - m + i) : Int)) _ (by simp only [Act.put, List.setIfInBounds_toArray, List.set_cons_zero, List.set_cons_succ, e10]) ⟨hB, hz, x0, q0, n0, s1, s2, s3, s4, h0, h1, h2, h3, h4, h5, h6, h7, h8, h9, h10, (fun _ => rfl), h12, h13, h14, h15, h16, h17, h18, h19, h20, h21, h22, h23, h24⟩
        · intro L v wx hd hn ⟨hB, hz, x0, q0, n0, s1, s2, s3, s4, h0, h1, h2, h3, h4, h5, h6, h7, h8, h9, h10, h11, h12, h13, h14, h15, h16, h17, h18, h19, h20, h21, h22, h23, h24⟩ K hK
          go_wp2_with fail
          exact hK _ (.int .i64 (p : Int)) _ (by simp only [Act.put, List.setIfInBounds_toArray, List.set_cons_zero, List.set_cons_succ ]) ⟨hB, hz, x0, q0, n0, s1, s2, s3, s4, h0, h1, h2, h3, h4, h5, h6, h7, h8, h9, h10, h11, (fun _ => rfl), h13, h14, h15, h16, h17, h18, h19, h20, h21, h22, h23, h24⟩
        · intro L v wx hd hn ⟨hB, hz, x0, q0, n0, s1, s2, s3, s4, h0, h1, h2, h3, h4, h5, h6, h7, h8, h9, h10, h11, h12, h13, h14, h15, h16, h17, h18, h19, h20, h21, h22, h23, h24⟩ K hK
          have e12 := h12 (hd ⟨12, .data⟩ (by simp) rfl)
          go_wp2_with fail
          exact hK _ (.int .u8 (p : Int)) _ (by simp only [Act.put, List.setIfInBounds_toArray, List.set_cons_zero, List.set_cons_succ, e12]) ⟨hB, hz, x0, q0, n0, s1, s2, s3, s4, h0, h1, h2, h3, h4, h5, h6, h7, h8, h9, h10, h11, h12, (fun _ => rfl), h14, h15, h16, h17, h18, h19, h20, h21, h22, h23, h24⟩
        · intro L v wx hd hn ⟨hB, hz, x0, q0, n0, s1, s2, s3, s4, h0, h1, h2, h3, h4, h5, h6, h7, h8, h9, h10, h11, h12, h13, h14, h15, h16, h17, h18, h19, h20, h21, h22, h23, h24⟩ K hK
          go_wp2_with fail
          exact hK _ (.int .u8 (τ : Int)) _ (by simp only [Act.put, List.setIfInBounds_toArray, List.set_cons_zero, List.set_cons_succ ]) ⟨hB, hz, x0, q0, n0, s1, s2, s3, s4, h0, h1, h2, h3, h4, h5, h6, h7, h8, h9, h10, h11, h12, h13, (fun _ => rfl), h15, h16, h17, h18, h19, h20, h21, h22, h23, h24⟩
        · intro L v wx hd hn ⟨hB, hz, x0, q0, n0, s1, s2, s3, s4, h0, h1, h2, h3, h4, h5, h6, h7, h8, h9, h10, h11, h12, h13, h14, h15, h16, h17, h18, h19, h20, h21, h22, h23, h24⟩ K hK
          have e13 := h13 (hd ⟨13, .data⟩ (by simp) rfl)
          have e14 := h14 (hd ⟨14, .data⟩ (by simp) rfl)
          go_wp2_with fail
          exact hK _ (.int .u8 ((p : Int) - (τ : Int))) _ (by simp only [Act.put, List.setIfInBounds_toArray, List.set_cons_zero, List.set_cons_succ, e13, e14]) ⟨hB, hz, x0, q0, n0, s1, s2, s3, s4, h0, h1, h2, h3, h4, h5, h6, h7, h8, h9, h10, h11, h12, h13, h14, (fun _ => rfl), h16, h17, h18, h19, h20, h21, h22, h23, h24⟩
        · intro L v wx hd hn ⟨hB, hz, x0, q0, n0, s1, s2, s3, s4, h0, h1, h2, h3, h4, h5, h6, h7, h8, h9, h10, h11, h12, h13, h14, h15, h16, h17, h18, h19, h20, h21, h22, h23, h24⟩ K hK
          go_wp2_with fail
          exact hK _ (.int .i64 (i : Int)) _ (by simp only [Act.put, List.setIfInBounds_toArray, List.set_cons_zero, List.set_cons_succ ]) ⟨hB, hz, x0, q0, n0, s1, s2, s3, s4, h0, h1, h2, h3, h4, h5, h6, h7, h8, h9, h10, h11, h12, h13, h14, h15, (fun _ => rfl), h17, h18, h19, h20, h21, h22, h23, h24⟩
        · intro L v wx hd hn ⟨hB, hz, x0, q0, n0, s1, s2, s3, s4, h0, h1, h2, h3, h4, h5, h6, h7, h8, h9, h10, h11, h12, h13, h14, h15, h16, h17, h18, h19, h20, h21, h22, h23, h24⟩ K hK
          have e16 := h16 (hd ⟨16, .data⟩ (by simp) rfl)
          go_wp2_with fail
          exact hK _ (.pointer (some ⟨w.heap.size + 1, i, none⟩)) _ (by simp only [Act.put, List.setIfInBounds_toArray, List.set_cons_zero, List.set_cons_succ, e16]) ⟨hB, hz, x0, q0, n0, s1, s2, s3, s4, h0, h1, h2, h3, h4, h5, h6, h7, h8, h9, h10, h11, h12, h13, h14, h15, h16, (fun _ => rfl), h18, h19, h20, h21, h22, h23, h24⟩
        · intro L v wx hd hn ⟨hB, hz, x0, q0, n0, s1, s2, s3, s4, h0, h1, h2, h3, h4, h5, h6, h7, h8, h9, h10, h11, h12, h13, h14, h15, h16, h17, h18, h19, h20, h21, h22, h23, h24⟩ K hK
          have e17 := h17 (hd ⟨17, .data⟩ (by simp) rfl)
          have cc := s1.cell (i := i) (by omega)
          go_wp2_with fail
          exact hK _ (.int .u8 (b i : Int)) _ (by simp only [Act.put, List.setIfInBounds_toArray, List.set_cons_zero, List.set_cons_succ, e17]) ⟨hB, hz, x0, q0, n0, s1, s2, s3, s4, h0, h1, h2, h3, h4, h5, h6, h7, h8, h9, h10, h11, h12, h13, h14, h15, h16, h17, (fun _ => rfl), h19, h20, h21, h22, h23, h24⟩
        · intro L v wx hd hn ⟨hB, hz, x0, q0, n0, s1, s2, s3, s4, h0, h1, h2, h3, h4, h5, h6, h7, h8, h9, h10, h11, h12, h13, h14, h15, h16, h17, h18, h19, h20, h21, h22, h23, h24⟩ K hK
          have e15 := h15 (hd ⟨15, .data⟩ (by simp) rfl)
          have e18 := h18 (hd ⟨18, .data⟩ (by simp) rfl)
          go_wp2_with fail
          exact hK _ (.int .u8 (((p : Int) - (τ : Int)) * (b i : Int))) _ (by simp only [Act.put, List.setIfInBounds_toArray, List.set_cons_zero, List.set_cons_succ, e15, e18]) ⟨hB, hz, x0, q0, n0, s1, s2, s3, s4, h0, h1, h2, h3, h4, h5, h6, h7, h8, h9, h10, h11, h12, h13, h14, h15, h16, h17, h18, (fun _ => rfl), h20, h21, h22, h23, h24⟩
        · intro L v wx hd hn ⟨hB, hz, x0, q0, n0, s1, s2, s3, s4, h0, h1, h2, h3, h4, h5, h6, h7, h8, h9, h10, h11, h12, h13, h14, h15, h16, h17, h18, h19, h20, h21, h22, h23, h24⟩ K hK
          have e11 := h11 (hd ⟨11, .data⟩ (by simp) rfl)
          have e19 := h19 (hd ⟨19, .data⟩ (by simp) rfl)
          go_wp2_with fail
          exact hK _ (.int .u8 ((A (j - m + i) : Int) + (((p : Int) - (τ : Int)) * (b i : Int)))) _ (by simp only [Act.put, List.setIfInBounds_toArray, List.set_cons_zero, List.set_cons_succ, e11, e19]) ⟨hB, hz, x0, q0, n0, s1, s2, s3, s4, h0, h1, h2, h3, h4, h5, h6, h7, h8, h9, h10, h11, h12, h13, h14, h15, h16, h17, h18, h19, (fun _ => rfl), h21, h22, h23, h24⟩
        · intro L v wx hd hn ⟨hB, hz, x0, q0, n0, s1, s2, s3, s4, h0, h1, h2, h3, h4, h5, h6, h7, h8, h9, h10, h11, h12, h13, h14, h15, h16, h17, h18, h19, h20, h21, h22, h23, h24⟩ K hK
          go_wp2_with fail
          exact hK _ (.int .i64 (p : Int)) _ (by simp only [Act.put, List.setIfInBounds_toArray, List.set_cons_zero, List.set_cons_succ ]) ⟨hB, hz, x0, q0, n0, s1, s2, s3, s4, h0, h1, h2, h3, h4, h5, h6, h7, h8, h9, h10, h11, h12, h13, h14, h15, h16, h17, h18, h19, h20, (fun _ => rfl), h22, h23, h24⟩
        · intro L v wx hd hn ⟨hB, hz, x0, q0, n0, s1, s2, s3, s4, h0, h1, h2, h3, h4, h5, h6, h7, h8, h9, h10, h11, h12, h13, h14, h15, h16, h17, h18, h19, h20, h21, h22, h23, h24⟩ K hK
          have e21 := h21 (hd ⟨21, .data⟩ (by simp) rfl)
          go_wp2_with fail
          exact hK _ (.int .u8 (p : Int)) _ (by simp only [Act.put, List.setIfInBounds_toArray, List.set_cons_zero, List.set_cons_succ, e21]) ⟨hB, hz, x0, q0, n0, s1, s2, s3, s4, h0, h1, h2, h3, h4, h5, h6, h7, h8, h9, h10, h11, h12, h13, h14, h15, h16, h17, h18, h19, h20, h21, (fun _ => rfl), h23, h24⟩
        · intro L v wx hd hn ⟨hB, hz, x0, q0, n0, s1, s2, s3, s4, h0, h1, h2, h3, h4, h5, h6, h7, h8, h9, h10, h11, h12, h13, h14, h15, h16, h17, h18, h19, h20, h21, h22, h23, h24⟩ K hK
          have e20 := h20 (hd ⟨20, .data⟩ (by simp) rfl)
          have e22 := h22 (hd ⟨22, .data⟩ (by simp) rfl)
          go_wp2_with fail
          exact hK _ (.int .u8 (((A (j - m + i) : Int) + (((p : Int) - (τ : Int)) * (b i : Int))) % (p : Int))) _ (by simp only [Act.put, List.setIfInBounds_toArray, List.set_cons_zero, List.set_cons_succ, e20, e22]) ⟨hB, hz, x0, q0, n0, s1, s2, s3, s4, h0, h1, h2, h3, h4, h5, h6, h7, h8, h9, h10, h11, h12, h13, h14, h15, h16, h17, h18, h19, h20, h21, h22, (fun _ => rfl), h24⟩
        · intro L v wx hd hn ⟨hB, hz, x0, q0, n0, s1, s2, s3, s4, h0, h1, h2, h3, h4, h5, h6, h7, h8, h9, h10, h11, h12, h13, h14, h15, h16, h17, h18, h19, h20, h21, h22, h23, h24⟩ K hK
          have e4 := h4 (hd ⟨4, .data⟩ (by simp) rfl)
          go_wp2_with fail
          exact hK _ (.pointer (some ⟨w.heap.size, j - m + i, none⟩)) _ (by simp only [Act.put, List.setIfInBounds_toArray, List.set_cons_zero, List.set_cons_succ, e4]) ⟨hB, hz, x0, q0, n0, s1, s2, s3, s4, h0, h1, h2, h3, h4, h5, h6, h7, h8, h9, h10, h11, h12, h13, h14, h15, h16, h17, h18, h19, h20, h21, h22, h23, (fun _ => rfl)⟩
        · intro L v wx hd hn ⟨hB, hz, x0, q0, n0, s1, s2, s3, s4, h0, h1, h2, h3, h4, h5, h6, h7, h8, h9, h10, h11, h12, h13, h14, h15, h16, h17, h18, h19, h20, h21, h22, h23, h24⟩ K hK
          have e24 := h24 (hd ⟨24, .data⟩ (by simp) rfl)
          have e23 := h23 (hd ⟨23, .data⟩ (by simp) rfl)
          obtain ⟨gz, hk⟩ := x0
          have zz := hk.frozen (j - m + i)
          have cc := hk.cell (i := j - m + i) (by omega)
          go_wp2_with fail
          exact hK _ undef _ (by simp only [Act.put, List.setIfInBounds_toArray, List.set_cons_zero, List.set_cons_succ, e24, e23]) ⟨hB.setCell (by simp <;> omega) _, (by simpa using hz), ⟨_, hk.set (v := (A (j - m + i) + (p - A j * inv % p) * b i) % p) HE.out⟩, (fun h => absurd h (by simp [setL])), (fun _ => by cases hL : L 25 with | false => exact ((q0 hL).set (v := (A (j - m + i) + (p - A j * inv % p) * b i) % p) HE.out).congr (fun k _ => stpr_next p inv m b j A i k) | true => exact ((n0 hL).set (v := (A (j - m + i) + (p - A j * inv % p) * b i) % p) HE.out).congr (fun k _ => upd_again (stpr_next p inv m b j A i) k)), (s1).setOther (by simp <;> omega), (s2).setOther (by simp <;> omega), (s3).setOther (by simp <;> omega), (s4).setOther (by simp <;> omega), h0, h1, h2, h3, h4, h5, h6, h7, h8, h9, h10, h11, h12, h13, h14, h15, h16, h17, h18, h19, h20, h21, h22, h23, h24⟩
      · intro L v wx hL ⟨hB, hz, x0, q0, n0, s1, s2, s3, s4, h0, h1, h2, h3, h4, h5, h6, h7, h8, h9, h10, h11, h12, h13, h14, h15, h16, h17, h18, h19, h20, h21, h22, h23, h24⟩
        have r0 := n0 (hL 25 (by decide))
        have e0 := h0 (hL 0 (by decide))
        have e1 := h1 (hL 1 (by decide))
        have e2 := h2 (hL 2 (by decide))
        have e3 := h3 (hL 3 (by decide))
        have e4 := h4 (hL 4 (by decide))
        have e5 := h5 (hL 5 (by decide))
        have e6 := h6 (hL 6 (by decide))
        have e7 := h7 (hL 7 (by decide))
        have e8 := h8 (hL 8 (by decide))
        have e9 := h9 (hL 9 (by decide))
        have e10 := h10 (hL 10 (by decide))
        have e11 := h11 (hL 11 (by decide))
        have e12 := h12 (hL 12 (by decide))
        have e13 := h13 (hL 13 (by decide))
        have e14 := h14 (hL 14 (by decide))
        have e15 := h15 (hL 15 (by decide))
        have e16 := h16 (hL 16 (by decide))
        have e17 := h17 (hL 17 (by decide))
        have e18 := h18 (hL 18 (by decide))
        have e19 := h19 (hL 19 (by decide))
        have e20 := h20 (hL 20 (by decide))
        have e21 := h21 (hL 21 (by decide))
        have e22 := h22 (hL 22 (by decide))
        have e23 := h23 (hL 23 (by decide))
        have e24 := h24 (hL 24 (by decide))
        clear hL x0 q0 n0 h0 h1 h2 h3 h4 h5 h6 h7 h8 h9 h10 h11 h12 h13 h14 h15 h16 h17 h18 h19 h20 h21 h22 h23 h24
        simp only [Exit.then, e0, e1, e2, e3, e4, e5, e6, e7, e8, e9, e10, e11, e12, e13, e14, e15, e16, e17, e18, e19, e20, e21, e22, e23, e24]
        clear e0 e1 e2 e3 e4 e5 e6 e7 e8 e9 e10 e11 e12 e13 e14 e15 e16 e17 e18 e19 e20 e21 e22 e23 e24
        go_wp2_with fail
        go_roundw
        case rel => exact ⟨i + 1, by omega, by go_num, hB, r0, s1, s2, s3, s4⟩
        case measure => simp [intOf] <;> omega
    · have e : i = m + 1 := by omega
      subst e
      have b0f := b0.congr (fun k _ => stpr_full p inv m b A h1 k)
      go_wp2_with fail
      go_step3
      simp only [Exit.then]
      apply_assumption
      go_wp2_with fail
      go_step3
      refine ⟨⟨j, _, _, _, _, _, _, _, _, _, _, _, _, _, _, _, _, _, _, _, _, _, _, _, _, _, _, _, _, _, _, _, _, _, _, _, _, _, _, _, _, _, _, _, _, _, _, _, _, _, _, _, _, _, _, _, _, _, _, _, _, _, _, _, _, _, _, _, rfl, hb, b0f.congr (fun k _ => HN.out k), b1, b2, b3, b4, h1, by omega, Or.inl ⟨rfl, rfl⟩⟩, ?_⟩
      simp [ldM, intOf] <;> omega
end Go.Proofs.Ytbjpkmbhbpcbgaa
