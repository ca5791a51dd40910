/-
  Walks: rests, units, inverses.
-/
import Derived.Test.YtbjpkmbhbpcbgaaW27
namespace Go.Proofs.Ytbjpkmbhbpcbgaa
open Go.RowKit
set_option linter.unusedVariables false
set_option linter.unusedSimpArgs false
attribute [local irreducible] deg invN dS qS stp stpr quoP resP oneP bzD bzU bzW
set_option maxRecDepth 100000 in
set_option maxHeartbeats 400000 in
theorem l01Mod_any (p : Nat) (f m : Nat → Nat) (w : World) (hpr : p = 2 ∨ p = 3 ∨ p = 5 ∨ p = 7) (lf : ∀ k, k < 64 → f k < p) (lm : ∀ k, k < 64 → m k < p) (h0 : 0 ≤ deg m) :
    Calls Try.prog 115 #[.int .i64 (p : Int), .agg (bcells 64 f), .agg (bcells 64 m)] w fun e w' => e = .returned (.agg (bcells 64 (resP p f m))) ∧ Below w.heap.size w w' := by
  go_enter Try.func115, Try.ntmps115
  go_upto_region 1 with (fail)
  rw [← zero64]
  obtain ⟨W1, hwo⟩ : ∃ v : World, v = (((w.alloc (.cells (bcells 64 (f)) 23)).alloc (.cells (bcells 64 (m)) 23)).alloc (.cells (bcells 64 fun _ => 0) 23)) := ⟨_, rfl⟩
  have B0 : Blk W1 (w.heap.size) 64 23 (f) := by subst hwo; have := (((Blk.new w 64 23 (f)).alloc (.cells (bcells 64 (m)) 23)).alloc (.cells (bcells 64 fun _ => 0) 23)); simpa using this
  have B1 : Blk W1 (w.heap.size + 1) 64 23 (m) := by subst hwo; have := ((Blk.new (w.alloc (.cells (bcells 64 (f)) 23)) 64 23 (m)).alloc (.cells (bcells 64 fun _ => 0) 23)); simpa using this
  have B2 : Blk W1 (w.heap.size + 1 + 1) 64 23 (fun _ => 0) := by subst hwo; have := (Blk.new ((w.alloc (.cells (bcells 64 (f)) 23)).alloc (.cells (bcells 64 (m)) 23)) 64 23 (fun _ => 0)); simpa using this
  have hb : Below w.heap.size w W1 := by subst hwo; exact ((((Below.refl _ _).alloc (Nat.le_refl _) _).alloc (by simp) _).alloc (by simp; omega) _)
  rw [← hwo]
  clear hwo
  have lt_B0 := B0.lt
  have lt_B1 := B1.lt
  have lt_B2 := B2.lt
  go_upto_region 2 with (first | rw [← zero64] | (refine wpList_load_any rfl 23 (.tmp 4) rfl _ rfl 64 23 _ (B0) _ Try.underlying23 rfl Try.size23 ?_) | (refine wpList_load_any rfl 23 (.tmp 5) rfl _ rfl 64 23 _ (B1) _ Try.underlying23 rfl Try.size23 ?_) | (go_at_call 122; refine (l01Divide_any p f m _ hpr lf lm h0).mono ?_; rintro e W2 ⟨rfl, hW2⟩; replace B0 := B0.below hW2 B0.lt; replace B1 := B1.below hW2 B1.lt; replace B2 := B2.below hW2 B2.lt; replace hb := (hb).trans (hW2.mono (hb).size)) | (refine wpList_store_blk rfl 23 (.tmp 7) (.tmp 14) rfl _ 64 (quoP p f m) rfl rfl 23 _ (((Blk.new W2 64 23 (fun _ => 0)).alloc (.cells (bcells 64 fun _ => 0) 23))) Try.size23 ?_; try simp only [Act.put]) | (refine wpList_store_blk rfl 23 (.tmp 8) (.tmp 15) rfl _ 64 (resP p f m) rfl rfl 23 _ (((show Blk ((W2.alloc (.cells (bcells 64 fun _ => 0) 23)).alloc (.cells (bcells 64 fun _ => 0) 23)) (W2.heap.size + 1) 64 23 (fun _ => 0) by have := Blk.new (W2.alloc (.cells (bcells 64 fun _ => 0) 23)) 64 23 (fun _ => 0); simpa using this).rowOther (by omega))) Try.size23 ?_; try simp only [Act.put]))
  have lt_B0 := B0.lt
  have lt_B1 := B1.lt
  have lt_B2 := B2.lt
  have lhb := hb.size
  have qB0 : Blk ((((W2.alloc (.cells (bcells 64 fun _ => 0) 23)).alloc (.cells (bcells 64 fun _ => 0) 23)).setRow (W2.heap.size) (bcells 64 (quoP p f m))).setRow (W2.heap.size + 1) (bcells 64 (resP p f m))) (w.heap.size) 64 23 (f) := ((((B0.alloc (.cells (bcells 64 fun _ => 0) 23)).alloc (.cells (bcells 64 fun _ => 0) 23)).rowOther (by omega)).rowOther (by omega))
  have qB1 : Blk ((((W2.alloc (.cells (bcells 64 fun _ => 0) 23)).alloc (.cells (bcells 64 fun _ => 0) 23)).setRow (W2.heap.size) (bcells 64 (quoP p f m))).setRow (W2.heap.size + 1) (bcells 64 (resP p f m))) (w.heap.size + 1) 64 23 (m) := ((((B1.alloc (.cells (bcells 64 fun _ => 0) 23)).alloc (.cells (bcells 64 fun _ => 0) 23)).rowOther (by omega)).rowOther (by omega))
  have qB2 : Blk ((((W2.alloc (.cells (bcells 64 fun _ => 0) 23)).alloc (.cells (bcells 64 fun _ => 0) 23)).setRow (W2.heap.size) (bcells 64 (quoP p f m))).setRow (W2.heap.size + 1) (bcells 64 (resP p f m))) (w.heap.size + 1 + 1) 64 23 (fun _ => 0) := ((((B2.alloc (.cells (bcells 64 fun _ => 0) 23)).alloc (.cells (bcells 64 fun _ => 0) 23)).rowOther (by omega)).rowOther (by omega))
  have qB3 : Blk ((((W2.alloc (.cells (bcells 64 fun _ => 0) 23)).alloc (.cells (bcells 64 fun _ => 0) 23)).setRow (W2.heap.size) (bcells 64 (quoP p f m))).setRow (W2.heap.size + 1) (bcells 64 (resP p f m))) (W2.heap.size) 64 23 (quoP p f m) := ((((Blk.new W2 64 23 (fun _ => 0)).alloc (.cells (bcells 64 fun _ => 0) 23)).row (quoP p f m)).rowOther (by omega))
  have qB4 : Blk ((((W2.alloc (.cells (bcells 64 fun _ => 0) 23)).alloc (.cells (bcells 64 fun _ => 0) 23)).setRow (W2.heap.size) (bcells 64 (quoP p f m))).setRow (W2.heap.size + 1) (bcells 64 (resP p f m))) (W2.heap.size + 1) 64 23 (resP p f m) := (((show Blk ((W2.alloc (.cells (bcells 64 fun _ => 0) 23)).alloc (.cells (bcells 64 fun _ => 0) 23)) (W2.heap.size + 1) 64 23 (fun _ => 0) by have := Blk.new (W2.alloc (.cells (bcells 64 fun _ => 0) 23)) 64 23 (fun _ => 0); simpa using this).rowOther (by omega)).row (resP p f m))
  have qhb : Below w.heap.size w ((((W2.alloc (.cells (bcells 64 fun _ => 0) 23)).alloc (.cells (bcells 64 fun _ => 0) 23)).setRow (W2.heap.size) (bcells 64 (quoP p f m))).setRow (W2.heap.size + 1) (bcells 64 (resP p f m))) := (below_row (below_row ((hb.alloc (by have := hb.size; simp; omega) (.cells (bcells 64 fun _ => 0) 23)).alloc (by have := hb.size; simp; omega) (.cells (bcells 64 fun _ => 0) 23)) (by omega) _) (by omega) _)
  obtain ⟨W3, hwo⟩ : ∃ v : World, v = ((((W2.alloc (.cells (bcells 64 fun _ => 0) 23)).alloc (.cells (bcells 64 fun _ => 0) 23)).setRow (W2.heap.size) (bcells 64 (quoP p f m))).setRow (W2.heap.size + 1) (bcells 64 (resP p f m))) := ⟨_, rfl⟩
  rw [← hwo] at qB0 qB1 qB2 qB3 qB4 qhb ⊢
  clear hwo
  clear B0 B1 B2 hb
  have B0 := qB0
  have B1 := qB1
  have B2 := qB2
  have B3 := qB3
  have B4 := qB4
  have hb := qhb
  clear qB0 qB1 qB2 qB3 qB4 qhb
  obtain ⟨N1, hNN⟩ : ∃ n : Nat, n = W2.heap.size := ⟨_, rfl⟩
  rw [← hNN] at lt_B0 lt_B1 lt_B2 lhb B3 B4 ⊢
  clear hNN
  have zN1_0 := lt_B0
  have zN1_1 := lt_B1
  have zN1_2 := lt_B2
  have zN1 := lhb
  clear lt_B0 lt_B1 lt_B2 lhb
  try simp only [Act.put, List.setIfInBounds_toArray, List.set_cons_zero, List.set_cons_succ]
  have lt_B0 := B0.lt
  have lt_B1 := B1.lt
  have lt_B2 := B2.lt
  have lt_B3 := B3.lt
  have lt_B4 := B4.lt
  go_wp2_with (first | rw [← zero64] | (refine wpList_load_any rfl 23 (.tmp 8) rfl _ rfl 64 23 _ (B4) _ Try.underlying23 rfl Try.size23 ?_) | (refine wpList_store_blk rfl 23 (.tmp 6) (.tmp 16) rfl _ 64 (resP p f m) rfl rfl 23 _ (B2) Try.size23 ?_; try simp only [Act.put]))
  have qB0 : Blk (W3.setRow (w.heap.size + 1 + 1) (bcells 64 (resP p f m))) (w.heap.size) 64 23 (f) := (B0.rowOther (by omega))
  have qB1 : Blk (W3.setRow (w.heap.size + 1 + 1) (bcells 64 (resP p f m))) (w.heap.size + 1) 64 23 (m) := (B1.rowOther (by omega))
  have qB2 : Blk (W3.setRow (w.heap.size + 1 + 1) (bcells 64 (resP p f m))) (w.heap.size + 1 + 1) 64 23 (resP p f m) := (B2.row (resP p f m))
  have qB3 : Blk (W3.setRow (w.heap.size + 1 + 1) (bcells 64 (resP p f m))) (N1) 64 23 (quoP p f m) := (B3.rowOther (by omega))
  have qB4 : Blk (W3.setRow (w.heap.size + 1 + 1) (bcells 64 (resP p f m))) (N1 + 1) 64 23 (resP p f m) := (B4.rowOther (by omega))
  have qhb : Below w.heap.size w (W3.setRow (w.heap.size + 1 + 1) (bcells 64 (resP p f m))) := (below_row hb (by omega) _)
  obtain ⟨W4, hwo⟩ : ∃ v : World, v = (W3.setRow (w.heap.size + 1 + 1) (bcells 64 (resP p f m))) := ⟨_, rfl⟩
  rw [← hwo] at qB0 qB1 qB2 qB3 qB4 qhb ⊢
  clear hwo
  clear B0 B1 B2 B3 B4 hb
  have B0 := qB0
  have B1 := qB1
  have B2 := qB2
  have B3 := qB3
  have B4 := qB4
  have hb := qhb
  clear qB0 qB1 qB2 qB3 qB4 qhb
  try simp only [Act.put, List.setIfInBounds_toArray, List.set_cons_zero, List.set_cons_succ]
  refine bodyPost_ret (results_blk rfl _ _ _ 64 23 5 _ rfl B2 Try.underlying23 Try.size23) rfl ⟨rfl, hb⟩
/-- both answers -/
def invV (p : Int) (f m : Nat → Nat) : (Nat → Nat) × Int := if modV p m [f] = 0 then (if eqN 64 (bzD p.toNat f m) oneP = true then (bzU p.toNat f m, 0) else (fun _ => 0, 4)) else (fun _ => 0, modV p m [f])
theorem invV_code {p c : Int} {f m : Nat → Nat} (h : modV p m [f] = c) (h2 : c ≠ 0) : invV p f m = (fun _ => 0, c) := by unfold invV; rw [h, if_neg h2]
theorem invV_no {n : Nat} {f m : Nat → Nat} (h : modV (n : Int) m [f] = 0) (h2 : eqN 64 (bzD n f m) oneP = false) : invV (n : Int) f m = (fun _ => 0, 4) := by
  unfold invV; rw [if_pos h, Int.toNat_natCast, if_neg (by rw [h2]; simp)]
theorem invV_ok {n : Nat} {f m : Nat → Nat} (h : modV (n : Int) m [f] = 0) (h2 : eqN 64 (bzD n f m) oneP = true) : invV (n : Int) f m = (bzU n f m, 0) := by
  unfold invV; rw [if_pos h, Int.toNat_natCast, if_pos h2]
theorem modV_cases {p : Int} {m : Nat → Nat} {fs : List (Nat → Nat)} : (∃ c, modV p m fs = c ∧ c ≠ 0 ∧ (c = 1 ∨ c = 2)) ∨ (modV p m fs = 0 ∧ codeL p [m] = 0 ∧ codeL p fs = 0 ∧ monUp 5 m = true) := by
  rcases codeL_two p [m] with h1 | h1
  · rcases codeL_two p fs with h2 | h2
    · cases h : monUp 5 m with
      | false => exact .inl ⟨2, modV_3 h1 h2 h, by decide, .inr rfl⟩
      | true => exact .inr ⟨modV_0 h1 h2 h, h1, h2, rfl⟩
    · exact .inl ⟨1, modV_2 h2, by decide, .inl rfl⟩
  · exact .inl ⟨1, modV_1 h1, by decide, .inl rfl⟩
end Go.Proofs.Ytbjpkmbhbpcbgaa
