/-
  What the rows of this claim rest on: arrays of bytes, walks of the functions, plain mathematics.
-/
import Derived.Test.YtbjpkmbhbpcbgaaZa3
import Derived.OpenShut
import Derived.ProofKit
import Derived.Test.YtbjpkmbhbpcbgaaRows
import Derived.JoinedOf
section
namespace Go.Proofs.Ytbjpkmbhbpcbgaa
open Go Go.RowKit
set_option linter.unusedVariables false
set_option linter.unusedSimpArgs false
/-- the code of a prime and a number in a range -/
def rgC (p n lo hi : Int) : Int := if okP p = true then (if lo ≤ n ∧ n ≤ hi then 0 else 2) else 1
theorem rgC_cases {p n lo hi : Int} : (∃ c, rgC p n lo hi = c ∧ c ≠ 0 ∧ (c = 1 ∨ c = 2)) ∨ (rgC p n lo hi = 0 ∧ okP p = true ∧ lo ≤ n ∧ n ≤ hi) := by
  unfold rgC
  by_cases h : okP p = true
  · by_cases h2 : lo ≤ n ∧ n ≤ hi
    · right; rw [if_pos h, if_pos h2]; exact ⟨rfl, h, h2⟩
    · left; rw [if_pos h, if_neg h2]; exact ⟨2, rfl, by omega, .inr rfl⟩
  · left; rw [if_neg h]; exact ⟨1, rfl, by omega, .inl rfl⟩
/-- both answers -/
def opV (lo hi : Int) (O : Nat → Nat → Option (Nat → Nat)) (p i : Int) : (Nat → Nat) × Int :=
  if rgC p i lo hi = 0 then (match O p.toNat i.toNat with | some f => (f, 0) | none => (fun _ => 0, 3)) else (fun _ => 0, rgC p i lo hi)
theorem opV_c {lo hi p i c : Int} {O : Nat → Nat → Option (Nat → Nat)} (h : rgC p i lo hi = c) (h0 : c ≠ 0) : opV lo hi O p i = (fun _ => 0, c) := by unfold opV; rw [h, if_neg h0]
theorem opV_yes {lo hi : Int} {n i : Nat} {O : Nat → Nat → Option (Nat → Nat)} {f : Nat → Nat} (h : rgC (n : Int) (i : Int) lo hi = 0) (h2 : O n i = some f) : opV lo hi O (n : Int) (i : Int) = (f, 0) := by
  unfold opV; rw [if_pos h, Int.toNat_natCast, Int.toNat_natCast, h2]
theorem opV_no {lo hi : Int} {n i : Nat} {O : Nat → Nat → Option (Nat → Nat)} (h : rgC (n : Int) (i : Int) lo hi = 0) (h2 : O n i = none) : opV lo hi O (n : Int) (i : Int) = (fun _ => 0, 3) := by
  unfold opV; rw [if_pos h, Int.toNat_natCast, Int.toNat_natCast, h2]
set_option maxRecDepth 100000 in
set_option maxHeartbeats 1600000 in
theorem l04Range_any (p n lo hi : Int) (w : World) : Calls Try.prog 126 #[.int .i64 p, .int .i64 n, .int .i64 lo, .int .i64 hi] w fun e w' => e = .returned (.int .i64 (rgC p n lo hi)) ∧ w = w' := by
  go_enter Try.func126, Try.ntmps126
  cases hp : okP p with
  | false =>
    go_wp2_with (first | (go_at_call 147; refine (l01Prime_any p _).mono ?_; rintro e wS ⟨rfl, rfl⟩; rw [hp]))
    go_ret
    exact ⟨by unfold rgC; rw [hp]; rfl, rfl⟩
  | true =>
    by_cases hr : lo ≤ n ∧ n ≤ hi
    · have HV := Lib.hid (show rgC p n lo hi = 0 by unfold rgC; rw [if_pos hp, if_pos hr])
      go_wp2_with (first | (go_at_call 147; refine (l01Prime_any p _).mono ?_; rintro e wS ⟨rfl, rfl⟩; rw [hp]) | (go_at_call 74; refine (l01In_yes n lo hi hr _).mono ?_; rintro e wS ⟨rfl, rfl⟩))
      go_ret
      exact ⟨by rw [HV.out]; rfl, rfl⟩
    · have HV := Lib.hid (show rgC p n lo hi = 2 by unfold rgC; rw [if_pos hp, if_neg hr])
      go_wp2_with (first | (go_at_call 147; refine (l01Prime_any p _).mono ?_; rintro e wS ⟨rfl, rfl⟩; rw [hp]) | (go_at_call 74; refine (l01In_no n lo hi hr _).mono ?_; rintro e wS ⟨rfl, rfl⟩))
      go_ret
      exact ⟨by rw [HV.out]; rfl, rfl⟩
set_option maxRecDepth 100000 in
set_option maxHeartbeats 1600000 in
theorem checkNumber_any (p n lo hi : Int) (w : World) : Calls Try.prog 128 #[.int .i64 p, .int .i64 n, .int .i64 lo, .int .i64 hi] w fun e w' => e = .returned (.int .i64 (rgC p n lo hi)) ∧ w = w' := by
  go_enter Try.func128, Try.ntmps128
  cases hp : okP p with
  | false =>
    go_wp2_with (first | (go_at_call 149; refine (isPrime_any p _).mono ?_; rintro e wS ⟨rfl, rfl⟩; rw [hp]))
    go_ret
    exact ⟨by unfold rgC; rw [hp]; rfl, rfl⟩
  | true =>
    by_cases hr : lo ≤ n ∧ n ≤ hi
    · have HV := Lib.hid (show rgC p n lo hi = 0 by unfold rgC; rw [if_pos hp, if_pos hr])
      have h1 : ¬ n < lo := by omega
      have h2 : ¬ n > hi := by omega
      have h3 : ¬ hi < n := by omega
      go_wp2_with (first | (go_at_call 149; refine (isPrime_any p _).mono ?_; rintro e wS ⟨rfl, rfl⟩; rw [hp]))
      go_ret
      exact ⟨by rw [HV.out]; rfl, rfl⟩
    · have HV := Lib.hid (show rgC p n lo hi = 2 by unfold rgC; rw [if_pos hp, if_neg hr])
      by_cases h1 : n < lo
      · go_wp2_with (first | (go_at_call 149; refine (isPrime_any p _).mono ?_; rintro e wS ⟨rfl, rfl⟩; rw [hp]))
        go_ret
        exact ⟨by rw [HV.out]; rfl, rfl⟩
      · have h2 : n > hi := by omega
        have h3 : hi < n := by omega
        go_wp2_with (first | (go_at_call 149; refine (isPrime_any p _).mono ?_; rintro e wS ⟨rfl, rfl⟩; rw [hp]))
        go_ret
        exact ⟨by rw [HV.out]; rfl, rfl⟩
def brO (p i : Nat) : Option (Nat → Nat) := if (bkV p i 0).2 = true then some (bkV p i 0).1 else none
def ffO (p i : Nat) : Option (Nat → Nat) := fcR p i false i
def sfO (p i : Nat) : Option (Nat → Nat) := fcR p i true i
theorem brO_some {p i : Nat} {f : Nat → Nat} (h : brO p i = some f) : (bkV p i 0).2 = true ∧ (bkV p i 0).1 = f := by
  unfold brO at h
  by_cases h2 : (bkV p i 0).2 = true
  · rw [if_pos h2] at h; injection h with h; exact ⟨h2, h⟩
  · rw [if_neg h2] at h; cases h
theorem brO_none {p i : Nat} (h : brO p i = none) : (bkV p i 0).2 = false := by
  unfold brO at h
  by_cases h2 : (bkV p i 0).2 = true
  · rw [if_pos h2] at h; cases h
  · simpa using h2
attribute [local irreducible] deg strP rsV bkV fcR bkS prd addK TP oneP rgC opV brO ffO sfO
set_option maxRecDepth 100000 in
set_option maxHeartbeats 1600000 in
theorem BracketOfC_ok (n i : Nat) (b1 b2 : Nat) (w : World) (n2 : 2 ≤ n) (n7 : n ≤ 7) (hi6 : i ≤ 6) (F : Nat → Nat) (hO : brO n i = some F) (B0 : One w b1 2 (.int .i64 (n : Int))) (B1 : One w b2 2 (.int .i64 (i : Int))) :
    Calls Try.prog 130 #[.pointer (some ⟨b1, 0, none⟩), .pointer (some ⟨b2, 0, none⟩)] w fun e w' => e = .returned (.agg (bcells 64 F)) ∧ Below w.heap.size w w' := by
  have h9 := brO_some hO
  have HC := Lib.hid (show ∀ W, Calls Try.prog 131 #[.int .i64 (n : Int), .int .i64 (i : Int), .int .i64 0] W fun e w' => e = .returned (.agg (bcells 64 F)) ∧ Below W.heap.size W w' from fun W => by
    have h := apart_yes n i 0 W n2 n7 (smI_6 n2 n7 hi6) (smI_6 n2 n7 (by omega)) h9.1
    rw [h9.2] at h; exact h)
  clear hO h9
  have zx_0 := B0.lt
  have zx_1 := B1.lt
  go_enter Try.func130, Try.ntmps130
  go_upto_region 1 with (fail)
  rw [← zero64]
  obtain ⟨W1, hwo⟩ : ∃ v : World, v = (w.alloc (.cells (bcells 64 fun _ => 0) 23)) := ⟨_, rfl⟩
  have B2 : Blk W1 (w.heap.size) 64 23 (fun _ => 0) := by subst hwo; have := (Blk.new w 64 23 (fun _ => 0)); simpa using this
  replace B0 : One W1 (b1) 2 (.int .i64 (n : Int)) := by subst hwo; exact (B0.alloc (.cells (bcells 64 fun _ => 0) 23))
  replace B1 : One W1 (b2) 2 (.int .i64 (i : Int)) := by subst hwo; exact (B1.alloc (.cells (bcells 64 fun _ => 0) 23))
  have hb : Below w.heap.size w W1 := by subst hwo; exact ((Below.refl _ _).alloc (Nat.le_refl _) _)
  rw [← hwo]
  clear hwo
  have lt_B0 := B0.lt
  have lt_B1 := B1.lt
  have lt_B2 := B2.lt
  go_wp2_with (first | rw [← zero64] | (refine wpList_load_one rfl 2 (.tmp 0) rfl _ rfl 2 ((.int .i64 (n : Int))) (B0) _ Try.underlying2 rfl ?_) | (refine wpList_load_one rfl 2 (.tmp 1) rfl _ rfl 2 ((.int .i64 (i : Int))) (B1) _ Try.underlying2 rfl ?_) | (go_at_call 131; refine (HC.out _).mono ?_; rintro e W2 ⟨rfl, hW2⟩; replace B0 := B0.below hW2 B0.lt; replace B1 := B1.below hW2 B1.lt; replace B2 := B2.below hW2 B2.lt; replace hb := (hb).trans (hW2.mono (hb).size)) | (refine wpList_store_blk rfl 23 (.tmp 2) (.tmp 5) rfl _ 64 (F) rfl rfl 23 _ (B2) Try.size23 ?_; try simp only [Act.put]))
  have qB0 : One (W2.setRow (w.heap.size) (bcells 64 (F))) (b1) 2 (.int .i64 (n : Int)) := (B0.rowOther (by omega))
  have qB1 : One (W2.setRow (w.heap.size) (bcells 64 (F))) (b2) 2 (.int .i64 (i : Int)) := (B1.rowOther (by omega))
  have qB2 : Blk (W2.setRow (w.heap.size) (bcells 64 (F))) (w.heap.size) 64 23 (F) := (B2.row (F))
  have qhb : Below w.heap.size w (W2.setRow (w.heap.size) (bcells 64 (F))) := (below_row hb (by omega) _)
  obtain ⟨W3, hwo⟩ : ∃ v : World, v = (W2.setRow (w.heap.size) (bcells 64 (F))) := ⟨_, rfl⟩
  rw [← hwo] at qB0 qB1 qB2 qhb ⊢
  clear hwo
  clear B0 B1 B2 hb
  have B0 := qB0
  have B1 := qB1
  have B2 := qB2
  have hb := qhb
  clear qB0 qB1 qB2 qhb
  try simp only [Act.put, List.setIfInBounds_toArray, List.set_cons_zero, List.set_cons_succ]
  refine bodyPost_ret (results_blk rfl _ _ _ 64 23 5 _ rfl B2 Try.underlying23 Try.size23) rfl ⟨rfl, hb⟩
set_option maxRecDepth 100000 in
set_option maxHeartbeats 1600000 in
theorem BracketOfC_no (n i : Nat) (b1 b2 : Nat) (w : World) (n2 : 2 ≤ n) (n7 : n ≤ 7) (hi6 : i ≤ 6) (hO : brO n i = none) (B0 : One w b1 2 (.int .i64 (n : Int))) (B1 : One w b2 2 (.int .i64 (i : Int))) :
    Calls Try.prog 130 #[.pointer (some ⟨b1, 0, none⟩), .pointer (some ⟨b2, 0, none⟩)] w fun e w' => e = .panicked [{ v := .iface 138 (.int .i64 3), recovered := false }] ∧ Below w.heap.size w w' := by
  have HC := Lib.hid (show ∀ W, Calls Try.prog 131 #[.int .i64 (n : Int), .int .i64 (i : Int), .int .i64 0] W fun e w' => e = .panicked [{ v := .iface 138 (.int .i64 3), recovered := false }] ∧ Below W.heap.size W w' from fun W => apart_not n i 0 W n2 n7 (smI_6 n2 n7 hi6) (smI_6 n2 n7 (by omega)) (brO_none hO))
  clear hO
  have zx_0 := B0.lt
  have zx_1 := B1.lt
  go_enter Try.func130, Try.ntmps130
  go_upto_region 1 with (fail)
  rw [← zero64]
  obtain ⟨W1, hwo⟩ : ∃ v : World, v = (w.alloc (.cells (bcells 64 fun _ => 0) 23)) := ⟨_, rfl⟩
  have B2 : Blk W1 (w.heap.size) 64 23 (fun _ => 0) := by subst hwo; have := (Blk.new w 64 23 (fun _ => 0)); simpa using this
  replace B0 : One W1 (b1) 2 (.int .i64 (n : Int)) := by subst hwo; exact (B0.alloc (.cells (bcells 64 fun _ => 0) 23))
  replace B1 : One W1 (b2) 2 (.int .i64 (i : Int)) := by subst hwo; exact (B1.alloc (.cells (bcells 64 fun _ => 0) 23))
  have hb : Below w.heap.size w W1 := by subst hwo; exact ((Below.refl _ _).alloc (Nat.le_refl _) _)
  rw [← hwo]
  clear hwo
  go_wp2_with (first | rw [← zero64] | (refine wpList_load_one rfl 2 (.tmp 0) rfl _ rfl 2 ((.int .i64 (n : Int))) (B0) _ Try.underlying2 rfl ?_) | (refine wpList_load_one rfl 2 (.tmp 1) rfl _ rfl 2 ((.int .i64 (i : Int))) (B1) _ Try.underlying2 rfl ?_) | (go_at_call 131; refine (HC.out _).mono ?_; rintro e W2 ⟨rfl, hW2⟩; replace B0 := B0.below hW2 B0.lt; replace B1 := B1.below hW2 B1.lt; replace B2 := B2.below hW2 B2.lt; replace hb := (hb).trans (hW2.mono (hb).size)))
  exact ⟨rfl, rfl, hb⟩
set_option maxRecDepth 100000 in
set_option maxHeartbeats 1600000 in
theorem spec_BracketOf_any (p i : Int) (w : World) :
    Calls Try.prog 58 #[.int .i64 p, .int .i64 i] w fun e w' => e = .returned (.tuple #[.agg (bcells 64 (opV 1 6 brO p i).1), .int .i64 (opV 1 6 brO p i).2]) ∧ Below w.heap.size w w' := by
  go_enter Try.func58, Try.ntmps58
  go_upto_region 1 with (fail)
  rw [← zero64]
  obtain ⟨W1, hwo⟩ : ∃ v : World, v = (w.alloc (.cells (bcells 64 fun _ => 0) 23)) := ⟨_, rfl⟩
  have B0 : Blk W1 (w.heap.size) 64 23 (fun _ => 0) := by subst hwo; have := (Blk.new w 64 23 (fun _ => 0)); simpa using this
  have hb : Below w.heap.size w W1 := by subst hwo; exact ((Below.refl _ _).alloc (Nat.le_refl _) _)
  rw [← hwo]
  clear hwo
  rcases rgC_cases (p := p) (n := i) (lo := 1) (hi := 6) with ⟨c, hc, hc0, hc12⟩ | ⟨hc, hp, hr1, hr2⟩
  · have HV := Lib.hid (opV_c (O := brO) hc hc0)
    have hb1 : ((c : Int) != 0) = true := by simp [hc0]
    go_upto_region 2 with (first | (go_at_call 126; refine (l04Range_any _ _ 1 6 _).mono ?_; rintro e wS ⟨rfl, rfl⟩; rw [hc]))
    clear hc
    go_upto_region 3 with (fail)
    have lt_B0 := B0.lt
    go_wp2_with (first | rw [← zero64] | (refine wpList_store_blk rfl 23 (.tmp 4) (.tmp 14) rfl _ 64 (fun _ => 0) rfl rfl 23 _ (B0) Try.size23 ?_; try simp only [Act.put]; go_wp2_with fail))
    have qB0 : Blk (W1.setRow (w.heap.size) (bcells 64 (fun _ => 0))) (w.heap.size) 64 23 (fun _ => 0) := (B0.row (fun _ => 0))
    have qhb : Below w.heap.size w (W1.setRow (w.heap.size) (bcells 64 (fun _ => 0))) := (below_row hb (by omega) _)
    obtain ⟨W2, hwo⟩ : ∃ v : World, v = (W1.setRow (w.heap.size) (bcells 64 (fun _ => 0))) := ⟨_, rfl⟩
    rw [← hwo] at qB0 qhb ⊢
    clear hwo
    clear B0 hb
    have B0 := qB0
    have hb := qhb
    clear qB0 qhb
    try simp only [Act.put, List.setIfInBounds_toArray, List.set_cons_zero, List.set_cons_succ]
    refine bodyPost_ret (results_bt rfl _ _ _ 64 23 5 _ rfl B0 Try.underlying23 Try.size23) rfl ⟨by first | (rw [HV.out]; rfl) | rw [HV.out], hb⟩
  · obtain ⟨n, hn, n2, n7⟩ := okP_nat hp
    subst hn
    obtain ⟨i, rfl⟩ : ∃ j : Nat, i = (j : Int) := ⟨i.toNat, by omega⟩
    cases hO : brO n i with
    | none =>
      have HV := Lib.hid (opV_no hc hO)
      have h9 := brO_none hO
      have HS := Lib.hid (show ∀ W, Calls Try.prog 127 #[.int .i64 (n : Int), .int .i64 (i : Int), .int .i64 0] W fun e w' => e = .returned (.tuple #[.agg (bcells 64 (bkV n i 0).1), .bool false]) ∧ Below W.heap.size W w' from fun W => by
        have h := l04Bracket_any n i 0 W n2 n7 (by omega) (by omega)
        rw [h9] at h; exact h)
      clear h9
      go_upto_region 2 with (first | (go_at_call 126; refine (l04Range_any _ _ 1 6 _).mono ?_; rintro e wS ⟨rfl, rfl⟩; rw [hc]))
      clear hc hO hp
      go_upto_region 4 with (fail)
      have lt_B0 := B0.lt
      go_upto_region 5 with (first | rw [← zero64] | (go_at_call 127; refine (HS.out _).mono ?_; rintro e W2 ⟨rfl, hW2⟩; replace B0 := B0.below hW2 B0.lt; replace hb := (hb).trans (hW2.mono (hb).size)) | (refine wpList_store_blk rfl 23 (.tmp 7) (.tmp 20) rfl _ 64 ((bkV n i 0).1) rfl rfl 23 _ ((Blk.new W2 64 23 (fun _ => 0))) Try.size23 ?_; try simp only [Act.put]; go_upto_region 5 with (fail)))
      have lt_B0 := B0.lt
      have lhb := hb.size
      have qB0 : Blk ((W2.alloc (.cells (bcells 64 fun _ => 0) 23)).setRow (W2.heap.size) (bcells 64 ((bkV n i 0).1))) (w.heap.size) 64 23 (fun _ => 0) := ((B0.alloc (.cells (bcells 64 fun _ => 0) 23)).rowOther (by omega))
      have qB1 : Blk ((W2.alloc (.cells (bcells 64 fun _ => 0) 23)).setRow (W2.heap.size) (bcells 64 ((bkV n i 0).1))) (W2.heap.size) 64 23 ((bkV n i 0).1) := ((Blk.new W2 64 23 (fun _ => 0)).row ((bkV n i 0).1))
      have qhb : Below w.heap.size w ((W2.alloc (.cells (bcells 64 fun _ => 0) 23)).setRow (W2.heap.size) (bcells 64 ((bkV n i 0).1))) := (below_row (hb.alloc (by have := hb.size; simp; omega) (.cells (bcells 64 fun _ => 0) 23)) (by omega) _)
      obtain ⟨W3, hwo⟩ : ∃ v : World, v = ((W2.alloc (.cells (bcells 64 fun _ => 0) 23)).setRow (W2.heap.size) (bcells 64 ((bkV n i 0).1))) := ⟨_, rfl⟩
      rw [← hwo] at qB0 qB1 qhb ⊢
      clear hwo
      clear B0 hb
      have B0 := qB0
      have B1 := qB1
      have hb := qhb
      clear qB0 qB1 qhb
      obtain ⟨N1, hNN⟩ : ∃ n : Nat, n = W2.heap.size := ⟨_, rfl⟩
      rw [← hNN] at lt_B0 lhb B1 ⊢
      clear hNN
      have zN1_0 := lt_B0
      have zN1 := lhb
      clear lt_B0 lhb
      try simp only [Act.put, List.setIfInBounds_toArray, List.set_cons_zero, List.set_cons_succ]
      go_upto_region 6 with (fail)
      have lt_B0 := B0.lt
      have lt_B1 := B1.lt
      go_wp2_with (first | rw [← zero64] | (refine wpList_store_blk rfl 23 (.tmp 4) (.tmp 24) rfl _ 64 (fun _ => 0) rfl rfl 23 _ (B0) Try.size23 ?_; try simp only [Act.put]; go_wp2_with fail))
      have qB0 : Blk (W3.setRow (w.heap.size) (bcells 64 (fun _ => 0))) (w.heap.size) 64 23 (fun _ => 0) := (B0.row (fun _ => 0))
      have qB1 : Blk (W3.setRow (w.heap.size) (bcells 64 (fun _ => 0))) (N1) 64 23 ((bkV n i 0).1) := (B1.rowOther (by omega))
      have qhb : Below w.heap.size w (W3.setRow (w.heap.size) (bcells 64 (fun _ => 0))) := (below_row hb (by omega) _)
      obtain ⟨W4, hwo⟩ : ∃ v : World, v = (W3.setRow (w.heap.size) (bcells 64 (fun _ => 0))) := ⟨_, rfl⟩
      rw [← hwo] at qB0 qB1 qhb ⊢
      clear hwo
      clear B0 B1 hb
      have B0 := qB0
      have B1 := qB1
      have hb := qhb
      clear qB0 qB1 qhb
      try simp only [Act.put, List.setIfInBounds_toArray, List.set_cons_zero, List.set_cons_succ]
      refine bodyPost_ret (results_bt rfl _ _ _ 64 23 5 _ rfl B0 Try.underlying23 Try.size23) rfl ⟨by first | (rw [HV.out]; rfl) | rw [HV.out], hb⟩
    | some F =>
      have HV := Lib.hid (opV_yes hc hO)
      have h9 := brO_some hO
      have HS := Lib.hid (show ∀ W, Calls Try.prog 127 #[.int .i64 (n : Int), .int .i64 (i : Int), .int .i64 0] W fun e w' => e = .returned (.tuple #[.agg (bcells 64 F), .bool true]) ∧ Below W.heap.size W w' from fun W => by
        have h := l04Bracket_any n i 0 W n2 n7 (by omega) (by omega)
        rw [h9.1, h9.2] at h; exact h)
      clear h9
      go_upto_region 2 with (first | (go_at_call 126; refine (l04Range_any _ _ 1 6 _).mono ?_; rintro e wS ⟨rfl, rfl⟩; rw [hc]))
      clear hc hO hp
      go_upto_region 4 with (fail)
      have lt_B0 := B0.lt
      go_upto_region 5 with (first | rw [← zero64] | (go_at_call 127; refine (HS.out _).mono ?_; rintro e W2 ⟨rfl, hW2⟩; replace B0 := B0.below hW2 B0.lt; replace hb := (hb).trans (hW2.mono (hb).size)) | (refine wpList_store_blk rfl 23 (.tmp 7) (.tmp 20) rfl _ 64 (F) rfl rfl 23 _ ((Blk.new W2 64 23 (fun _ => 0))) Try.size23 ?_; try simp only [Act.put]; go_upto_region 5 with (fail)))
      have lt_B0 := B0.lt
      have lhb := hb.size
      have qB0 : Blk ((W2.alloc (.cells (bcells 64 fun _ => 0) 23)).setRow (W2.heap.size) (bcells 64 (F))) (w.heap.size) 64 23 (fun _ => 0) := ((B0.alloc (.cells (bcells 64 fun _ => 0) 23)).rowOther (by omega))
      have qB1 : Blk ((W2.alloc (.cells (bcells 64 fun _ => 0) 23)).setRow (W2.heap.size) (bcells 64 (F))) (W2.heap.size) 64 23 (F) := ((Blk.new W2 64 23 (fun _ => 0)).row (F))
      have qhb : Below w.heap.size w ((W2.alloc (.cells (bcells 64 fun _ => 0) 23)).setRow (W2.heap.size) (bcells 64 (F))) := (below_row (hb.alloc (by have := hb.size; simp; omega) (.cells (bcells 64 fun _ => 0) 23)) (by omega) _)
      obtain ⟨W3, hwo⟩ : ∃ v : World, v = ((W2.alloc (.cells (bcells 64 fun _ => 0) 23)).setRow (W2.heap.size) (bcells 64 (F))) := ⟨_, rfl⟩
      rw [← hwo] at qB0 qB1 qhb ⊢
      clear hwo
      clear B0 hb
      have B0 := qB0
      have B1 := qB1
      have hb := qhb
      clear qB0 qB1 qhb
      obtain ⟨N1, hNN⟩ : ∃ n : Nat, n = W2.heap.size := ⟨_, rfl⟩
      rw [← hNN] at lt_B0 lhb B1 ⊢
      clear hNN
      have zN1_0 := lt_B0
      have zN1 := lhb
      clear lt_B0 lhb
      try simp only [Act.put, List.setIfInBounds_toArray, List.set_cons_zero, List.set_cons_succ]
      go_upto_region 7 with (fail)
      have lt_B0 := B0.lt
      have lt_B1 := B1.lt
      go_wp2_with (first | rw [← zero64] | (refine wpList_load_any rfl 23 (.tmp 7) rfl _ rfl 64 23 _ (B1) _ Try.underlying23 rfl Try.size23 ?_) | (refine wpList_store_blk rfl 23 (.tmp 4) (.tmp 25) rfl _ 64 (F) rfl rfl 23 _ (B0) Try.size23 ?_; try simp only [Act.put]; go_wp2_with fail))
      have qB0 : Blk (W3.setRow (w.heap.size) (bcells 64 (F))) (w.heap.size) 64 23 (F) := (B0.row (F))
      have qB1 : Blk (W3.setRow (w.heap.size) (bcells 64 (F))) (N1) 64 23 (F) := (B1.rowOther (by omega))
      have qhb : Below w.heap.size w (W3.setRow (w.heap.size) (bcells 64 (F))) := (below_row hb (by omega) _)
      obtain ⟨W4, hwo⟩ : ∃ v : World, v = (W3.setRow (w.heap.size) (bcells 64 (F))) := ⟨_, rfl⟩
      rw [← hwo] at qB0 qB1 qhb ⊢
      clear hwo
      clear B0 B1 hb
      have B0 := qB0
      have B1 := qB1
      have hb := qhb
      clear qB0 qB1 qhb
      try simp only [Act.put, List.setIfInBounds_toArray, List.set_cons_zero, List.set_cons_succ]
      refine bodyPost_ret (results_bt rfl _ _ _ 64 23 5 _ rfl B0 Try.underlying23 Try.size23) rfl ⟨by first | (rw [HV.out]; rfl) | rw [HV.out], hb⟩
set_option maxRecDepth 100000 in
set_option maxHeartbeats 1600000 in
theorem impl_BracketOf_any (p i : Int) (w : World) :
    Calls Try.prog 59 #[.int .i64 p, .int .i64 i] w fun e w' => e = .returned (.tuple #[.agg (bcells 64 (opV 1 6 brO p i).1), .int .i64 (opV 1 6 brO p i).2]) ∧ Below w.heap.size w w' := by
  go_enter Try.func59, Try.ntmps59
  go_upto_region 1 with (fail)
  rw [← zero64]
  obtain ⟨W1, hwo⟩ : ∃ v : World, v = (((w.alloc (.cells #[(.int .i64 p)] 2)).alloc (.cells #[(.int .i64 i)] 2)).alloc (.cells (bcells 64 fun _ => 0) 23)) := ⟨_, rfl⟩
  have B0 : One W1 (w.heap.size) 2 (.int .i64 p) := by subst hwo; have := (((One.new w 2 (.int .i64 p)).alloc (.cells #[(.int .i64 i)] 2)).alloc (.cells (bcells 64 fun _ => 0) 23)); simpa using this
  have B1 : One W1 (w.heap.size + 1) 2 (.int .i64 i) := by subst hwo; have := ((One.new (w.alloc (.cells #[(.int .i64 p)] 2)) 2 (.int .i64 i)).alloc (.cells (bcells 64 fun _ => 0) 23)); simpa using this
  have B2 : Blk W1 (w.heap.size + 1 + 1) 64 23 (fun _ => 0) := by subst hwo; have := (Blk.new ((w.alloc (.cells #[(.int .i64 p)] 2)).alloc (.cells #[(.int .i64 i)] 2)) 64 23 (fun _ => 0)); simpa using this
  have hb : Below w.heap.size w W1 := by subst hwo; exact ((((Below.refl _ _).alloc (Nat.le_refl _) _).alloc (by simp) _).alloc (by simp; omega) _)
  rw [← hwo]
  clear hwo
  rcases rgC_cases (p := p) (n := i) (lo := 1) (hi := 6) with ⟨c, hc, hc0, hc12⟩ | ⟨hc, hp, hr1, hr2⟩
  · have HV := Lib.hid (opV_c (O := brO) hc hc0)
    have hb1 : ((c : Int) != 0) = true := by simp [hc0]
    go_upto_region 2 with (first | (refine wpList_load_one rfl 2 (.tmp 2) rfl _ rfl 2 ((.int .i64 p)) (B0) _ Try.underlying2 rfl ?_) | (refine wpList_load_one rfl 2 (.tmp 3) rfl _ rfl 2 ((.int .i64 i)) (B1) _ Try.underlying2 rfl ?_) | (go_at_call 128; refine (checkNumber_any _ _ 1 6 _).mono ?_; rintro e wS ⟨rfl, rfl⟩; rw [hc]))
    clear hc
    go_upto_region 3 with (fail)
    have lt_B0 := B0.lt
    have lt_B1 := B1.lt
    have lt_B2 := B2.lt
    go_wp2_with (first | rw [← zero64] | (refine wpList_store_blk rfl 23 (.tmp 4) (.tmp 12) rfl _ 64 (fun _ => 0) rfl rfl 23 _ (B2) Try.size23 ?_; try simp only [Act.put]; go_wp2_with fail))
    have qB0 : One (W1.setRow (w.heap.size + 1 + 1) (bcells 64 (fun _ => 0))) (w.heap.size) 2 (.int .i64 p) := (B0.rowOther (by omega))
    have qB1 : One (W1.setRow (w.heap.size + 1 + 1) (bcells 64 (fun _ => 0))) (w.heap.size + 1) 2 (.int .i64 i) := (B1.rowOther (by omega))
    have qB2 : Blk (W1.setRow (w.heap.size + 1 + 1) (bcells 64 (fun _ => 0))) (w.heap.size + 1 + 1) 64 23 (fun _ => 0) := (B2.row (fun _ => 0))
    have qhb : Below w.heap.size w (W1.setRow (w.heap.size + 1 + 1) (bcells 64 (fun _ => 0))) := (below_row hb (by omega) _)
    obtain ⟨W2, hwo⟩ : ∃ v : World, v = (W1.setRow (w.heap.size + 1 + 1) (bcells 64 (fun _ => 0))) := ⟨_, rfl⟩
    rw [← hwo] at qB0 qB1 qB2 qhb ⊢
    clear hwo
    clear B0 B1 B2 hb
    have B0 := qB0
    have B1 := qB1
    have B2 := qB2
    have hb := qhb
    clear qB0 qB1 qB2 qhb
    try simp only [Act.put, List.setIfInBounds_toArray, List.set_cons_zero, List.set_cons_succ]
    refine bodyPost_ret (results_bt rfl _ _ _ 64 23 5 _ rfl B2 Try.underlying23 Try.size23) rfl ⟨by first | (rw [HV.out]; rfl) | rw [HV.out], hb⟩
  · obtain ⟨n, hn, n2, n7⟩ := okP_nat hp
    subst hn
    obtain ⟨i, rfl⟩ : ∃ j : Nat, i = (j : Int) := ⟨i.toNat, by omega⟩
    cases hO : brO n i with
    | none =>
      have HV := Lib.hid (opV_no hc hO)
      have HDO := Lib.hid (fun (b1 b2 : Nat) (W : World) (h1 : One W b1 2 (.int .i64 (n : Int))) (h2 : One W b2 2 (.int .i64 (i : Int))) => door_BracketOfN (.pointer (some ⟨b1, 0, none⟩)) (.pointer (some ⟨b2, 0, none⟩)) (fun _ => 0) W (fun W' hW => BracketOfC_no n i b1 b2 W' n2 n7 (by omega) hO (h1.below hW h1.lt) (h2.below hW h2.lt)))
      have hmf : ∀ (fn : Fn) (first cap : Array Value) (w : World), (Instr.makeFunc fn first cap).run Try.prog w = .ok (.func fn first cap) w := fun _ _ _ _ => rfl
      go_upto_region 2 with (first | (refine wpList_load_one rfl 2 (.tmp 2) rfl _ rfl 2 ((.int .i64 (n : Int))) (B0) _ Try.underlying2 rfl ?_) | (refine wpList_load_one rfl 2 (.tmp 3) rfl _ rfl 2 ((.int .i64 (i : Int))) (B1) _ Try.underlying2 rfl ?_) | (go_at_call 128; refine (checkNumber_any _ _ 1 6 _).mono ?_; rintro e wS ⟨rfl, rfl⟩; rw [hc]))
      clear hc hO hp
      go_upto_region 4 with (fail)
      have lt_B0 := B0.lt
      have lt_B1 := B1.lt
      have lt_B2 := B2.lt
      go_wp2_with (first | rw [← zero64] | (go_at_call 129; refine (HDO.out _ _ _ B0 B1).mono ?_; rintro e W2 ⟨rfl, hW2⟩; replace B0 := B0.below hW2 B0.lt; replace B1 := B1.below hW2 B1.lt; replace B2 := B2.below hW2 B2.lt; replace hb := (hb).trans (hW2.mono (hb).size)) | (refine wpList_store_blk rfl 23 (.tmp 4) (.tmp 16) rfl _ 64 (fun _ => 0) rfl rfl 23 _ (B2) Try.size23 ?_; try simp only [Act.put]; go_wp2_with fail))
      have qB0 : One (W2.setRow (w.heap.size + 1 + 1) (bcells 64 (fun _ => 0))) (w.heap.size) 2 (.int .i64 (n : Int)) := (B0.rowOther (by omega))
      have qB1 : One (W2.setRow (w.heap.size + 1 + 1) (bcells 64 (fun _ => 0))) (w.heap.size + 1) 2 (.int .i64 (i : Int)) := (B1.rowOther (by omega))
      have qB2 : Blk (W2.setRow (w.heap.size + 1 + 1) (bcells 64 (fun _ => 0))) (w.heap.size + 1 + 1) 64 23 (fun _ => 0) := (B2.row (fun _ => 0))
      have qhb : Below w.heap.size w (W2.setRow (w.heap.size + 1 + 1) (bcells 64 (fun _ => 0))) := (below_row hb (by omega) _)
      obtain ⟨W3, hwo⟩ : ∃ v : World, v = (W2.setRow (w.heap.size + 1 + 1) (bcells 64 (fun _ => 0))) := ⟨_, rfl⟩
      rw [← hwo] at qB0 qB1 qB2 qhb ⊢
      clear hwo
      clear B0 B1 B2 hb
      have B0 := qB0
      have B1 := qB1
      have B2 := qB2
      have hb := qhb
      clear qB0 qB1 qB2 qhb
      try simp only [Act.put, List.setIfInBounds_toArray, List.set_cons_zero, List.set_cons_succ]
      refine bodyPost_ret (results_bt rfl _ _ _ 64 23 5 _ rfl B2 Try.underlying23 Try.size23) rfl ⟨by first | (rw [HV.out]; rfl) | rw [HV.out], hb⟩
    | some F =>
      have HV := Lib.hid (opV_yes hc hO)
      have HDO := Lib.hid (fun (b1 b2 : Nat) (W : World) (h1 : One W b1 2 (.int .i64 (n : Int))) (h2 : One W b2 2 (.int .i64 (i : Int))) => door_BracketOf (.pointer (some ⟨b1, 0, none⟩)) (.pointer (some ⟨b2, 0, none⟩)) (F) W (fun W' hW => BracketOfC_ok n i b1 b2 W' n2 n7 (by omega) F hO (h1.below hW h1.lt) (h2.below hW h2.lt)))
      have hmf : ∀ (fn : Fn) (first cap : Array Value) (w : World), (Instr.makeFunc fn first cap).run Try.prog w = .ok (.func fn first cap) w := fun _ _ _ _ => rfl
      go_upto_region 2 with (first | (refine wpList_load_one rfl 2 (.tmp 2) rfl _ rfl 2 ((.int .i64 (n : Int))) (B0) _ Try.underlying2 rfl ?_) | (refine wpList_load_one rfl 2 (.tmp 3) rfl _ rfl 2 ((.int .i64 (i : Int))) (B1) _ Try.underlying2 rfl ?_) | (go_at_call 128; refine (checkNumber_any _ _ 1 6 _).mono ?_; rintro e wS ⟨rfl, rfl⟩; rw [hc]))
      clear hc hO hp
      go_upto_region 4 with (fail)
      have lt_B0 := B0.lt
      have lt_B1 := B1.lt
      have lt_B2 := B2.lt
      go_wp2_with (first | rw [← zero64] | (go_at_call 129; refine (HDO.out _ _ _ B0 B1).mono ?_; rintro e W2 ⟨rfl, hW2⟩; replace B0 := B0.below hW2 B0.lt; replace B1 := B1.below hW2 B1.lt; replace B2 := B2.below hW2 B2.lt; replace hb := (hb).trans (hW2.mono (hb).size)) | (refine wpList_store_blk rfl 23 (.tmp 4) (.tmp 16) rfl _ 64 (F) rfl rfl 23 _ (B2) Try.size23 ?_; try simp only [Act.put]; go_wp2_with fail))
      have qB0 : One (W2.setRow (w.heap.size + 1 + 1) (bcells 64 (F))) (w.heap.size) 2 (.int .i64 (n : Int)) := (B0.rowOther (by omega))
      have qB1 : One (W2.setRow (w.heap.size + 1 + 1) (bcells 64 (F))) (w.heap.size + 1) 2 (.int .i64 (i : Int)) := (B1.rowOther (by omega))
      have qB2 : Blk (W2.setRow (w.heap.size + 1 + 1) (bcells 64 (F))) (w.heap.size + 1 + 1) 64 23 (F) := (B2.row (F))
      have qhb : Below w.heap.size w (W2.setRow (w.heap.size + 1 + 1) (bcells 64 (F))) := (below_row hb (by omega) _)
      obtain ⟨W3, hwo⟩ : ∃ v : World, v = (W2.setRow (w.heap.size + 1 + 1) (bcells 64 (F))) := ⟨_, rfl⟩
      rw [← hwo] at qB0 qB1 qB2 qhb ⊢
      clear hwo
      clear B0 B1 B2 hb
      have B0 := qB0
      have B1 := qB1
      have B2 := qB2
      have hb := qhb
      clear qB0 qB1 qB2 qhb
      try simp only [Act.put, List.setIfInBounds_toArray, List.set_cons_zero, List.set_cons_succ]
      refine bodyPost_ret (results_bt rfl _ _ _ 64 23 5 _ rfl B2 Try.underlying23 Try.size23) rfl ⟨by first | (rw [HV.out]; rfl) | rw [HV.out], hb⟩
set_option maxRecDepth 100000 in
set_option maxHeartbeats 1600000 in
theorem FirstFactorialC_ok (n i : Nat) (b1 b2 : Nat) (w : World) (n2 : 2 ≤ n) (n7 : n ≤ 7) (hi6 : i ≤ 6) (F : Nat → Nat) (hO : ffO n i = some F) (B0 : One w b1 2 (.int .i64 (n : Int))) (B1 : One w b2 2 (.int .i64 (i : Int))) :
    Calls Try.prog 133 #[.pointer (some ⟨b1, 0, none⟩), .pointer (some ⟨b2, 0, none⟩)] w fun e w' => e = .returned (.agg (bcells 64 F)) ∧ Below w.heap.size w w' := by
  have HC := Lib.hid (show ∀ W, Calls Try.prog 134 #[.int .i64 (n : Int), .int .i64 (i : Int)] W fun e w' => e = .returned (.agg (bcells 64 F)) ∧ Below W.heap.size W w' from fun W => firstFact_ok n i W n2 n7 (smI_6 n2 n7 hi6) F (by unfold ffO at hO; exact hO))
  clear hO
  have zx_0 := B0.lt
  have zx_1 := B1.lt
  go_enter Try.func133, Try.ntmps133
  go_upto_region 1 with (fail)
  rw [← zero64]
  obtain ⟨W1, hwo⟩ : ∃ v : World, v = (w.alloc (.cells (bcells 64 fun _ => 0) 23)) := ⟨_, rfl⟩
  have B2 : Blk W1 (w.heap.size) 64 23 (fun _ => 0) := by subst hwo; have := (Blk.new w 64 23 (fun _ => 0)); simpa using this
  replace B0 : One W1 (b1) 2 (.int .i64 (n : Int)) := by subst hwo; exact (B0.alloc (.cells (bcells 64 fun _ => 0) 23))
  replace B1 : One W1 (b2) 2 (.int .i64 (i : Int)) := by subst hwo; exact (B1.alloc (.cells (bcells 64 fun _ => 0) 23))
  have hb : Below w.heap.size w W1 := by subst hwo; exact ((Below.refl _ _).alloc (Nat.le_refl _) _)
  rw [← hwo]
  clear hwo
  have lt_B0 := B0.lt
  have lt_B1 := B1.lt
  have lt_B2 := B2.lt
  go_wp2_with (first | rw [← zero64] | (refine wpList_load_one rfl 2 (.tmp 0) rfl _ rfl 2 ((.int .i64 (n : Int))) (B0) _ Try.underlying2 rfl ?_) | (refine wpList_load_one rfl 2 (.tmp 1) rfl _ rfl 2 ((.int .i64 (i : Int))) (B1) _ Try.underlying2 rfl ?_) | (go_at_call 134; refine (HC.out _).mono ?_; rintro e W2 ⟨rfl, hW2⟩; replace B0 := B0.below hW2 B0.lt; replace B1 := B1.below hW2 B1.lt; replace B2 := B2.below hW2 B2.lt; replace hb := (hb).trans (hW2.mono (hb).size)) | (refine wpList_store_blk rfl 23 (.tmp 2) (.tmp 5) rfl _ 64 (F) rfl rfl 23 _ (B2) Try.size23 ?_; try simp only [Act.put]))
  have qB0 : One (W2.setRow (w.heap.size) (bcells 64 (F))) (b1) 2 (.int .i64 (n : Int)) := (B0.rowOther (by omega))
  have qB1 : One (W2.setRow (w.heap.size) (bcells 64 (F))) (b2) 2 (.int .i64 (i : Int)) := (B1.rowOther (by omega))
  have qB2 : Blk (W2.setRow (w.heap.size) (bcells 64 (F))) (w.heap.size) 64 23 (F) := (B2.row (F))
  have qhb : Below w.heap.size w (W2.setRow (w.heap.size) (bcells 64 (F))) := (below_row hb (by omega) _)
  obtain ⟨W3, hwo⟩ : ∃ v : World, v = (W2.setRow (w.heap.size) (bcells 64 (F))) := ⟨_, rfl⟩
  rw [← hwo] at qB0 qB1 qB2 qhb ⊢
  clear hwo
  clear B0 B1 B2 hb
  have B0 := qB0
  have B1 := qB1
  have B2 := qB2
  have hb := qhb
  clear qB0 qB1 qB2 qhb
  try simp only [Act.put, List.setIfInBounds_toArray, List.set_cons_zero, List.set_cons_succ]
  refine bodyPost_ret (results_blk rfl _ _ _ 64 23 5 _ rfl B2 Try.underlying23 Try.size23) rfl ⟨rfl, hb⟩
set_option maxRecDepth 100000 in
set_option maxHeartbeats 1600000 in
theorem FirstFactorialC_no (n i : Nat) (b1 b2 : Nat) (w : World) (n2 : 2 ≤ n) (n7 : n ≤ 7) (hi6 : i ≤ 6) (hO : ffO n i = none) (B0 : One w b1 2 (.int .i64 (n : Int))) (B1 : One w b2 2 (.int .i64 (i : Int))) :
    Calls Try.prog 133 #[.pointer (some ⟨b1, 0, none⟩), .pointer (some ⟨b2, 0, none⟩)] w fun e w' => e = .panicked [{ v := .iface 138 (.int .i64 3), recovered := false }] ∧ Below w.heap.size w w' := by
  have HC := Lib.hid (show ∀ W, Calls Try.prog 134 #[.int .i64 (n : Int), .int .i64 (i : Int)] W fun e w' => e = .panicked [{ v := .iface 138 (.int .i64 3), recovered := false }] ∧ Below W.heap.size W w' from fun W => firstFact_no n i W n2 n7 (smI_6 n2 n7 hi6) (by unfold ffO at hO; exact hO))
  clear hO
  have zx_0 := B0.lt
  have zx_1 := B1.lt
  go_enter Try.func133, Try.ntmps133
  go_upto_region 1 with (fail)
  rw [← zero64]
  obtain ⟨W1, hwo⟩ : ∃ v : World, v = (w.alloc (.cells (bcells 64 fun _ => 0) 23)) := ⟨_, rfl⟩
  have B2 : Blk W1 (w.heap.size) 64 23 (fun _ => 0) := by subst hwo; have := (Blk.new w 64 23 (fun _ => 0)); simpa using this
  replace B0 : One W1 (b1) 2 (.int .i64 (n : Int)) := by subst hwo; exact (B0.alloc (.cells (bcells 64 fun _ => 0) 23))
  replace B1 : One W1 (b2) 2 (.int .i64 (i : Int)) := by subst hwo; exact (B1.alloc (.cells (bcells 64 fun _ => 0) 23))
  have hb : Below w.heap.size w W1 := by subst hwo; exact ((Below.refl _ _).alloc (Nat.le_refl _) _)
  rw [← hwo]
  clear hwo
  go_wp2_with (first | rw [← zero64] | (refine wpList_load_one rfl 2 (.tmp 0) rfl _ rfl 2 ((.int .i64 (n : Int))) (B0) _ Try.underlying2 rfl ?_) | (refine wpList_load_one rfl 2 (.tmp 1) rfl _ rfl 2 ((.int .i64 (i : Int))) (B1) _ Try.underlying2 rfl ?_) | (go_at_call 134; refine (HC.out _).mono ?_; rintro e W2 ⟨rfl, hW2⟩; replace B0 := B0.below hW2 B0.lt; replace B1 := B1.below hW2 B1.lt; replace B2 := B2.below hW2 B2.lt; replace hb := (hb).trans (hW2.mono (hb).size)))
  exact ⟨rfl, rfl, hb⟩
set_option maxRecDepth 100000 in
set_option maxHeartbeats 1600000 in
theorem spec_FirstFactorial_any (p i : Int) (w : World) :
    Calls Try.prog 60 #[.int .i64 p, .int .i64 i] w fun e w' => e = .returned (.tuple #[.agg (bcells 64 (opV 0 6 ffO p i).1), .int .i64 (opV 0 6 ffO p i).2]) ∧ Below w.heap.size w w' := by
  go_enter Try.func60, Try.ntmps60
  go_upto_region 1 with (fail)
  rw [← zero64]
  obtain ⟨W1, hwo⟩ : ∃ v : World, v = (w.alloc (.cells (bcells 64 fun _ => 0) 23)) := ⟨_, rfl⟩
  have B0 : Blk W1 (w.heap.size) 64 23 (fun _ => 0) := by subst hwo; have := (Blk.new w 64 23 (fun _ => 0)); simpa using this
  have hb : Below w.heap.size w W1 := by subst hwo; exact ((Below.refl _ _).alloc (Nat.le_refl _) _)
  rw [← hwo]
  clear hwo
  rcases rgC_cases (p := p) (n := i) (lo := 0) (hi := 6) with ⟨c, hc, hc0, hc12⟩ | ⟨hc, hp, hr1, hr2⟩
  · have HV := Lib.hid (opV_c (O := ffO) hc hc0)
    have hb1 : ((c : Int) != 0) = true := by simp [hc0]
    go_upto_region 2 with (first | (go_at_call 126; refine (l04Range_any _ _ 0 6 _).mono ?_; rintro e wS ⟨rfl, rfl⟩; rw [hc]))
    clear hc
    go_upto_region 3 with (fail)
    have lt_B0 := B0.lt
    go_wp2_with (first | rw [← zero64] | (refine wpList_store_blk rfl 23 (.tmp 4) (.tmp 14) rfl _ 64 (fun _ => 0) rfl rfl 23 _ (B0) Try.size23 ?_; try simp only [Act.put]; go_wp2_with fail))
    have qB0 : Blk (W1.setRow (w.heap.size) (bcells 64 (fun _ => 0))) (w.heap.size) 64 23 (fun _ => 0) := (B0.row (fun _ => 0))
    have qhb : Below w.heap.size w (W1.setRow (w.heap.size) (bcells 64 (fun _ => 0))) := (below_row hb (by omega) _)
    obtain ⟨W2, hwo⟩ : ∃ v : World, v = (W1.setRow (w.heap.size) (bcells 64 (fun _ => 0))) := ⟨_, rfl⟩
    rw [← hwo] at qB0 qhb ⊢
    clear hwo
    clear B0 hb
    have B0 := qB0
    have hb := qhb
    clear qB0 qhb
    try simp only [Act.put, List.setIfInBounds_toArray, List.set_cons_zero, List.set_cons_succ]
    refine bodyPost_ret (results_bt rfl _ _ _ 64 23 5 _ rfl B0 Try.underlying23 Try.size23) rfl ⟨by first | (rw [HV.out]; rfl) | rw [HV.out], hb⟩
  · obtain ⟨n, hn, n2, n7⟩ := okP_nat hp
    subst hn
    obtain ⟨i, rfl⟩ : ∃ j : Nat, i = (j : Int) := ⟨i.toNat, by omega⟩
    cases hO : ffO n i with
    | none =>
      have HV := Lib.hid (opV_no hc hO)
      have HS := Lib.hid (show ∀ W, Calls Try.prog 132 #[.int .i64 (n : Int), .int .i64 (i : Int), .bool false] W fun e w' => e = .returned (.tuple #[.agg (bcells 64 fun _ => 0), .bool false]) ∧ Below W.heap.size W w' from fun W => l04FactF_no n i W n2 n7 (by omega) (by unfold ffO at hO; exact hO))
      go_upto_region 2 with (first | (go_at_call 126; refine (l04Range_any _ _ 0 6 _).mono ?_; rintro e wS ⟨rfl, rfl⟩; rw [hc]))
      clear hc hO hp
      go_upto_region 4 with (fail)
      have lt_B0 := B0.lt
      go_upto_region 5 with (first | rw [← zero64] | (go_at_call 132; refine (HS.out _).mono ?_; rintro e W2 ⟨rfl, hW2⟩; replace B0 := B0.below hW2 B0.lt; replace hb := (hb).trans (hW2.mono (hb).size)) | (refine wpList_store_blk rfl 23 (.tmp 7) (.tmp 20) rfl _ 64 (fun _ => 0) rfl rfl 23 _ ((Blk.new W2 64 23 (fun _ => 0))) Try.size23 ?_; try simp only [Act.put]; go_upto_region 5 with (fail)))
      have lt_B0 := B0.lt
      have lhb := hb.size
      have qB0 : Blk ((W2.alloc (.cells (bcells 64 fun _ => 0) 23)).setRow (W2.heap.size) (bcells 64 (fun _ => 0))) (w.heap.size) 64 23 (fun _ => 0) := ((B0.alloc (.cells (bcells 64 fun _ => 0) 23)).rowOther (by omega))
      have qB1 : Blk ((W2.alloc (.cells (bcells 64 fun _ => 0) 23)).setRow (W2.heap.size) (bcells 64 (fun _ => 0))) (W2.heap.size) 64 23 (fun _ => 0) := ((Blk.new W2 64 23 (fun _ => 0)).row (fun _ => 0))
      have qhb : Below w.heap.size w ((W2.alloc (.cells (bcells 64 fun _ => 0) 23)).setRow (W2.heap.size) (bcells 64 (fun _ => 0))) := (below_row (hb.alloc (by have := hb.size; simp; omega) (.cells (bcells 64 fun _ => 0) 23)) (by omega) _)
      obtain ⟨W3, hwo⟩ : ∃ v : World, v = ((W2.alloc (.cells (bcells 64 fun _ => 0) 23)).setRow (W2.heap.size) (bcells 64 (fun _ => 0))) := ⟨_, rfl⟩
      rw [← hwo] at qB0 qB1 qhb ⊢
      clear hwo
      clear B0 hb
      have B0 := qB0
      have B1 := qB1
      have hb := qhb
      clear qB0 qB1 qhb
      obtain ⟨N1, hNN⟩ : ∃ n : Nat, n = W2.heap.size := ⟨_, rfl⟩
      rw [← hNN] at lt_B0 lhb B1 ⊢
      clear hNN
      have zN1_0 := lt_B0
      have zN1 := lhb
      clear lt_B0 lhb
      try simp only [Act.put, List.setIfInBounds_toArray, List.set_cons_zero, List.set_cons_succ]
      go_upto_region 6 with (fail)
      have lt_B0 := B0.lt
      have lt_B1 := B1.lt
      go_wp2_with (first | rw [← zero64] | (refine wpList_store_blk rfl 23 (.tmp 4) (.tmp 24) rfl _ 64 (fun _ => 0) rfl rfl 23 _ (B0) Try.size23 ?_; try simp only [Act.put]; go_wp2_with fail))
      have qB0 : Blk (W3.setRow (w.heap.size) (bcells 64 (fun _ => 0))) (w.heap.size) 64 23 (fun _ => 0) := (B0.row (fun _ => 0))
      have qB1 : Blk (W3.setRow (w.heap.size) (bcells 64 (fun _ => 0))) (N1) 64 23 (fun _ => 0) := (B1.rowOther (by omega))
      have qhb : Below w.heap.size w (W3.setRow (w.heap.size) (bcells 64 (fun _ => 0))) := (below_row hb (by omega) _)
      obtain ⟨W4, hwo⟩ : ∃ v : World, v = (W3.setRow (w.heap.size) (bcells 64 (fun _ => 0))) := ⟨_, rfl⟩
      rw [← hwo] at qB0 qB1 qhb ⊢
      clear hwo
      clear B0 B1 hb
      have B0 := qB0
      have B1 := qB1
      have hb := qhb
      clear qB0 qB1 qhb
      try simp only [Act.put, List.setIfInBounds_toArray, List.set_cons_zero, List.set_cons_succ]
      refine bodyPost_ret (results_bt rfl _ _ _ 64 23 5 _ rfl B0 Try.underlying23 Try.size23) rfl ⟨by first | (rw [HV.out]; rfl) | rw [HV.out], hb⟩
    | some F =>
      have HV := Lib.hid (opV_yes hc hO)
      have HS := Lib.hid (show ∀ W, Calls Try.prog 132 #[.int .i64 (n : Int), .int .i64 (i : Int), .bool false] W fun e w' => e = .returned (.tuple #[.agg (bcells 64 F), .bool true]) ∧ Below W.heap.size W w' from fun W => l04FactF_ok n i W n2 n7 (by omega) F (by unfold ffO at hO; exact hO))
      go_upto_region 2 with (first | (go_at_call 126; refine (l04Range_any _ _ 0 6 _).mono ?_; rintro e wS ⟨rfl, rfl⟩; rw [hc]))
      clear hc hO hp
      go_upto_region 4 with (fail)
      have lt_B0 := B0.lt
      go_upto_region 5 with (first | rw [← zero64] | (go_at_call 132; refine (HS.out _).mono ?_; rintro e W2 ⟨rfl, hW2⟩; replace B0 := B0.below hW2 B0.lt; replace hb := (hb).trans (hW2.mono (hb).size)) | (refine wpList_store_blk rfl 23 (.tmp 7) (.tmp 20) rfl _ 64 (F) rfl rfl 23 _ ((Blk.new W2 64 23 (fun _ => 0))) Try.size23 ?_; try simp only [Act.put]; go_upto_region 5 with (fail)))
      have lt_B0 := B0.lt
      have lhb := hb.size
      have qB0 : Blk ((W2.alloc (.cells (bcells 64 fun _ => 0) 23)).setRow (W2.heap.size) (bcells 64 (F))) (w.heap.size) 64 23 (fun _ => 0) := ((B0.alloc (.cells (bcells 64 fun _ => 0) 23)).rowOther (by omega))
      have qB1 : Blk ((W2.alloc (.cells (bcells 64 fun _ => 0) 23)).setRow (W2.heap.size) (bcells 64 (F))) (W2.heap.size) 64 23 (F) := ((Blk.new W2 64 23 (fun _ => 0)).row (F))
      have qhb : Below w.heap.size w ((W2.alloc (.cells (bcells 64 fun _ => 0) 23)).setRow (W2.heap.size) (bcells 64 (F))) := (below_row (hb.alloc (by have := hb.size; simp; omega) (.cells (bcells 64 fun _ => 0) 23)) (by omega) _)
      obtain ⟨W3, hwo⟩ : ∃ v : World, v = ((W2.alloc (.cells (bcells 64 fun _ => 0) 23)).setRow (W2.heap.size) (bcells 64 (F))) := ⟨_, rfl⟩
      rw [← hwo] at qB0 qB1 qhb ⊢
      clear hwo
      clear B0 hb
      have B0 := qB0
      have B1 := qB1
      have hb := qhb
      clear qB0 qB1 qhb
      obtain ⟨N1, hNN⟩ : ∃ n : Nat, n = W2.heap.size := ⟨_, rfl⟩
      rw [← hNN] at lt_B0 lhb B1 ⊢
      clear hNN
      have zN1_0 := lt_B0
      have zN1 := lhb
      clear lt_B0 lhb
      try simp only [Act.put, List.setIfInBounds_toArray, List.set_cons_zero, List.set_cons_succ]
      go_upto_region 7 with (fail)
      have lt_B0 := B0.lt
      have lt_B1 := B1.lt
      go_wp2_with (first | rw [← zero64] | (refine wpList_load_any rfl 23 (.tmp 7) rfl _ rfl 64 23 _ (B1) _ Try.underlying23 rfl Try.size23 ?_) | (refine wpList_store_blk rfl 23 (.tmp 4) (.tmp 25) rfl _ 64 (F) rfl rfl 23 _ (B0) Try.size23 ?_; try simp only [Act.put]; go_wp2_with fail))
      have qB0 : Blk (W3.setRow (w.heap.size) (bcells 64 (F))) (w.heap.size) 64 23 (F) := (B0.row (F))
      have qB1 : Blk (W3.setRow (w.heap.size) (bcells 64 (F))) (N1) 64 23 (F) := (B1.rowOther (by omega))
      have qhb : Below w.heap.size w (W3.setRow (w.heap.size) (bcells 64 (F))) := (below_row hb (by omega) _)
      obtain ⟨W4, hwo⟩ : ∃ v : World, v = (W3.setRow (w.heap.size) (bcells 64 (F))) := ⟨_, rfl⟩
      rw [← hwo] at qB0 qB1 qhb ⊢
      clear hwo
      clear B0 B1 hb
      have B0 := qB0
      have B1 := qB1
      have hb := qhb
      clear qB0 qB1 qhb
      try simp only [Act.put, List.setIfInBounds_toArray, List.set_cons_zero, List.set_cons_succ]
      refine bodyPost_ret (results_bt rfl _ _ _ 64 23 5 _ rfl B0 Try.underlying23 Try.size23) rfl ⟨by first | (rw [HV.out]; rfl) | rw [HV.out], hb⟩
set_option maxRecDepth 100000 in
set_option maxHeartbeats 1600000 in
theorem impl_FirstFactorial_any (p i : Int) (w : World) :
    Calls Try.prog 61 #[.int .i64 p, .int .i64 i] w fun e w' => e = .returned (.tuple #[.agg (bcells 64 (opV 0 6 ffO p i).1), .int .i64 (opV 0 6 ffO p i).2]) ∧ Below w.heap.size w w' := by
  go_enter Try.func61, Try.ntmps61
  go_upto_region 1 with (fail)
  rw [← zero64]
  obtain ⟨W1, hwo⟩ : ∃ v : World, v = (((w.alloc (.cells #[(.int .i64 p)] 2)).alloc (.cells #[(.int .i64 i)] 2)).alloc (.cells (bcells 64 fun _ => 0) 23)) := ⟨_, rfl⟩
  have B0 : One W1 (w.heap.size) 2 (.int .i64 p) := by subst hwo; have := (((One.new w 2 (.int .i64 p)).alloc (.cells #[(.int .i64 i)] 2)).alloc (.cells (bcells 64 fun _ => 0) 23)); simpa using this
  have B1 : One W1 (w.heap.size + 1) 2 (.int .i64 i) := by subst hwo; have := ((One.new (w.alloc (.cells #[(.int .i64 p)] 2)) 2 (.int .i64 i)).alloc (.cells (bcells 64 fun _ => 0) 23)); simpa using this
  have B2 : Blk W1 (w.heap.size + 1 + 1) 64 23 (fun _ => 0) := by subst hwo; have := (Blk.new ((w.alloc (.cells #[(.int .i64 p)] 2)).alloc (.cells #[(.int .i64 i)] 2)) 64 23 (fun _ => 0)); simpa using this
  have hb : Below w.heap.size w W1 := by subst hwo; exact ((((Below.refl _ _).alloc (Nat.le_refl _) _).alloc (by simp) _).alloc (by simp; omega) _)
  rw [← hwo]
  clear hwo
  rcases rgC_cases (p := p) (n := i) (lo := 0) (hi := 6) with ⟨c, hc, hc0, hc12⟩ | ⟨hc, hp, hr1, hr2⟩
  · have HV := Lib.hid (opV_c (O := ffO) hc hc0)
    have hb1 : ((c : Int) != 0) = true := by simp [hc0]
    go_upto_region 2 with (first | (refine wpList_load_one rfl 2 (.tmp 2) rfl _ rfl 2 ((.int .i64 p)) (B0) _ Try.underlying2 rfl ?_) | (refine wpList_load_one rfl 2 (.tmp 3) rfl _ rfl 2 ((.int .i64 i)) (B1) _ Try.underlying2 rfl ?_) | (go_at_call 128; refine (checkNumber_any _ _ 0 6 _).mono ?_; rintro e wS ⟨rfl, rfl⟩; rw [hc]))
    clear hc
    go_upto_region 3 with (fail)
    have lt_B0 := B0.lt
    have lt_B1 := B1.lt
    have lt_B2 := B2.lt
    go_wp2_with (first | rw [← zero64] | (refine wpList_store_blk rfl 23 (.tmp 4) (.tmp 12) rfl _ 64 (fun _ => 0) rfl rfl 23 _ (B2) Try.size23 ?_; try simp only [Act.put]; go_wp2_with fail))
    have qB0 : One (W1.setRow (w.heap.size + 1 + 1) (bcells 64 (fun _ => 0))) (w.heap.size) 2 (.int .i64 p) := (B0.rowOther (by omega))
    have qB1 : One (W1.setRow (w.heap.size + 1 + 1) (bcells 64 (fun _ => 0))) (w.heap.size + 1) 2 (.int .i64 i) := (B1.rowOther (by omega))
    have qB2 : Blk (W1.setRow (w.heap.size + 1 + 1) (bcells 64 (fun _ => 0))) (w.heap.size + 1 + 1) 64 23 (fun _ => 0) := (B2.row (fun _ => 0))
    have qhb : Below w.heap.size w (W1.setRow (w.heap.size + 1 + 1) (bcells 64 (fun _ => 0))) := (below_row hb (by omega) _)
    obtain ⟨W2, hwo⟩ : ∃ v : World, v = (W1.setRow (w.heap.size + 1 + 1) (bcells 64 (fun _ => 0))) := ⟨_, rfl⟩
    rw [← hwo] at qB0 qB1 qB2 qhb ⊢
    clear hwo
    clear B0 B1 B2 hb
    have B0 := qB0
    have B1 := qB1
    have B2 := qB2
    have hb := qhb
    clear qB0 qB1 qB2 qhb
    try simp only [Act.put, List.setIfInBounds_toArray, List.set_cons_zero, List.set_cons_succ]
    refine bodyPost_ret (results_bt rfl _ _ _ 64 23 5 _ rfl B2 Try.underlying23 Try.size23) rfl ⟨by first | (rw [HV.out]; rfl) | rw [HV.out], hb⟩
  · obtain ⟨n, hn, n2, n7⟩ := okP_nat hp
    subst hn
    obtain ⟨i, rfl⟩ : ∃ j : Nat, i = (j : Int) := ⟨i.toNat, by omega⟩
    cases hO : ffO n i with
    | none =>
      have HV := Lib.hid (opV_no hc hO)
      have HDO := Lib.hid (fun (b1 b2 : Nat) (W : World) (h1 : One W b1 2 (.int .i64 (n : Int))) (h2 : One W b2 2 (.int .i64 (i : Int))) => door_FirstFactorialN (.pointer (some ⟨b1, 0, none⟩)) (.pointer (some ⟨b2, 0, none⟩)) (fun _ => 0) W (fun W' hW => FirstFactorialC_no n i b1 b2 W' n2 n7 (by omega) hO (h1.below hW h1.lt) (h2.below hW h2.lt)))
      have hmf : ∀ (fn : Fn) (first cap : Array Value) (w : World), (Instr.makeFunc fn first cap).run Try.prog w = .ok (.func fn first cap) w := fun _ _ _ _ => rfl
      go_upto_region 2 with (first | (refine wpList_load_one rfl 2 (.tmp 2) rfl _ rfl 2 ((.int .i64 (n : Int))) (B0) _ Try.underlying2 rfl ?_) | (refine wpList_load_one rfl 2 (.tmp 3) rfl _ rfl 2 ((.int .i64 (i : Int))) (B1) _ Try.underlying2 rfl ?_) | (go_at_call 128; refine (checkNumber_any _ _ 0 6 _).mono ?_; rintro e wS ⟨rfl, rfl⟩; rw [hc]))
      clear hc hO hp
      go_upto_region 4 with (fail)
      have lt_B0 := B0.lt
      have lt_B1 := B1.lt
      have lt_B2 := B2.lt
      go_wp2_with (first | rw [← zero64] | (go_at_call 129; refine (HDO.out _ _ _ B0 B1).mono ?_; rintro e W2 ⟨rfl, hW2⟩; replace B0 := B0.below hW2 B0.lt; replace B1 := B1.below hW2 B1.lt; replace B2 := B2.below hW2 B2.lt; replace hb := (hb).trans (hW2.mono (hb).size)) | (refine wpList_store_blk rfl 23 (.tmp 4) (.tmp 16) rfl _ 64 (fun _ => 0) rfl rfl 23 _ (B2) Try.size23 ?_; try simp only [Act.put]; go_wp2_with fail))
      have qB0 : One (W2.setRow (w.heap.size + 1 + 1) (bcells 64 (fun _ => 0))) (w.heap.size) 2 (.int .i64 (n : Int)) := (B0.rowOther (by omega))
      have qB1 : One (W2.setRow (w.heap.size + 1 + 1) (bcells 64 (fun _ => 0))) (w.heap.size + 1) 2 (.int .i64 (i : Int)) := (B1.rowOther (by omega))
      have qB2 : Blk (W2.setRow (w.heap.size + 1 + 1) (bcells 64 (fun _ => 0))) (w.heap.size + 1 + 1) 64 23 (fun _ => 0) := (B2.row (fun _ => 0))
      have qhb : Below w.heap.size w (W2.setRow (w.heap.size + 1 + 1) (bcells 64 (fun _ => 0))) := (below_row hb (by omega) _)
      obtain ⟨W3, hwo⟩ : ∃ v : World, v = (W2.setRow (w.heap.size + 1 + 1) (bcells 64 (fun _ => 0))) := ⟨_, rfl⟩
      rw [← hwo] at qB0 qB1 qB2 qhb ⊢
      clear hwo
      clear B0 B1 B2 hb
      have B0 := qB0
      have B1 := qB1
      have B2 := qB2
      have hb := qhb
      clear qB0 qB1 qB2 qhb
      try simp only [Act.put, List.setIfInBounds_toArray, List.set_cons_zero, List.set_cons_succ]
      refine bodyPost_ret (results_bt rfl _ _ _ 64 23 5 _ rfl B2 Try.underlying23 Try.size23) rfl ⟨by first | (rw [HV.out]; rfl) | rw [HV.out], hb⟩
    | some F =>
      have HV := Lib.hid (opV_yes hc hO)
      have HDO := Lib.hid (fun (b1 b2 : Nat) (W : World) (h1 : One W b1 2 (.int .i64 (n : Int))) (h2 : One W b2 2 (.int .i64 (i : Int))) => door_FirstFactorial (.pointer (some ⟨b1, 0, none⟩)) (.pointer (some ⟨b2, 0, none⟩)) (F) W (fun W' hW => FirstFactorialC_ok n i b1 b2 W' n2 n7 (by omega) F hO (h1.below hW h1.lt) (h2.below hW h2.lt)))
      have hmf : ∀ (fn : Fn) (first cap : Array Value) (w : World), (Instr.makeFunc fn first cap).run Try.prog w = .ok (.func fn first cap) w := fun _ _ _ _ => rfl
      go_upto_region 2 with (first | (refine wpList_load_one rfl 2 (.tmp 2) rfl _ rfl 2 ((.int .i64 (n : Int))) (B0) _ Try.underlying2 rfl ?_) | (refine wpList_load_one rfl 2 (.tmp 3) rfl _ rfl 2 ((.int .i64 (i : Int))) (B1) _ Try.underlying2 rfl ?_) | (go_at_call 128; refine (checkNumber_any _ _ 0 6 _).mono ?_; rintro e wS ⟨rfl, rfl⟩; rw [hc]))
      clear hc hO hp
      go_upto_region 4 with (fail)
      have lt_B0 := B0.lt
      have lt_B1 := B1.lt
      have lt_B2 := B2.lt
      go_wp2_with (first | rw [← zero64] | (go_at_call 129; refine (HDO.out _ _ _ B0 B1).mono ?_; rintro e W2 ⟨rfl, hW2⟩; replace B0 := B0.below hW2 B0.lt; replace B1 := B1.below hW2 B1.lt; replace B2 := B2.below hW2 B2.lt; replace hb := (hb).trans (hW2.mono (hb).size)) | (refine wpList_store_blk rfl 23 (.tmp 4) (.tmp 16) rfl _ 64 (F) rfl rfl 23 _ (B2) Try.size23 ?_; try simp only [Act.put]; go_wp2_with fail))
      have qB0 : One (W2.setRow (w.heap.size + 1 + 1) (bcells 64 (F))) (w.heap.size) 2 (.int .i64 (n : Int)) := (B0.rowOther (by omega))
      have qB1 : One (W2.setRow (w.heap.size + 1 + 1) (bcells 64 (F))) (w.heap.size + 1) 2 (.int .i64 (i : Int)) := (B1.rowOther (by omega))
      have qB2 : Blk (W2.setRow (w.heap.size + 1 + 1) (bcells 64 (F))) (w.heap.size + 1 + 1) 64 23 (F) := (B2.row (F))
      have qhb : Below w.heap.size w (W2.setRow (w.heap.size + 1 + 1) (bcells 64 (F))) := (below_row hb (by omega) _)
      obtain ⟨W3, hwo⟩ : ∃ v : World, v = (W2.setRow (w.heap.size + 1 + 1) (bcells 64 (F))) := ⟨_, rfl⟩
      rw [← hwo] at qB0 qB1 qB2 qhb ⊢
      clear hwo
      clear B0 B1 B2 hb
      have B0 := qB0
      have B1 := qB1
      have B2 := qB2
      have hb := qhb
      clear qB0 qB1 qB2 qhb
      try simp only [Act.put, List.setIfInBounds_toArray, List.set_cons_zero, List.set_cons_succ]
      refine bodyPost_ret (results_bt rfl _ _ _ 64 23 5 _ rfl B2 Try.underlying23 Try.size23) rfl ⟨by first | (rw [HV.out]; rfl) | rw [HV.out], hb⟩
set_option maxRecDepth 100000 in
set_option maxHeartbeats 1600000 in
theorem SecondFactorialC_ok (n i : Nat) (b1 b2 : Nat) (w : World) (n2 : 2 ≤ n) (n7 : n ≤ 7) (hi6 : i ≤ 6) (F : Nat → Nat) (hO : sfO n i = some F) (B0 : One w b1 2 (.int .i64 (n : Int))) (B1 : One w b2 2 (.int .i64 (i : Int))) :
    Calls Try.prog 135 #[.pointer (some ⟨b1, 0, none⟩), .pointer (some ⟨b2, 0, none⟩)] w fun e w' => e = .returned (.agg (bcells 64 F)) ∧ Below w.heap.size w w' := by
  have HC := Lib.hid (show ∀ W, Calls Try.prog 136 #[.int .i64 (n : Int), .int .i64 (i : Int)] W fun e w' => e = .returned (.agg (bcells 64 F)) ∧ Below W.heap.size W w' from fun W => secondFact_ok n i W n2 n7 (smI_6 n2 n7 hi6) F (by unfold sfO at hO; exact hO))
  clear hO
  have zx_0 := B0.lt
  have zx_1 := B1.lt
  go_enter Try.func135, Try.ntmps135
  go_upto_region 1 with (fail)
  rw [← zero64]
  obtain ⟨W1, hwo⟩ : ∃ v : World, v = (w.alloc (.cells (bcells 64 fun _ => 0) 23)) := ⟨_, rfl⟩
  have B2 : Blk W1 (w.heap.size) 64 23 (fun _ => 0) := by subst hwo; have := (Blk.new w 64 23 (fun _ => 0)); simpa using this
  replace B0 : One W1 (b1) 2 (.int .i64 (n : Int)) := by subst hwo; exact (B0.alloc (.cells (bcells 64 fun _ => 0) 23))
  replace B1 : One W1 (b2) 2 (.int .i64 (i : Int)) := by subst hwo; exact (B1.alloc (.cells (bcells 64 fun _ => 0) 23))
  have hb : Below w.heap.size w W1 := by subst hwo; exact ((Below.refl _ _).alloc (Nat.le_refl _) _)
  rw [← hwo]
  clear hwo
  have lt_B0 := B0.lt
  have lt_B1 := B1.lt
  have lt_B2 := B2.lt
  go_wp2_with (first | rw [← zero64] | (refine wpList_load_one rfl 2 (.tmp 0) rfl _ rfl 2 ((.int .i64 (n : Int))) (B0) _ Try.underlying2 rfl ?_) | (refine wpList_load_one rfl 2 (.tmp 1) rfl _ rfl 2 ((.int .i64 (i : Int))) (B1) _ Try.underlying2 rfl ?_) | (go_at_call 136; refine (HC.out _).mono ?_; rintro e W2 ⟨rfl, hW2⟩; replace B0 := B0.below hW2 B0.lt; replace B1 := B1.below hW2 B1.lt; replace B2 := B2.below hW2 B2.lt; replace hb := (hb).trans (hW2.mono (hb).size)) | (refine wpList_store_blk rfl 23 (.tmp 2) (.tmp 5) rfl _ 64 (F) rfl rfl 23 _ (B2) Try.size23 ?_; try simp only [Act.put]))
  have qB0 : One (W2.setRow (w.heap.size) (bcells 64 (F))) (b1) 2 (.int .i64 (n : Int)) := (B0.rowOther (by omega))
  have qB1 : One (W2.setRow (w.heap.size) (bcells 64 (F))) (b2) 2 (.int .i64 (i : Int)) := (B1.rowOther (by omega))
  have qB2 : Blk (W2.setRow (w.heap.size) (bcells 64 (F))) (w.heap.size) 64 23 (F) := (B2.row (F))
  have qhb : Below w.heap.size w (W2.setRow (w.heap.size) (bcells 64 (F))) := (below_row hb (by omega) _)
  obtain ⟨W3, hwo⟩ : ∃ v : World, v = (W2.setRow (w.heap.size) (bcells 64 (F))) := ⟨_, rfl⟩
  rw [← hwo] at qB0 qB1 qB2 qhb ⊢
  clear hwo
  clear B0 B1 B2 hb
  have B0 := qB0
  have B1 := qB1
  have B2 := qB2
  have hb := qhb
  clear qB0 qB1 qB2 qhb
  try simp only [Act.put, List.setIfInBounds_toArray, List.set_cons_zero, List.set_cons_succ]
  refine bodyPost_ret (results_blk rfl _ _ _ 64 23 5 _ rfl B2 Try.underlying23 Try.size23) rfl ⟨rfl, hb⟩
set_option maxRecDepth 100000 in
set_option maxHeartbeats 1600000 in
theorem SecondFactorialC_no (n i : Nat) (b1 b2 : Nat) (w : World) (n2 : 2 ≤ n) (n7 : n ≤ 7) (hi6 : i ≤ 6) (hO : sfO n i = none) (B0 : One w b1 2 (.int .i64 (n : Int))) (B1 : One w b2 2 (.int .i64 (i : Int))) :
    Calls Try.prog 135 #[.pointer (some ⟨b1, 0, none⟩), .pointer (some ⟨b2, 0, none⟩)] w fun e w' => e = .panicked [{ v := .iface 138 (.int .i64 3), recovered := false }] ∧ Below w.heap.size w w' := by
  have HC := Lib.hid (show ∀ W, Calls Try.prog 136 #[.int .i64 (n : Int), .int .i64 (i : Int)] W fun e w' => e = .panicked [{ v := .iface 138 (.int .i64 3), recovered := false }] ∧ Below W.heap.size W w' from fun W => secondFact_no n i W n2 n7 (smI_6 n2 n7 hi6) (by unfold sfO at hO; exact hO))
  clear hO
  have zx_0 := B0.lt
  have zx_1 := B1.lt
  go_enter Try.func135, Try.ntmps135
  go_upto_region 1 with (fail)
  rw [← zero64]
  obtain ⟨W1, hwo⟩ : ∃ v : World, v = (w.alloc (.cells (bcells 64 fun _ => 0) 23)) := ⟨_, rfl⟩
  have B2 : Blk W1 (w.heap.size) 64 23 (fun _ => 0) := by subst hwo; have := (Blk.new w 64 23 (fun _ => 0)); simpa using this
  replace B0 : One W1 (b1) 2 (.int .i64 (n : Int)) := by subst hwo; exact (B0.alloc (.cells (bcells 64 fun _ => 0) 23))
  replace B1 : One W1 (b2) 2 (.int .i64 (i : Int)) := by subst hwo; exact (B1.alloc (.cells (bcells 64 fun _ => 0) 23))
  have hb : Below w.heap.size w W1 := by subst hwo; exact ((Below.refl _ _).alloc (Nat.le_refl _) _)
  rw [← hwo]
  clear hwo
  go_wp2_with (first | rw [← zero64] | (refine wpList_load_one rfl 2 (.tmp 0) rfl _ rfl 2 ((.int .i64 (n : Int))) (B0) _ Try.underlying2 rfl ?_) | (refine wpList_load_one rfl 2 (.tmp 1) rfl _ rfl 2 ((.int .i64 (i : Int))) (B1) _ Try.underlying2 rfl ?_) | (go_at_call 136; refine (HC.out _).mono ?_; rintro e W2 ⟨rfl, hW2⟩; replace B0 := B0.below hW2 B0.lt; replace B1 := B1.below hW2 B1.lt; replace B2 := B2.below hW2 B2.lt; replace hb := (hb).trans (hW2.mono (hb).size)))
  exact ⟨rfl, rfl, hb⟩
set_option maxRecDepth 100000 in
set_option maxHeartbeats 1600000 in
theorem spec_SecondFactorial_any (p i : Int) (w : World) :
    Calls Try.prog 62 #[.int .i64 p, .int .i64 i] w fun e w' => e = .returned (.tuple #[.agg (bcells 64 (opV 0 6 sfO p i).1), .int .i64 (opV 0 6 sfO p i).2]) ∧ Below w.heap.size w w' := by
  go_enter Try.func62, Try.ntmps62
  go_upto_region 1 with (fail)
  rw [← zero64]
  obtain ⟨W1, hwo⟩ : ∃ v : World, v = (w.alloc (.cells (bcells 64 fun _ => 0) 23)) := ⟨_, rfl⟩
  have B0 : Blk W1 (w.heap.size) 64 23 (fun _ => 0) := by subst hwo; have := (Blk.new w 64 23 (fun _ => 0)); simpa using this
  have hb : Below w.heap.size w W1 := by subst hwo; exact ((Below.refl _ _).alloc (Nat.le_refl _) _)
  rw [← hwo]
  clear hwo
  rcases rgC_cases (p := p) (n := i) (lo := 0) (hi := 6) with ⟨c, hc, hc0, hc12⟩ | ⟨hc, hp, hr1, hr2⟩
  · have HV := Lib.hid (opV_c (O := sfO) hc hc0)
    have hb1 : ((c : Int) != 0) = true := by simp [hc0]
    go_upto_region 2 with (first | (go_at_call 126; refine (l04Range_any _ _ 0 6 _).mono ?_; rintro e wS ⟨rfl, rfl⟩; rw [hc]))
    clear hc
    go_upto_region 3 with (fail)
    have lt_B0 := B0.lt
    go_wp2_with (first | rw [← zero64] | (refine wpList_store_blk rfl 23 (.tmp 4) (.tmp 14) rfl _ 64 (fun _ => 0) rfl rfl 23 _ (B0) Try.size23 ?_; try simp only [Act.put]; go_wp2_with fail))
    have qB0 : Blk (W1.setRow (w.heap.size) (bcells 64 (fun _ => 0))) (w.heap.size) 64 23 (fun _ => 0) := (B0.row (fun _ => 0))
    have qhb : Below w.heap.size w (W1.setRow (w.heap.size) (bcells 64 (fun _ => 0))) := (below_row hb (by omega) _)
    obtain ⟨W2, hwo⟩ : ∃ v : World, v = (W1.setRow (w.heap.size) (bcells 64 (fun _ => 0))) := ⟨_, rfl⟩
    rw [← hwo] at qB0 qhb ⊢
    clear hwo
    clear B0 hb
    have B0 := qB0
    have hb := qhb
    clear qB0 qhb
    try simp only [Act.put, List.setIfInBounds_toArray, List.set_cons_zero, List.set_cons_succ]
    refine bodyPost_ret (results_bt rfl _ _ _ 64 23 5 _ rfl B0 Try.underlying23 Try.size23) rfl ⟨by first | (rw [HV.out]; rfl) | rw [HV.out], hb⟩
  · obtain ⟨n, hn, n2, n7⟩ := okP_nat hp
    subst hn
    obtain ⟨i, rfl⟩ : ∃ j : Nat, i = (j : Int) := ⟨i.toNat, by omega⟩
    cases hO : sfO n i with
    | none =>
      have HV := Lib.hid (opV_no hc hO)
      have HS := Lib.hid (show ∀ W, Calls Try.prog 132 #[.int .i64 (n : Int), .int .i64 (i : Int), .bool true] W fun e w' => e = .returned (.tuple #[.agg (bcells 64 fun _ => 0), .bool false]) ∧ Below W.heap.size W w' from fun W => l04FactS_no n i W n2 n7 (by omega) (by unfold sfO at hO; exact hO))
      go_upto_region 2 with (first | (go_at_call 126; refine (l04Range_any _ _ 0 6 _).mono ?_; rintro e wS ⟨rfl, rfl⟩; rw [hc]))
      clear hc hO hp
      go_upto_region 4 with (fail)
      have lt_B0 := B0.lt
      go_upto_region 5 with (first | rw [← zero64] | (go_at_call 132; refine (HS.out _).mono ?_; rintro e W2 ⟨rfl, hW2⟩; replace B0 := B0.below hW2 B0.lt; replace hb := (hb).trans (hW2.mono (hb).size)) | (refine wpList_store_blk rfl 23 (.tmp 7) (.tmp 20) rfl _ 64 (fun _ => 0) rfl rfl 23 _ ((Blk.new W2 64 23 (fun _ => 0))) Try.size23 ?_; try simp only [Act.put]; go_upto_region 5 with (fail)))
      have lt_B0 := B0.lt
      have lhb := hb.size
      have qB0 : Blk ((W2.alloc (.cells (bcells 64 fun _ => 0) 23)).setRow (W2.heap.size) (bcells 64 (fun _ => 0))) (w.heap.size) 64 23 (fun _ => 0) := ((B0.alloc (.cells (bcells 64 fun _ => 0) 23)).rowOther (by omega))
      have qB1 : Blk ((W2.alloc (.cells (bcells 64 fun _ => 0) 23)).setRow (W2.heap.size) (bcells 64 (fun _ => 0))) (W2.heap.size) 64 23 (fun _ => 0) := ((Blk.new W2 64 23 (fun _ => 0)).row (fun _ => 0))
      have qhb : Below w.heap.size w ((W2.alloc (.cells (bcells 64 fun _ => 0) 23)).setRow (W2.heap.size) (bcells 64 (fun _ => 0))) := (below_row (hb.alloc (by have := hb.size; simp; omega) (.cells (bcells 64 fun _ => 0) 23)) (by omega) _)
      obtain ⟨W3, hwo⟩ : ∃ v : World, v = ((W2.alloc (.cells (bcells 64 fun _ => 0) 23)).setRow (W2.heap.size) (bcells 64 (fun _ => 0))) := ⟨_, rfl⟩
      rw [← hwo] at qB0 qB1 qhb ⊢
      clear hwo
      clear B0 hb
      have B0 := qB0
      have B1 := qB1
      have hb := qhb
      clear qB0 qB1 qhb
      obtain ⟨N1, hNN⟩ : ∃ n : Nat, n = W2.heap.size := ⟨_, rfl⟩
      rw [← hNN] at lt_B0 lhb B1 ⊢
      clear hNN
      have zN1_0 := lt_B0
      have zN1 := lhb
      clear lt_B0 lhb
      try simp only [Act.put, List.setIfInBounds_toArray, List.set_cons_zero, List.set_cons_succ]
      go_upto_region 6 with (fail)
      have lt_B0 := B0.lt
      have lt_B1 := B1.lt
      go_wp2_with (first | rw [← zero64] | (refine wpList_store_blk rfl 23 (.tmp 4) (.tmp 24) rfl _ 64 (fun _ => 0) rfl rfl 23 _ (B0) Try.size23 ?_; try simp only [Act.put]; go_wp2_with fail))
      have qB0 : Blk (W3.setRow (w.heap.size) (bcells 64 (fun _ => 0))) (w.heap.size) 64 23 (fun _ => 0) := (B0.row (fun _ => 0))
      have qB1 : Blk (W3.setRow (w.heap.size) (bcells 64 (fun _ => 0))) (N1) 64 23 (fun _ => 0) := (B1.rowOther (by omega))
      have qhb : Below w.heap.size w (W3.setRow (w.heap.size) (bcells 64 (fun _ => 0))) := (below_row hb (by omega) _)
      obtain ⟨W4, hwo⟩ : ∃ v : World, v = (W3.setRow (w.heap.size) (bcells 64 (fun _ => 0))) := ⟨_, rfl⟩
      rw [← hwo] at qB0 qB1 qhb ⊢
      clear hwo
      clear B0 B1 hb
      have B0 := qB0
      have B1 := qB1
      have hb := qhb
      clear qB0 qB1 qhb
      try simp only [Act.put, List.setIfInBounds_toArray, List.set_cons_zero, List.set_cons_succ]
      refine bodyPost_ret (results_bt rfl _ _ _ 64 23 5 _ rfl B0 Try.underlying23 Try.size23) rfl ⟨by first | (rw [HV.out]; rfl) | rw [HV.out], hb⟩
    | some F =>
      have HV := Lib.hid (opV_yes hc hO)
      have HS := Lib.hid (show ∀ W, Calls Try.prog 132 #[.int .i64 (n : Int), .int .i64 (i : Int), .bool true] W fun e w' => e = .returned (.tuple #[.agg (bcells 64 F), .bool true]) ∧ Below W.heap.size W w' from fun W => l04FactS_ok n i W n2 n7 (by omega) F (by unfold sfO at hO; exact hO))
      go_upto_region 2 with (first | (go_at_call 126; refine (l04Range_any _ _ 0 6 _).mono ?_; rintro e wS ⟨rfl, rfl⟩; rw [hc]))
      clear hc hO hp
      go_upto_region 4 with (fail)
      have lt_B0 := B0.lt
      go_upto_region 5 with (first | rw [← zero64] | (go_at_call 132; refine (HS.out _).mono ?_; rintro e W2 ⟨rfl, hW2⟩; replace B0 := B0.below hW2 B0.lt; replace hb := (hb).trans (hW2.mono (hb).size)) | (refine wpList_store_blk rfl 23 (.tmp 7) (.tmp 20) rfl _ 64 (F) rfl rfl 23 _ ((Blk.new W2 64 23 (fun _ => 0))) Try.size23 ?_; try simp only [Act.put]; go_upto_region 5 with (fail)))
      have lt_B0 := B0.lt
      have lhb := hb.size
      have qB0 : Blk ((W2.alloc (.cells (bcells 64 fun _ => 0) 23)).setRow (W2.heap.size) (bcells 64 (F))) (w.heap.size) 64 23 (fun _ => 0) := ((B0.alloc (.cells (bcells 64 fun _ => 0) 23)).rowOther (by omega))
      have qB1 : Blk ((W2.alloc (.cells (bcells 64 fun _ => 0) 23)).setRow (W2.heap.size) (bcells 64 (F))) (W2.heap.size) 64 23 (F) := ((Blk.new W2 64 23 (fun _ => 0)).row (F))
      have qhb : Below w.heap.size w ((W2.alloc (.cells (bcells 64 fun _ => 0) 23)).setRow (W2.heap.size) (bcells 64 (F))) := (below_row (hb.alloc (by have := hb.size; simp; omega) (.cells (bcells 64 fun _ => 0) 23)) (by omega) _)
      obtain ⟨W3, hwo⟩ : ∃ v : World, v = ((W2.alloc (.cells (bcells 64 fun _ => 0) 23)).setRow (W2.heap.size) (bcells 64 (F))) := ⟨_, rfl⟩
      rw [← hwo] at qB0 qB1 qhb ⊢
      clear hwo
      clear B0 hb
      have B0 := qB0
      have B1 := qB1
      have hb := qhb
      clear qB0 qB1 qhb
      obtain ⟨N1, hNN⟩ : ∃ n : Nat, n = W2.heap.size := ⟨_, rfl⟩
      rw [← hNN] at lt_B0 lhb B1 ⊢
      clear hNN
      have zN1_0 := lt_B0
      have zN1 := lhb
      clear lt_B0 lhb
      try simp only [Act.put, List.setIfInBounds_toArray, List.set_cons_zero, List.set_cons_succ]
      go_upto_region 7 with (fail)
      have lt_B0 := B0.lt
      have lt_B1 := B1.lt
      go_wp2_with (first | rw [← zero64] | (refine wpList_load_any rfl 23 (.tmp 7) rfl _ rfl 64 23 _ (B1) _ Try.underlying23 rfl Try.size23 ?_) | (refine wpList_store_blk rfl 23 (.tmp 4) (.tmp 25) rfl _ 64 (F) rfl rfl 23 _ (B0) Try.size23 ?_; try simp only [Act.put]; go_wp2_with fail))
      have qB0 : Blk (W3.setRow (w.heap.size) (bcells 64 (F))) (w.heap.size) 64 23 (F) := (B0.row (F))
      have qB1 : Blk (W3.setRow (w.heap.size) (bcells 64 (F))) (N1) 64 23 (F) := (B1.rowOther (by omega))
      have qhb : Below w.heap.size w (W3.setRow (w.heap.size) (bcells 64 (F))) := (below_row hb (by omega) _)
      obtain ⟨W4, hwo⟩ : ∃ v : World, v = (W3.setRow (w.heap.size) (bcells 64 (F))) := ⟨_, rfl⟩
      rw [← hwo] at qB0 qB1 qhb ⊢
      clear hwo
      clear B0 B1 hb
      have B0 := qB0
      have B1 := qB1
      have hb := qhb
      clear qB0 qB1 qhb
      try simp only [Act.put, List.setIfInBounds_toArray, List.set_cons_zero, List.set_cons_succ]
      refine bodyPost_ret (results_bt rfl _ _ _ 64 23 5 _ rfl B0 Try.underlying23 Try.size23) rfl ⟨by first | (rw [HV.out]; rfl) | rw [HV.out], hb⟩
set_option maxRecDepth 100000 in
set_option maxHeartbeats 1600000 in
theorem impl_SecondFactorial_any (p i : Int) (w : World) :
    Calls Try.prog 63 #[.int .i64 p, .int .i64 i] w fun e w' => e = .returned (.tuple #[.agg (bcells 64 (opV 0 6 sfO p i).1), .int .i64 (opV 0 6 sfO p i).2]) ∧ Below w.heap.size w w' := by
  go_enter Try.func63, Try.ntmps63
  go_upto_region 1 with (fail)
  rw [← zero64]
  obtain ⟨W1, hwo⟩ : ∃ v : World, v = (((w.alloc (.cells #[(.int .i64 p)] 2)).alloc (.cells #[(.int .i64 i)] 2)).alloc (.cells (bcells 64 fun _ => 0) 23)) := ⟨_, rfl⟩
  have B0 : One W1 (w.heap.size) 2 (.int .i64 p) := by subst hwo; have := (((One.new w 2 (.int .i64 p)).alloc (.cells #[(.int .i64 i)] 2)).alloc (.cells (bcells 64 fun _ => 0) 23)); simpa using this
  have B1 : One W1 (w.heap.size + 1) 2 (.int .i64 i) := by subst hwo; have := ((One.new (w.alloc (.cells #[(.int .i64 p)] 2)) 2 (.int .i64 i)).alloc (.cells (bcells 64 fun _ => 0) 23)); simpa using this
  have B2 : Blk W1 (w.heap.size + 1 + 1) 64 23 (fun _ => 0) := by subst hwo; have := (Blk.new ((w.alloc (.cells #[(.int .i64 p)] 2)).alloc (.cells #[(.int .i64 i)] 2)) 64 23 (fun _ => 0)); simpa using this
  have hb : Below w.heap.size w W1 := by subst hwo; exact ((((Below.refl _ _).alloc (Nat.le_refl _) _).alloc (by simp) _).alloc (by simp; omega) _)
  rw [← hwo]
  clear hwo
  rcases rgC_cases (p := p) (n := i) (lo := 0) (hi := 6) with ⟨c, hc, hc0, hc12⟩ | ⟨hc, hp, hr1, hr2⟩
  · have HV := Lib.hid (opV_c (O := sfO) hc hc0)
    have hb1 : ((c : Int) != 0) = true := by simp [hc0]
    go_upto_region 2 with (first | (refine wpList_load_one rfl 2 (.tmp 2) rfl _ rfl 2 ((.int .i64 p)) (B0) _ Try.underlying2 rfl ?_) | (refine wpList_load_one rfl 2 (.tmp 3) rfl _ rfl 2 ((.int .i64 i)) (B1) _ Try.underlying2 rfl ?_) | (go_at_call 128; refine (checkNumber_any _ _ 0 6 _).mono ?_; rintro e wS ⟨rfl, rfl⟩; rw [hc]))
    clear hc
    go_upto_region 3 with (fail)
    have lt_B0 := B0.lt
    have lt_B1 := B1.lt
    have lt_B2 := B2.lt
    go_wp2_with (first | rw [← zero64] | (refine wpList_store_blk rfl 23 (.tmp 4) (.tmp 12) rfl _ 64 (fun _ => 0) rfl rfl 23 _ (B2) Try.size23 ?_; try simp only [Act.put]; go_wp2_with fail))
    have qB0 : One (W1.setRow (w.heap.size + 1 + 1) (bcells 64 (fun _ => 0))) (w.heap.size) 2 (.int .i64 p) := (B0.rowOther (by omega))
    have qB1 : One (W1.setRow (w.heap.size + 1 + 1) (bcells 64 (fun _ => 0))) (w.heap.size + 1) 2 (.int .i64 i) := (B1.rowOther (by omega))
    have qB2 : Blk (W1.setRow (w.heap.size + 1 + 1) (bcells 64 (fun _ => 0))) (w.heap.size + 1 + 1) 64 23 (fun _ => 0) := (B2.row (fun _ => 0))
    have qhb : Below w.heap.size w (W1.setRow (w.heap.size + 1 + 1) (bcells 64 (fun _ => 0))) := (below_row hb (by omega) _)
    obtain ⟨W2, hwo⟩ : ∃ v : World, v = (W1.setRow (w.heap.size + 1 + 1) (bcells 64 (fun _ => 0))) := ⟨_, rfl⟩
    rw [← hwo] at qB0 qB1 qB2 qhb ⊢
    clear hwo
    clear B0 B1 B2 hb
    have B0 := qB0
    have B1 := qB1
    have B2 := qB2
    have hb := qhb
    clear qB0 qB1 qB2 qhb
    try simp only [Act.put, List.setIfInBounds_toArray, List.set_cons_zero, List.set_cons_succ]
    refine bodyPost_ret (results_bt rfl _ _ _ 64 23 5 _ rfl B2 Try.underlying23 Try.size23) rfl ⟨by first | (rw [HV.out]; rfl) | rw [HV.out], hb⟩
  · obtain ⟨n, hn, n2, n7⟩ := okP_nat hp
    subst hn
    obtain ⟨i, rfl⟩ : ∃ j : Nat, i = (j : Int) := ⟨i.toNat, by omega⟩
    cases hO : sfO n i with
    | none =>
      have HV := Lib.hid (opV_no hc hO)
      have HDO := Lib.hid (fun (b1 b2 : Nat) (W : World) (h1 : One W b1 2 (.int .i64 (n : Int))) (h2 : One W b2 2 (.int .i64 (i : Int))) => door_SecondFactorialN (.pointer (some ⟨b1, 0, none⟩)) (.pointer (some ⟨b2, 0, none⟩)) (fun _ => 0) W (fun W' hW => SecondFactorialC_no n i b1 b2 W' n2 n7 (by omega) hO (h1.below hW h1.lt) (h2.below hW h2.lt)))
      have hmf : ∀ (fn : Fn) (first cap : Array Value) (w : World), (Instr.makeFunc fn first cap).run Try.prog w = .ok (.func fn first cap) w := fun _ _ _ _ => rfl
      go_upto_region 2 with (first | (refine wpList_load_one rfl 2 (.tmp 2) rfl _ rfl 2 ((.int .i64 (n : Int))) (B0) _ Try.underlying2 rfl ?_) | (refine wpList_load_one rfl 2 (.tmp 3) rfl _ rfl 2 ((.int .i64 (i : Int))) (B1) _ Try.underlying2 rfl ?_) | (go_at_call 128; refine (checkNumber_any _ _ 0 6 _).mono ?_; rintro e wS ⟨rfl, rfl⟩; rw [hc]))
      clear hc hO hp
      go_upto_region 4 with (fail)
      have lt_B0 := B0.lt
      have lt_B1 := B1.lt
      have lt_B2 := B2.lt
      go_wp2_with (first | rw [← zero64] | (go_at_call 129; refine (HDO.out _ _ _ B0 B1).mono ?_; rintro e W2 ⟨rfl, hW2⟩; replace B0 := B0.below hW2 B0.lt; replace B1 := B1.below hW2 B1.lt; replace B2 := B2.below hW2 B2.lt; replace hb := (hb).trans (hW2.mono (hb).size)) | (refine wpList_store_blk rfl 23 (.tmp 4) (.tmp 16) rfl _ 64 (fun _ => 0) rfl rfl 23 _ (B2) Try.size23 ?_; try simp only [Act.put]; go_wp2_with fail))
      have qB0 : One (W2.setRow (w.heap.size + 1 + 1) (bcells 64 (fun _ => 0))) (w.heap.size) 2 (.int .i64 (n : Int)) := (B0.rowOther (by omega))
      have qB1 : One (W2.setRow (w.heap.size + 1 + 1) (bcells 64 (fun _ => 0))) (w.heap.size + 1) 2 (.int .i64 (i : Int)) := (B1.rowOther (by omega))
      have qB2 : Blk (W2.setRow (w.heap.size + 1 + 1) (bcells 64 (fun _ => 0))) (w.heap.size + 1 + 1) 64 23 (fun _ => 0) := (B2.row (fun _ => 0))
      have qhb : Below w.heap.size w (W2.setRow (w.heap.size + 1 + 1) (bcells 64 (fun _ => 0))) := (below_row hb (by omega) _)
      obtain ⟨W3, hwo⟩ : ∃ v : World, v = (W2.setRow (w.heap.size + 1 + 1) (bcells 64 (fun _ => 0))) := ⟨_, rfl⟩
      rw [← hwo] at qB0 qB1 qB2 qhb ⊢
      clear hwo
      clear B0 B1 B2 hb
      have B0 := qB0
      have B1 := qB1
      have B2 := qB2
      have hb := qhb
      clear qB0 qB1 qB2 qhb
      try simp only [Act.put, List.setIfInBounds_toArray, List.set_cons_zero, List.set_cons_succ]
      refine bodyPost_ret (results_bt rfl _ _ _ 64 23 5 _ rfl B2 Try.underlying23 Try.size23) rfl ⟨by first | (rw [HV.out]; rfl) | rw [HV.out], hb⟩
    | some F =>
      have HV := Lib.hid (opV_yes hc hO)
      have HDO := Lib.hid (fun (b1 b2 : Nat) (W : World) (h1 : One W b1 2 (.int .i64 (n : Int))) (h2 : One W b2 2 (.int .i64 (i : Int))) => door_SecondFactorial (.pointer (some ⟨b1, 0, none⟩)) (.pointer (some ⟨b2, 0, none⟩)) (F) W (fun W' hW => SecondFactorialC_ok n i b1 b2 W' n2 n7 (by omega) F hO (h1.below hW h1.lt) (h2.below hW h2.lt)))
      have hmf : ∀ (fn : Fn) (first cap : Array Value) (w : World), (Instr.makeFunc fn first cap).run Try.prog w = .ok (.func fn first cap) w := fun _ _ _ _ => rfl
      go_upto_region 2 with (first | (refine wpList_load_one rfl 2 (.tmp 2) rfl _ rfl 2 ((.int .i64 (n : Int))) (B0) _ Try.underlying2 rfl ?_) | (refine wpList_load_one rfl 2 (.tmp 3) rfl _ rfl 2 ((.int .i64 (i : Int))) (B1) _ Try.underlying2 rfl ?_) | (go_at_call 128; refine (checkNumber_any _ _ 0 6 _).mono ?_; rintro e wS ⟨rfl, rfl⟩; rw [hc]))
      clear hc hO hp
      go_upto_region 4 with (fail)
      have lt_B0 := B0.lt
      have lt_B1 := B1.lt
      have lt_B2 := B2.lt
      go_wp2_with (first | rw [← zero64] | (go_at_call 129; refine (HDO.out _ _ _ B0 B1).mono ?_; rintro e W2 ⟨rfl, hW2⟩; replace B0 := B0.below hW2 B0.lt; replace B1 := B1.below hW2 B1.lt; replace B2 := B2.below hW2 B2.lt; replace hb := (hb).trans (hW2.mono (hb).size)) | (refine wpList_store_blk rfl 23 (.tmp 4) (.tmp 16) rfl _ 64 (F) rfl rfl 23 _ (B2) Try.size23 ?_; try simp only [Act.put]; go_wp2_with fail))
      have qB0 : One (W2.setRow (w.heap.size + 1 + 1) (bcells 64 (F))) (w.heap.size) 2 (.int .i64 (n : Int)) := (B0.rowOther (by omega))
      have qB1 : One (W2.setRow (w.heap.size + 1 + 1) (bcells 64 (F))) (w.heap.size + 1) 2 (.int .i64 (i : Int)) := (B1.rowOther (by omega))
      have qB2 : Blk (W2.setRow (w.heap.size + 1 + 1) (bcells 64 (F))) (w.heap.size + 1 + 1) 64 23 (F) := (B2.row (F))
      have qhb : Below w.heap.size w (W2.setRow (w.heap.size + 1 + 1) (bcells 64 (F))) := (below_row hb (by omega) _)
      obtain ⟨W3, hwo⟩ : ∃ v : World, v = (W2.setRow (w.heap.size + 1 + 1) (bcells 64 (F))) := ⟨_, rfl⟩
      rw [← hwo] at qB0 qB1 qB2 qhb ⊢
      clear hwo
      clear B0 B1 B2 hb
      have B0 := qB0
      have B1 := qB1
      have B2 := qB2
      have hb := qhb
      clear qB0 qB1 qB2 qhb
      try simp only [Act.put, List.setIfInBounds_toArray, List.set_cons_zero, List.set_cons_succ]
      refine bodyPost_ret (results_bt rfl _ _ _ 64 23 5 _ rfl B2 Try.underlying23 Try.size23) rfl ⟨by first | (rw [HV.out]; rfl) | rw [HV.out], hb⟩
end Go.Proofs.Ytbjpkmbhbpcbgaa
end
section
namespace Go.Proofs.Ytbjpkmbhbpcbgaa
open Go.RowKit
set_option linter.unusedVariables false
set_option linter.unusedSimpArgs false
set_option maxRecDepth 100000 in
set_option maxHeartbeats 1600000 in
theorem FnExactBracketOf_walk (p : Int) (i : Int)  (w : World) :
    Calls Try.prog 16 #[.int .i64 p, .int .i64 i] w fun e w' => e = .returned (.bool true) ∧ Below w.heap.size w w' := by
  go_enter Try.func16, Try.ntmps16
  go_upto_region 1 with (fail)
  obtain ⟨wo, hwo⟩ : ∃ wo : World, wo = w := ⟨_, rfl⟩
  have hb : Below w.heap.size w wo := by subst hwo; exact (Below.refl _ _)
  rw [← hwo]
  clear hwo
  have ha : Below wo.heap.size wo wo := Below.refl _ _
  go_upto_region 2 with (first | (go_at_call 58; refine (acc (spec_BracketOf_any p i _) (by assumption)).mono ?_; rintro e w1z ⟨rfl, hz, ha⟩) | refine wpList_store_new rfl 23 _ _ rfl _ 23 64 ((opV 1 6 brO p i).1) rfl rfl rfl Try.size23 ?_)
  have hb6 := Blk.new w1z 64 23 ((opV 1 6 brO p i).1)
  have hS1 := ha.trans ((below_alloc' w1z (.cells (bcells 64 ((opV 1 6 brO p i).1)) 23)).mono ha.size)
  clear ha
  obtain ⟨w1, hwx⟩ : ∃ v : World, v = w1z.alloc (.cells (bcells 64 ((opV 1 6 brO p i).1)) 23) := ⟨_, rfl⟩
  rw [← hwx] at hb6 hS1 ⊢
  clear hwx
  obtain ⟨b6, hbi⟩ : ∃ b : Nat, b = w1z.heap.size := ⟨_, rfl⟩
  rw [← hbi] at hb6 ⊢
  clear hbi
  have ha : Below w1.heap.size w1 w1 := Below.refl _ _
  go_upto_region 3 with (first | (go_at_call 59; refine (acc (impl_BracketOf_any p i _) (by assumption)).mono ?_; rintro e w2z ⟨rfl, hz, ha⟩) | refine wpList_store_new rfl 23 _ _ rfl _ 23 64 ((opV 1 6 brO p i).1) rfl rfl rfl Try.size23 ?_)
  have hq6 := Blk.new w2z 64 23 ((opV 1 6 brO p i).1)
  have hS2 := ha.trans ((below_alloc' w2z (.cells (bcells 64 ((opV 1 6 brO p i).1)) 23)).mono ha.size)
  clear ha
  obtain ⟨w2, hwx⟩ : ∃ v : World, v = w2z.alloc (.cells (bcells 64 ((opV 1 6 brO p i).1)) 23) := ⟨_, rfl⟩
  rw [← hwx] at hq6 hS2 ⊢
  clear hwx
  obtain ⟨q6, hbi⟩ : ∃ b : Nat, b = w2z.heap.size := ⟨_, rfl⟩
  rw [← hbi] at hq6 ⊢
  clear hbi
  replace hb6 := hb6.below hS2 hb6.lt
  have ha : Below w2.heap.size w2 w2 := Below.refl _ _
  have hne : (((opV 1 6 brO p i).2) != ((opV 1 6 brO p i).2)) = false := by simp
  go_wp2_with (first | refine wpList_load_blk rfl 23 _ rfl _ rfl 64 23 _ (hq6.below (by assumption) hq6.lt) 5 Try.underlying23 Try.size23 ?_ | refine wpList_load_blk rfl 23 _ rfl _ rfl 64 23 _ (hb6.below (by assumption) hb6.lt) 5 Try.underlying23 Try.size23 ?_ | (go_at_call 26; refine (acc (eqPoly_same _ _ (fun _ _ => rfl) _) (by assumption)).mono ?_; rintro e w3 ⟨rfl, h3, ha⟩))
  go_ret
  exact ⟨rfl, hb.trans ((hS1.trans ((hS2.trans (ha.mono hS2.size)).mono hS1.size)).mono hb.size)⟩
end Go.Proofs.Ytbjpkmbhbpcbgaa
end
section
namespace Go.Proofs.Ytbjpkmbhbpcbgaa
open Go.ChangeShapes Go.WideShapes Go.ChangeAt Go.RowKit
section
variable {H : Type} {enc : TypeId × Value → H} {P : Program}
/-- the row's last step where the call has only made new memory, and the row does not say 'again' -/
theorem post_of_below0 {f : Func} {s : ChangeSpec} {apart fresh handsOn : Bool} {W W' : World} {args : Array Value} {v : Value} {ds gs : List (DataW H)} {before pa pv : List MemPlace}
    (hW : DataW.Whole enc P f.params.toList s.vars apart W args.toList ds gs before)
    (hres : ∀ (b : Nat) (sp : Nat → Bool) (hd : Bool), DataW.TrodAll enc P W' b sp hd f.resultTypes.toList (v.resultList f.resultTypes.size) (s.fn H (ds ++ gs)).results [])
    (hargs : ∀ sp : Nat → Bool, (∀ p ∈ before, sp p.block = true) → DataW.TrodAll enc P W' 0 sp true f.params.toList args.toList (s.fn H (ds ++ gs)).args pa)
    (hvars : ∀ sp : Nat → Bool, (∀ p ∈ before, sp p.block = true) → DataW.TrodVars enc P W' sp s.vars (s.fn H (ds ++ gs)).vars pv)
    (hps : before = pa ++ pv) (hb : Below W.heap.size W W') : s.post enc P f apart fresh handsOn false W args v W' := by
  have held : ∀ p ∈ before, (fun b => decide (b < W.heap.size)) p.block = true := fun p hp => by simpa using hW.lt p hp
  refine ⟨ds, gs, before, [], pa, pv, hW, hres _ _ _, hargs _ held, hvars _ held, ?_, fun h => by cases h⟩
  refine World.keptBut_mono (fun p hp => ⟨hp, .inr ?_⟩) (hb.frame (· ∈ before))
  rw [hps, List.mem_append] at hp
  exact hp
end
end Go.Proofs.Ytbjpkmbhbpcbgaa
end
section
namespace Go.Proofs.Ytbjpkmbhbpcbgaa
open Go
def cutW : List Char := [Char.ofNat 99, Char.ofNat 117, Char.ofNat 116]
theorem strip_cut (rest : List (List Char)) : stripLifts liftWords (cutW :: rest) = ([], cutW :: rest) := by
  have key : ∀ os : List String, (os.all fun o => !(cutW == o.toList)) = true → stripLifts os (cutW :: rest) = ([], cutW :: rest) := by
    intro os
    induction os with
    | nil => intro _; rfl
    | cons o os ih =>
      intro h
      simp only [List.all_cons, Bool.and_eq_true, Bool.not_eq_true'] at h
      unfold stripLifts
      rw [h.1]
      exact ih h.2
  exact key _ (by decide +kernel)
theorem make_cut {P : Program} {rest : List (List Char)} (h : behindMainWord (wordsSigns P.initOrder.toList) = cutW :: rest) : P.make = some .cut := by
  unfold Program.make
  rw [h]
  have e1 : (cutW == "gc".toList || cutW == "spec".toList) = false := by decide +kernel
  have e2 : (cutW == "cut".toList) = true := by decide +kernel
  simp only [e1, e2, Bool.true_or]
  rfl
theorem mayEnter_cut {P : Program} {rest : List (List Char)} (h : behindMainWord (wordsSigns P.initOrder.toList) = cutW :: rest) (h1 : P.laysLater = false) (h2 : P.bearsReflect = false) (h3 : P.doorFits [] = true) : P.mayEnter = true := by
  unfold Program.mayEnter
  rw [h]
  have e2 : (some cutW == some "cut".toList) = true := by decide +kernel
  simp only [strip_cut, h1, h2, h3, List.head?_cons, e2]
  simp
theorem lifts_cut {P : Program} {rest : List (List Char)} (h : behindMainWord (wordsSigns P.initOrder.toList) = cutW :: rest) : P.liftsFinal = false := by
  unfold Program.liftsFinal Program.headLifts
  rw [h]
  have e2 : (some cutW == some "cut".toList) = true := by decide +kernel
  have e3 : (some cutW == some "carried".toList) = false := by decide +kernel
  simp only [strip_cut, List.head?_cons, e2, e3]
  simp
/-- the signs of the head, and its words behind the first three -/
def initSigns : List Nat := [104, 97, 114, 110, 101, 115, 115, 32, 101, 51, 54, 49, 54, 99, 97, 51, 99, 98, 54, 102, 52, 57, 52, 51, 51, 101, 56, 54, 53, 53, 54, 51, 52, 50, 97, 49, 49, 57, 55, 53, 101, 48, 99, 53, 57, 53, 54, 98, 55, 49, 50, 57, 57, 98, 48, 101, 102, 53, 101, 49, 98, 102, 51, 50, 101, 101, 97, 52, 55, 100, 49, 53, 32, 99, 117, 116, 32, 97, 116, 32, 108, 111, 111, 112, 46, 101, 120, 97, 109, 112, 108, 101, 47, 103, 48, 49, 50, 52, 53, 47, 108, 97, 119, 115, 46, 70, 110, 69, 120, 97, 99, 116, 80, 111, 119, 101, 114, 79, 102, 32, 108, 111, 111, 112, 46, 101, 120, 97, 109, 112, 108, 101, 47, 103, 48, 49, 50, 52, 53, 47, 108, 97, 119, 115, 46, 70, 110, 69, 120, 97, 99, 116, 80, 114, 105, 109, 105, 116, 105, 118, 101, 79, 102, 32, 108, 111, 111, 112, 46, 101, 120, 97, 109, 112, 108, 101, 47, 103, 48, 49, 50, 52, 53, 47, 108, 97, 119, 115, 46, 70, 110, 69, 120, 97, 99, 116, 73, 115, 83, 107, 101, 119, 32, 108, 111, 111, 112, 46, 101, 120, 97, 109, 112, 108, 101, 47, 103, 48, 49, 50, 52, 53, 47, 108, 97, 119, 115, 46, 70, 110, 69, 120, 97, 99, 116, 83, 107, 101, 119, 68, 101, 103, 114, 101, 101, 32, 108, 111, 111, 112, 46, 101, 120, 97, 109, 112, 108, 101, 47, 103, 48, 49, 50, 52, 53, 47, 108, 97, 119, 115, 46, 70, 110, 69, 120, 97, 99, 116, 65, 100, 100, 83, 107, 101, 119, 115, 32, 108, 111, 111, 112, 46, 101, 120, 97, 109, 112, 108, 101, 47, 103, 48, 49, 50, 52, 53, 47, 108, 97, 119, 115, 46, 70, 110, 69, 120, 97, 99, 116, 77, 117, 108, 116, 105, 112, 108, 121, 83, 107, 101, 119, 115, 32, 108, 111, 111, 112, 46, 101, 120, 97, 109, 112, 108, 101, 47, 103, 48, 49, 50, 52, 53, 47, 108, 97, 119, 115, 46, 70, 110, 69, 120, 97, 99, 116, 86, 97, 108, 117, 101, 79, 102, 83, 107, 101, 119, 32, 108, 111, 111, 112, 46, 101, 120, 97, 109, 112, 108, 101, 47, 103, 48, 49, 50, 52, 53, 47, 108, 97, 119, 115, 46, 70, 110, 69, 120, 97, 99, 116, 65, 100, 100, 65, 99, 116, 105, 111, 110, 115, 32, 108, 111, 111, 112, 46, 101, 120, 97, 109, 112, 108, 101, 47, 103, 48, 49, 50, 52, 53, 47, 108, 97, 119, 115, 46, 70, 110, 69, 120, 97, 99, 116, 65, 99, 116, 79, 110, 82, 101, 115, 105, 100, 117, 101, 32, 108, 111, 111, 112, 46, 101, 120, 97, 109, 112, 108, 101, 47, 103, 48, 49, 50, 52, 53, 47, 108, 97, 119, 115, 46, 70, 110, 69, 120, 97, 99, 116, 65, 110, 110, 105, 104, 105, 108, 97, 116, 111, 114, 79, 102, 32, 108, 111, 111, 112, 46, 101, 120, 97, 109, 112, 108, 101, 47, 103, 48, 49, 50, 52, 53, 47, 108, 97, 119, 115, 46, 70, 110, 69, 120, 97, 99, 116, 69, 120, 112, 111, 110, 101, 110, 116, 79, 102, 32, 108, 111, 111, 112, 46, 101, 120, 97, 109, 112, 108, 101, 47, 103, 48, 49, 50, 52, 53, 47, 108, 97, 119, 115, 46, 70, 110, 69, 120, 97, 99, 116, 84, 111, 114, 115, 105, 111, 110, 78, 117, 109, 98, 101, 114, 32, 108, 111, 111, 112, 46, 101, 120, 97, 109, 112, 108, 101, 47, 103, 48, 49, 50, 52, 53, 47, 108, 97, 119, 115, 46, 70, 110, 69, 120, 97, 99, 116, 68, 101, 101, 112, 82, 101, 115, 116, 32, 108, 111, 111, 112, 46, 101, 120, 97, 109, 112, 108, 101, 47, 103, 48, 49, 50, 52, 53, 47, 108, 97, 119, 115, 46, 70, 110, 69, 120, 97, 99, 116, 66, 114, 97, 99, 107, 101, 116, 79, 102, 32, 108, 111, 111, 112, 46, 101, 120, 97, 109, 112, 108, 101, 47, 103, 48, 49, 50, 52, 53, 47, 108, 97, 119, 115, 46, 70, 110, 69, 120, 97, 99, 116, 70, 105, 114, 115, 116, 70, 97, 99, 116, 111, 114, 105, 97, 108, 32, 108, 111, 111, 112, 46, 101, 120, 97, 109, 112, 108, 101, 47, 103, 48, 49, 50, 52, 53, 47, 108, 97, 119, 115, 46, 70, 110, 69, 120, 97, 99, 116, 83, 101, 99, 111, 110, 100, 70, 97, 99, 116, 111, 114, 105, 97, 108, 32, 108, 111, 111, 112, 46, 101, 120, 97, 109, 112, 108, 101, 47, 103, 48, 49, 50, 52, 53, 47, 108, 97, 119, 115, 46, 70, 110, 69, 120, 97, 99, 116, 65, 99, 116, 105, 111, 110, 79, 102, 32, 108, 111, 111, 112, 46, 101, 120, 97, 109, 112, 108, 101, 47, 103, 48, 49, 50, 52, 53, 47, 108, 97, 119, 115, 46, 70, 110, 69, 120, 97, 99, 116, 67, 111, 109, 112, 111, 115, 101, 65, 99, 116, 105, 111, 110, 115, 32, 108, 111, 111, 112, 46, 101, 120, 97, 109, 112, 108, 101, 47, 103, 48, 49, 50, 52, 53, 47, 108, 97, 119, 115, 46, 70, 110, 69, 120, 97, 99, 116, 66, 105, 110, 111, 109, 105, 97, 108, 79, 102, 32, 108, 111, 111, 112, 46, 101, 120, 97, 109, 112, 108, 101, 47, 103, 48, 49, 50, 52, 53, 47, 108, 97, 119, 115, 46, 70, 110, 69, 120, 97, 99, 116, 67, 97, 114, 108, 105, 116, 122, 70, 97, 99, 116, 111, 114, 105, 97, 108]
def initRest : List (List Nat) := [[97, 116], [108, 111, 111, 112, 46, 101, 120, 97, 109, 112, 108, 101, 47, 103, 48, 49, 50, 52, 53, 47, 108, 97, 119, 115, 46, 70, 110, 69, 120, 97, 99, 116, 80, 111, 119, 101, 114, 79, 102], [108, 111, 111, 112, 46, 101, 120, 97, 109, 112, 108, 101, 47, 103, 48, 49, 50, 52, 53, 47, 108, 97, 119, 115, 46, 70, 110, 69, 120, 97, 99, 116, 80, 114, 105, 109, 105, 116, 105, 118, 101, 79, 102], [108, 111, 111, 112, 46, 101, 120, 97, 109, 112, 108, 101, 47, 103, 48, 49, 50, 52, 53, 47, 108, 97, 119, 115, 46, 70, 110, 69, 120, 97, 99, 116, 73, 115, 83, 107, 101, 119], [108, 111, 111, 112, 46, 101, 120, 97, 109, 112, 108, 101, 47, 103, 48, 49, 50, 52, 53, 47, 108, 97, 119, 115, 46, 70, 110, 69, 120, 97, 99, 116, 83, 107, 101, 119, 68, 101, 103, 114, 101, 101], [108, 111, 111, 112, 46, 101, 120, 97, 109, 112, 108, 101, 47, 103, 48, 49, 50, 52, 53, 47, 108, 97, 119, 115, 46, 70, 110, 69, 120, 97, 99, 116, 65, 100, 100, 83, 107, 101, 119, 115], [108, 111, 111, 112, 46, 101, 120, 97, 109, 112, 108, 101, 47, 103, 48, 49, 50, 52, 53, 47, 108, 97, 119, 115, 46, 70, 110, 69, 120, 97, 99, 116, 77, 117, 108, 116, 105, 112, 108, 121, 83, 107, 101, 119, 115], [108, 111, 111, 112, 46, 101, 120, 97, 109, 112, 108, 101, 47, 103, 48, 49, 50, 52, 53, 47, 108, 97, 119, 115, 46, 70, 110, 69, 120, 97, 99, 116, 86, 97, 108, 117, 101, 79, 102, 83, 107, 101, 119], [108, 111, 111, 112, 46, 101, 120, 97, 109, 112, 108, 101, 47, 103, 48, 49, 50, 52, 53, 47, 108, 97, 119, 115, 46, 70, 110, 69, 120, 97, 99, 116, 65, 100, 100, 65, 99, 116, 105, 111, 110, 115], [108, 111, 111, 112, 46, 101, 120, 97, 109, 112, 108, 101, 47, 103, 48, 49, 50, 52, 53, 47, 108, 97, 119, 115, 46, 70, 110, 69, 120, 97, 99, 116, 65, 99, 116, 79, 110, 82, 101, 115, 105, 100, 117, 101], [108, 111, 111, 112, 46, 101, 120, 97, 109, 112, 108, 101, 47, 103, 48, 49, 50, 52, 53, 47, 108, 97, 119, 115, 46, 70, 110, 69, 120, 97, 99, 116, 65, 110, 110, 105, 104, 105, 108, 97, 116, 111, 114, 79, 102], [108, 111, 111, 112, 46, 101, 120, 97, 109, 112, 108, 101, 47, 103, 48, 49, 50, 52, 53, 47, 108, 97, 119, 115, 46, 70, 110, 69, 120, 97, 99, 116, 69, 120, 112, 111, 110, 101, 110, 116, 79, 102], [108, 111, 111, 112, 46, 101, 120, 97, 109, 112, 108, 101, 47, 103, 48, 49, 50, 52, 53, 47, 108, 97, 119, 115, 46, 70, 110, 69, 120, 97, 99, 116, 84, 111, 114, 115, 105, 111, 110, 78, 117, 109, 98, 101, 114], [108, 111, 111, 112, 46, 101, 120, 97, 109, 112, 108, 101, 47, 103, 48, 49, 50, 52, 53, 47, 108, 97, 119, 115, 46, 70, 110, 69, 120, 97, 99, 116, 68, 101, 101, 112, 82, 101, 115, 116], [108, 111, 111, 112, 46, 101, 120, 97, 109, 112, 108, 101, 47, 103, 48, 49, 50, 52, 53, 47, 108, 97, 119, 115, 46, 70, 110, 69, 120, 97, 99, 116, 66, 114, 97, 99, 107, 101, 116, 79, 102], [108, 111, 111, 112, 46, 101, 120, 97, 109, 112, 108, 101, 47, 103, 48, 49, 50, 52, 53, 47, 108, 97, 119, 115, 46, 70, 110, 69, 120, 97, 99, 116, 70, 105, 114, 115, 116, 70, 97, 99, 116, 111, 114, 105, 97, 108], [108, 111, 111, 112, 46, 101, 120, 97, 109, 112, 108, 101, 47, 103, 48, 49, 50, 52, 53, 47, 108, 97, 119, 115, 46, 70, 110, 69, 120, 97, 99, 116, 83, 101, 99, 111, 110, 100, 70, 97, 99, 116, 111, 114, 105, 97, 108], [108, 111, 111, 112, 46, 101, 120, 97, 109, 112, 108, 101, 47, 103, 48, 49, 50, 52, 53, 47, 108, 97, 119, 115, 46, 70, 110, 69, 120, 97, 99, 116, 65, 99, 116, 105, 111, 110, 79, 102], [108, 111, 111, 112, 46, 101, 120, 97, 109, 112, 108, 101, 47, 103, 48, 49, 50, 52, 53, 47, 108, 97, 119, 115, 46, 70, 110, 69, 120, 97, 99, 116, 67, 111, 109, 112, 111, 115, 101, 65, 99, 116, 105, 111, 110, 115], [108, 111, 111, 112, 46, 101, 120, 97, 109, 112, 108, 101, 47, 103, 48, 49, 50, 52, 53, 47, 108, 97, 119, 115, 46, 70, 110, 69, 120, 97, 99, 116, 66, 105, 110, 111, 109, 105, 97, 108, 79, 102], [108, 111, 111, 112, 46, 101, 120, 97, 109, 112, 108, 101, 47, 103, 48, 49, 50, 52, 53, 47, 108, 97, 119, 115, 46, 70, 110, 69, 120, 97, 99, 116, 67, 97, 114, 108, 105, 116, 122, 70, 97, 99, 116, 111, 114, 105, 97, 108]]
theorem init_split : behindMainWord (wordsSigns (initSigns.map Char.ofNat)) = cutW :: initRest.map (fun w => w.map Char.ofNat) := by kernel_rfl
theorem init_order : Try.prog.initOrder = String.ofList (initSigns.map Char.ofNat) := by kernel_rfl
theorem init_cut : behindMainWord (wordsSigns Try.prog.initOrder.toList) = cutW :: initRest.map (fun w => w.map Char.ofNat) :=
  (congrArg (fun s : String => behindMainWord (wordsSigns s.toList)) init_order).trans ((congrArg (fun l => behindMainWord (wordsSigns l)) String.toList_ofList).trans init_split)
theorem Try.laysLater : Try.prog.laysLater = false := by kernel_rfl
theorem Try.bearsReflect : Try.prog.bearsReflect = false := by kernel_rfl
theorem Try.doorFits : Try.prog.doorFits [] = true := by kernel_rfl
theorem Try.mayEnter : Try.pinned.checked.prog.mayEnter = true := mayEnter_cut init_cut Try.laysLater Try.bearsReflect Try.doorFits
theorem Try.liftsFinal : Try.pinned.checked.prog.liftsFinal = false := lifts_cut init_cut
theorem Try.make : Try.pinned.checked.prog.make = some .cut := make_cut init_cut
end Go.Proofs.Ytbjpkmbhbpcbgaa
end
section
namespace Go.Proofs.Ytbjpkmbhbpcbgaa
open Go.RowKit
set_option linter.unusedVariables false
set_option linter.unusedSimpArgs false
set_option maxRecDepth 100000 in
set_option maxHeartbeats 1600000 in
theorem FnExactFirstFactorial_walk (p : Int) (i : Int)  (w : World) :
    Calls Try.prog 17 #[.int .i64 p, .int .i64 i] w fun e w' => e = .returned (.bool true) ∧ Below w.heap.size w w' := by
  go_enter Try.func17, Try.ntmps17
  go_upto_region 1 with (fail)
  obtain ⟨wo, hwo⟩ : ∃ wo : World, wo = w := ⟨_, rfl⟩
  have hb : Below w.heap.size w wo := by subst hwo; exact (Below.refl _ _)
  rw [← hwo]
  clear hwo
  have ha : Below wo.heap.size wo wo := Below.refl _ _
  go_upto_region 2 with (first | (go_at_call 60; refine (acc (spec_FirstFactorial_any p i _) (by assumption)).mono ?_; rintro e w1z ⟨rfl, hz, ha⟩) | refine wpList_store_new rfl 23 _ _ rfl _ 23 64 ((opV 0 6 ffO p i).1) rfl rfl rfl Try.size23 ?_)
  have hb6 := Blk.new w1z 64 23 ((opV 0 6 ffO p i).1)
  have hS1 := ha.trans ((below_alloc' w1z (.cells (bcells 64 ((opV 0 6 ffO p i).1)) 23)).mono ha.size)
  clear ha
  obtain ⟨w1, hwx⟩ : ∃ v : World, v = w1z.alloc (.cells (bcells 64 ((opV 0 6 ffO p i).1)) 23) := ⟨_, rfl⟩
  rw [← hwx] at hb6 hS1 ⊢
  clear hwx
  obtain ⟨b6, hbi⟩ : ∃ b : Nat, b = w1z.heap.size := ⟨_, rfl⟩
  rw [← hbi] at hb6 ⊢
  clear hbi
  have ha : Below w1.heap.size w1 w1 := Below.refl _ _
  go_upto_region 3 with (first | (go_at_call 61; refine (acc (impl_FirstFactorial_any p i _) (by assumption)).mono ?_; rintro e w2z ⟨rfl, hz, ha⟩) | refine wpList_store_new rfl 23 _ _ rfl _ 23 64 ((opV 0 6 ffO p i).1) rfl rfl rfl Try.size23 ?_)
  have hq6 := Blk.new w2z 64 23 ((opV 0 6 ffO p i).1)
  have hS2 := ha.trans ((below_alloc' w2z (.cells (bcells 64 ((opV 0 6 ffO p i).1)) 23)).mono ha.size)
  clear ha
  obtain ⟨w2, hwx⟩ : ∃ v : World, v = w2z.alloc (.cells (bcells 64 ((opV 0 6 ffO p i).1)) 23) := ⟨_, rfl⟩
  rw [← hwx] at hq6 hS2 ⊢
  clear hwx
  obtain ⟨q6, hbi⟩ : ∃ b : Nat, b = w2z.heap.size := ⟨_, rfl⟩
  rw [← hbi] at hq6 ⊢
  clear hbi
  replace hb6 := hb6.below hS2 hb6.lt
  have ha : Below w2.heap.size w2 w2 := Below.refl _ _
  have hne : (((opV 0 6 ffO p i).2) != ((opV 0 6 ffO p i).2)) = false := by simp
  go_wp2_with (first | refine wpList_load_blk rfl 23 _ rfl _ rfl 64 23 _ (hq6.below (by assumption) hq6.lt) 5 Try.underlying23 Try.size23 ?_ | refine wpList_load_blk rfl 23 _ rfl _ rfl 64 23 _ (hb6.below (by assumption) hb6.lt) 5 Try.underlying23 Try.size23 ?_ | (go_at_call 26; refine (acc (eqPoly_same _ _ (fun _ _ => rfl) _) (by assumption)).mono ?_; rintro e w3 ⟨rfl, h3, ha⟩))
  go_ret
  exact ⟨rfl, hb.trans ((hS1.trans ((hS2.trans (ha.mono hS2.size)).mono hS1.size)).mono hb.size)⟩
end Go.Proofs.Ytbjpkmbhbpcbgaa
end
section
namespace Go.Proofs.Ytbjpkmbhbpcbgaa
open Go.RowKit
set_option linter.unusedVariables false
set_option linter.unusedSimpArgs false
set_option maxRecDepth 100000 in
set_option maxHeartbeats 1600000 in
theorem FnExactSecondFactorial_walk (p : Int) (i : Int)  (w : World) :
    Calls Try.prog 18 #[.int .i64 p, .int .i64 i] w fun e w' => e = .returned (.bool true) ∧ Below w.heap.size w w' := by
  go_enter Try.func18, Try.ntmps18
  go_upto_region 1 with (fail)
  obtain ⟨wo, hwo⟩ : ∃ wo : World, wo = w := ⟨_, rfl⟩
  have hb : Below w.heap.size w wo := by subst hwo; exact (Below.refl _ _)
  rw [← hwo]
  clear hwo
  have ha : Below wo.heap.size wo wo := Below.refl _ _
  go_upto_region 2 with (first | (go_at_call 62; refine (acc (spec_SecondFactorial_any p i _) (by assumption)).mono ?_; rintro e w1z ⟨rfl, hz, ha⟩) | refine wpList_store_new rfl 23 _ _ rfl _ 23 64 ((opV 0 6 sfO p i).1) rfl rfl rfl Try.size23 ?_)
  have hb6 := Blk.new w1z 64 23 ((opV 0 6 sfO p i).1)
  have hS1 := ha.trans ((below_alloc' w1z (.cells (bcells 64 ((opV 0 6 sfO p i).1)) 23)).mono ha.size)
  clear ha
  obtain ⟨w1, hwx⟩ : ∃ v : World, v = w1z.alloc (.cells (bcells 64 ((opV 0 6 sfO p i).1)) 23) := ⟨_, rfl⟩
  rw [← hwx] at hb6 hS1 ⊢
  clear hwx
  obtain ⟨b6, hbi⟩ : ∃ b : Nat, b = w1z.heap.size := ⟨_, rfl⟩
  rw [← hbi] at hb6 ⊢
  clear hbi
  have ha : Below w1.heap.size w1 w1 := Below.refl _ _
  go_upto_region 3 with (first | (go_at_call 63; refine (acc (impl_SecondFactorial_any p i _) (by assumption)).mono ?_; rintro e w2z ⟨rfl, hz, ha⟩) | refine wpList_store_new rfl 23 _ _ rfl _ 23 64 ((opV 0 6 sfO p i).1) rfl rfl rfl Try.size23 ?_)
  have hq6 := Blk.new w2z 64 23 ((opV 0 6 sfO p i).1)
  have hS2 := ha.trans ((below_alloc' w2z (.cells (bcells 64 ((opV 0 6 sfO p i).1)) 23)).mono ha.size)
  clear ha
  obtain ⟨w2, hwx⟩ : ∃ v : World, v = w2z.alloc (.cells (bcells 64 ((opV 0 6 sfO p i).1)) 23) := ⟨_, rfl⟩
  rw [← hwx] at hq6 hS2 ⊢
  clear hwx
  obtain ⟨q6, hbi⟩ : ∃ b : Nat, b = w2z.heap.size := ⟨_, rfl⟩
  rw [← hbi] at hq6 ⊢
  clear hbi
  replace hb6 := hb6.below hS2 hb6.lt
  have ha : Below w2.heap.size w2 w2 := Below.refl _ _
  have hne : (((opV 0 6 sfO p i).2) != ((opV 0 6 sfO p i).2)) = false := by simp
  go_wp2_with (first | refine wpList_load_blk rfl 23 _ rfl _ rfl 64 23 _ (hq6.below (by assumption) hq6.lt) 5 Try.underlying23 Try.size23 ?_ | refine wpList_load_blk rfl 23 _ rfl _ rfl 64 23 _ (hb6.below (by assumption) hb6.lt) 5 Try.underlying23 Try.size23 ?_ | (go_at_call 26; refine (acc (eqPoly_same _ _ (fun _ _ => rfl) _) (by assumption)).mono ?_; rintro e w3 ⟨rfl, h3, ha⟩))
  go_ret
  exact ⟨rfl, hb.trans ((hS1.trans ((hS2.trans (ha.mono hS2.size)).mono hS1.size)).mono hb.size)⟩
end Go.Proofs.Ytbjpkmbhbpcbgaa
end
section
namespace Go.Proofs.Ytbjpkmbhbpcbgaa
open Go Go.RowKit
set_option linter.unusedVariables false
set_option linter.unusedSimpArgs false
/-- multiplied c times -/
def cfS (p : Nat) (G : Option (Nat → Nat)) : Nat → (Nat → Nat) → Option (Nat → Nat)
  | 0, f => some f
  | c + 1, f => match G with
    | none => none
    | some g => if deg f + deg g ≤ 63 then cfS p G c (prd p f g) else none
theorem cfS_z (p : Nat) (G : Option (Nat → Nat)) (f : Nat → Nat) : cfS p G 0 f = some f := by unfold cfS; rfl
theorem cfS_none (p c : Nat) (f : Nat → Nat) : cfS p none (c + 1) f = none := by unfold cfS; rfl
theorem cfS_yes {p c : Nat} {f g : Nat → Nat} (h : deg f + deg g ≤ 63) : cfS p (some g) (c + 1) f = cfS p (some g) c (prd p f g) := by rw [cfS]; exact if_pos h
theorem cfS_no {p c : Nat} {f g : Nat → Nat} (h : ¬ deg f + deg g ≤ 63) : cfS p (some g) (c + 1) f = none := by rw [cfS]; exact if_neg h
/-- over the digits -/
def cfO (p : Nat) : Nat → Nat → Nat → (Nat → Nat) → Option (Nat → Nat)
  | 0, _, _, f => some f
  | fu + 1, i, n, f => if n = 0 then some f else match cfS p (fcR p i false i) (n % p) f with
    | none => none
    | some g => cfO p fu (i + 1) (n / p) g
theorem cfO_z (p fu i : Nat) (f : Nat → Nat) : cfO p fu i 0 f = some f := by cases fu <;> simp [cfO]
theorem cfO_none {p fu i n : Nat} {f : Nat → Nat} (h : 0 < n) (h2 : cfS p (fcR p i false i) (n % p) f = none) : cfO p (fu + 1) i n f = none := by rw [cfO, if_neg (by omega), h2]
theorem cfO_some {p fu i n : Nat} {f g : Nat → Nat} (h : 0 < n) (h2 : cfS p (fcR p i false i) (n % p) f = some g) : cfO p (fu + 1) i n f = cfO p fu (i + 1) (n / p) g := by rw [cfO, if_neg (by omega), h2]
def cfN (p n : Nat) : Option (Nat → Nat) := cfO p (n + 1) 0 n oneP
theorem smI_k {p i n N : Nat} (h1 : 2 ≤ p) (h0 : 0 < n) (h : n * p ^ i ≤ N) (hN : N ≤ 1000) : smI p i := by
  have h2 : p ^ i ≤ n * p ^ i := Nat.le_mul_of_pos_left _ h0
  refine ⟨?_, by omega⟩
  apply Classical.byContradiction
  intro hi
  have h3 : 2 ^ 20 ≤ 2 ^ i := Nat.pow_le_pow_right (by omega) (by omega)
  have h4 : 2 ^ i ≤ p ^ i := Nat.pow_le_pow_left h1 i
  have h5 : (1000 : Nat) < 2 ^ 20 := by decide
  omega
theorem cf_less {p i n N : Nat} (h1 : 2 ≤ p) (h : n * p ^ i ≤ N) : n / p * p ^ (i + 1) ≤ N := by
  have h2 : n / p * p ≤ n := Nat.div_mul_le_self n p
  have h3 : n / p * p * p ^ i ≤ n * p ^ i := Nat.mul_le_mul_right _ h2
  rw [Nat.pow_succ, Nat.mul_comm (p ^ i) p, ← Nat.mul_assoc]
  omega
attribute [local irreducible] deg strP rsV bkV fcR bkS prd addK TP oneP rgC opV cfS cfO cfN
set_option maxRecDepth 100000 in
set_option maxHeartbeats 1600000 in
theorem carlitzFact_ok (p N : Nat) (w : World) (p2 : 2 ≤ p) (p7 : p ≤ 7) (hN : N ≤ 1000) (F : Nat → Nat) (hO : cfN p N = some F) :
    Calls Try.prog 146 #[.int .i64 (p : Int), .int .i64 (N : Int)] w fun e w' => e = .returned (.agg (bcells 64 F)) ∧ Below w.heap.size w w' := by
  have HO := Lib.hid hO
  have HO0 := Lib.hid (show cfN p N = cfO p (N + 1) 0 N oneP by unfold cfN; rfl)
  have l1 : ∀ k, k < 64 → oneP k < p := fun k _ => by unfold oneP; split <;> omega
  have HL1 := Lib.hid l1
  clear hO l1
  go_enter Try.func146, Try.ntmps146
  go_upto_region 1 with (fail)
  rw [← zero64]
  obtain ⟨W1, hwo⟩ : ∃ v : World, v = (w.alloc (.cells (bcells 64 fun _ => 0) 23)) := ⟨_, rfl⟩
  have B0 : Blk W1 (w.heap.size) 64 23 (fun _ => 0) := by subst hwo; have := (Blk.new w 64 23 (fun _ => 0)); simpa using this
  have hb : Below w.heap.size w W1 := by subst hwo; exact ((Below.refl _ _).alloc (Nat.le_refl _) _)
  rw [← hwo]
  clear hwo
  have lt_B0 := B0.lt
  go_upto_region 2 with (first | rw [← zero64] | (refine wpList_build_of rfl 23 _ rfl (bcells 64 oneP) (by rw [Array.toList_map]; exact built_one) ?_) | (refine wpList_store_blk rfl 23 (.tmp 5) (.tmp 7) rfl _ 64 (oneP) rfl rfl 23 _ ((Blk.new W1 64 23 (fun _ => 0))) Try.size23 ?_; try simp only [Act.put]))
  have lt_B0 := B0.lt
  have lhb := hb.size
  have qB0 : Blk ((W1.alloc (.cells (bcells 64 fun _ => 0) 23)).setRow (W1.heap.size) (bcells 64 (oneP))) (w.heap.size) 64 23 (fun _ => 0) := ((B0.alloc (.cells (bcells 64 fun _ => 0) 23)).rowOther (by omega))
  have qB1 : Blk ((W1.alloc (.cells (bcells 64 fun _ => 0) 23)).setRow (W1.heap.size) (bcells 64 (oneP))) (W1.heap.size) 64 23 (oneP) := ((Blk.new W1 64 23 (fun _ => 0)).row (oneP))
  have qhb : Below w.heap.size w ((W1.alloc (.cells (bcells 64 fun _ => 0) 23)).setRow (W1.heap.size) (bcells 64 (oneP))) := (below_row (hb.alloc (by have := hb.size; simp; omega) (.cells (bcells 64 fun _ => 0) 23)) (by omega) _)
  obtain ⟨W2, hwo⟩ : ∃ v : World, v = ((W1.alloc (.cells (bcells 64 fun _ => 0) 23)).setRow (W1.heap.size) (bcells 64 (oneP))) := ⟨_, rfl⟩
  rw [← hwo] at qB0 qB1 qhb ⊢
  clear hwo
  clear B0 hb
  have B0 := qB0
  have B1 := qB1
  have hb := qhb
  clear qB0 qB1 qhb
  obtain ⟨N1, hNN⟩ : ∃ n : Nat, n = W1.heap.size := ⟨_, rfl⟩
  rw [← hNN] at lt_B0 lhb B1 ⊢
  clear hNN
  have zN1_0 := lt_B0
  have zN1 := lhb
  clear lt_B0 lhb
  try simp only [Act.put, List.setIfInBounds_toArray, List.set_cons_zero, List.set_cons_succ]
  go_wp2_with fail
  go_loopw [1, 6] (fun x y wr => ∃ (m i fu : Nat) (f : Nat → Nat), x = .int .i64 (m : Int) ∧ y = .int .i64 (i : Int) ∧ Hid (cfN p N = cfO p fu i m f) ∧ m < fu ∧ i + fu = N + 1 ∧ Hid (m * p ^ i ≤ N) ∧ Hid (∀ k, k < 64 → f k < p) ∧ Below w.heap.size w wr ∧ Blk wr (w.heap.size) 64 23 (fun _ => 0) ∧ Blk wr (N1) 64 23 f) (fun x _ _ => (intOf x).toNat)
  case atStart => exact ⟨N, 0, N + 1, _, rfl, rfl, HO0, by omega, by omega, Lib.hid (by rw [Nat.pow_zero, Nat.mul_one]; exact Nat.le_refl _), HL1, hb, B0, B1⟩
  case round =>
    clear hb B0 B1 HO0 HL1
    obtain ⟨m, i, fu, f, rfl, rfl, hf, hmf, hif, hpi, lf, hb, B0, B1⟩ := hrel
    by_cases hn : 0 < m
    · obtain ⟨fu, rfl⟩ : ∃ g, fu = g + 1 := ⟨fu - 1, by omega⟩
      have hsm := smI_k p2 hn hpi.out hN
      have hi20 := hsm.1
      have HIL := Lib.hid (cf_less p2 hpi.out)
      have tq1 : (m : Int).tmod (p : Int) = ((m % p : Nat) : Int) := by rw [Int.tmod_eq_emod_of_nonneg (by omega)]; rfl
      have tq2 : (m : Int).tdiv (p : Int) = ((m / p : Nat) : Int) := by rw [Int.tdiv_eq_ediv_of_nonneg (by omega)]; rfl
      have hm2 : m / p < m := Nat.div_lt_self hn (by omega)
      have hR7 : m % p < p := Nat.mod_lt _ (by omega)
      have HOn := Lib.hid (fun h => cfO_none (p := p) (fu := fu) (i := i) (n := m) (f := f) hn h)
      have HOs := Lib.hid (fun g h => cfO_some (p := p) (fu := fu) (i := i) (n := m) (f := f) (g := g) hn h)
      obtain ⟨R, hR⟩ : ∃ R, R = m % p := ⟨_, rfl⟩
      obtain ⟨m2, hM2⟩ : ∃ m2, m2 = m / p := ⟨_, rfl⟩
      rw [← hR] at tq1 hR7 HOn HOs
      rw [← hM2] at tq2 hm2 HIL HOs
      clear hR hM2
      have hmI : (m : Int) > 0 := by omega
      have hmI2 : (0 : Int) < (m : Int) := by omega
      obtain ⟨G, hG⟩ : ∃ G, G = fcR p i false i := ⟨_, rfl⟩
      have HG := Lib.hid hG
      rw [← hG] at HOn HOs
      clear hG
      go_wp2_with fail
      go_loopw [15] (fun y wr => ∃ (c d : Nat) (g : Nat → Nat), y = .int .i64 (c : Int) ∧ c + d = R ∧ Hid (cfS p G R f = cfS p G d g) ∧ Hid (∀ k, k < 64 → g k < p) ∧ Below w.heap.size w wr ∧ Blk wr (w.heap.size) 64 23 (fun _ => 0) ∧ Blk wr (N1) 64 23 g) (fun y _ => R - (intOf y).toNat)
      case atStart => exact ⟨0, R, f, rfl, by omega, Lib.hid rfl, lf, hb, B0, B1⟩
      case round =>
        clear hb B0 B1
        obtain ⟨c, d, g, rfl, hcd, hg, lg, hb, B0, B1⟩ := hrel
        by_cases hc : c < R
        · have hcI : (c : Int) < (R : Int) := by omega
          obtain ⟨d, rfl⟩ : ∃ e, d = e + 1 := ⟨d - 1, by omega⟩
          cases G with
          | none =>
            have HN := Lib.hid (show cfN p N = none by rw [hf.out]; exact HOn.out (by rw [hg.out, cfS_none]))
            exfalso
            have h1 := HN.out
            rw [HO.out] at h1
            cases h1
          | some q =>
            have lq : ∀ k, k < 64 → q k < p := fcR_lt p2 i q HG.out.symm
            have HLQ := Lib.hid lq
            clear lq
            have HFF := Lib.hid (fun W => firstFact_ok p i W p2 p7 hsm q HG.out.symm)
            by_cases hd : deg g + deg q ≤ 63
            · have HN := Lib.hid (show cfS p (some q) R f = cfS p (some q) d (prd p g q) by rw [hg.out, cfS_yes hd])
              have HBD := Lib.hid (fun W => bounded_ok p g q W p2 p7 lg.out HLQ.out hd)
              clear hd
              go_upto_region 7 with (fail)
              have lt_B0 : (w.heap.size) < wr.heap.size := B0.lt
              have lt_B1 : (N1) < wr.heap.size := B1.lt
              have hbase : w.heap.size ≤ wr.heap.size := hb.size
              refine wp_region_steps0 Try.mixed (by kernel_rfl) (by kernel_rfl) (fun v => by (simp only [frL, Act.put, List.setIfInBounds_toArray, List.set_cons_zero, List.set_cons_succ, Nat.reduceAdd, Nat.zero_add]; exact rfl))
                (fun L v W3 => Below w.heap.size w W3 ∧ wr.heap.size ≤ W3.heap.size ∧ Blk W3 (w.heap.size) 64 23 (fun _ => 0) ∧ (∃ g, Blk W3 (N1) 64 23 (g)) ∧ (L 6 = false → Blk W3 (N1) 64 23 (g)) ∧ (L 6 = true → Blk W3 (N1) 64 23 (prd p g q)) ∧ (L 0 = true → v 0 = (.int .i64 (p : Int))) ∧ (L 1 = true → v 1 = (.agg (bcells 64 (g)))) ∧ (L 2 = true → v 2 = (.int .i64 (p : Int))) ∧ (L 3 = true → v 3 = (.int .i64 (i : Int))) ∧ (L 4 = true → v 4 = (.agg (bcells 64 (q)))) ∧ (L 5 = true → v 5 = (.agg (bcells 64 (prd p g q))))) ?_ ?_ ?_
              · intro v hv0
                exact ⟨hb.drew, Nat.le_refl _, B0.drew, ⟨_, B1.drew⟩, (fun _ => B1.drew), (fun h => by cases h), (fun h => by cases h), (fun h => by cases h), (fun h => by cases h), (fun h => by cases h), (fun h => by cases h), (fun h => by cases h)⟩
              · refine (.cons rfl ?_ (.cons rfl ?_ (.cons rfl ?_ (.cons rfl ?_ (.cons rfl ?_ (.cons rfl ?_ (.cons rfl ?_ (.nil _))))))))
                · intro L v W3 hd hn ⟨hB, hz, s0, x1, q1, n1, h0, h1, h2, h3, h4, h5⟩ K hK
                  go_wp2_with fail
                  exact hK _ (.int .i64 (p : Int)) _ (by simp only [Act.put, List.setIfInBounds_toArray, List.set_cons_zero, List.set_cons_succ ]) ⟨hB, hz, s0, x1, q1, n1, (fun _ => rfl), h1, h2, h3, h4, h5⟩
                · intro L v W3 hd hn ⟨hB, hz, s0, x1, q1, n1, h0, h1, h2, h3, h4, h5⟩ K hK
                  have s1 := q1 (by
                    cases hL : L 6 with
                    | false => rfl
                    | true => exact absurd rfl (hn 6 _ rfl hL ⟨1, .phase⟩ (by simp) rfl))
                  refine wp_load_any 23 _ rfl _ rfl 64 23 _ s1 _ Try.underlying23 rfl Try.size23 ?_
                  exact hK _ _ _ rfl ⟨hB, hz, s0, x1, q1, n1, h0, (fun _ => rfl), h2, h3, h4, h5⟩
                · intro L v W3 hd hn ⟨hB, hz, s0, x1, q1, n1, h0, h1, h2, h3, h4, h5⟩ K hK
                  go_wp2_with fail
                  exact hK _ (.int .i64 (p : Int)) _ (by simp only [Act.put, List.setIfInBounds_toArray, List.set_cons_zero, List.set_cons_succ ]) ⟨hB, hz, s0, x1, q1, n1, h0, h1, (fun _ => rfl), h3, h4, h5⟩
                · intro L v W3 hd hn ⟨hB, hz, s0, x1, q1, n1, h0, h1, h2, h3, h4, h5⟩ K hK
                  go_wp2_with fail
                  exact hK _ (.int .i64 (i : Int)) _ (by simp only [Act.put, List.setIfInBounds_toArray, List.set_cons_zero, List.set_cons_succ ]) ⟨hB, hz, s0, x1, q1, n1, h0, h1, h2, (fun _ => rfl), h4, h5⟩
                · intro L v W3 hd hn ⟨hB, hz, s0, x1, q1, n1, h0, h1, h2, h3, h4, h5⟩ K hK
                  have e2 := h2 (hd ⟨2, .data⟩ (by simp) rfl)
                  have e3 := h3 (hd ⟨3, .data⟩ (by simp) rfl)
                  go_wp2_with (go_at_call 134; refine (HFF.out _).mono ?_; rintro e wy ⟨rfl, hy⟩)
                  exact hK _ (.agg (bcells 64 (q))) _ (by simp only [Act.put, List.setIfInBounds_toArray, List.set_cons_zero, List.set_cons_succ, e2, e3]) ⟨hB.trans (hy.mono hB.size), (Nat.le_trans hz hy.size), (s0).below hy (s0).lt, (let ⟨g, h⟩ := x1; ⟨g, (h).below hy (h).lt⟩), (fun h => (q1 h).below hy (q1 h).lt), (fun h => (n1 h).below hy (n1 h).lt), h0, h1, h2, h3, (fun _ => rfl), h5⟩
                · intro L v W3 hd hn ⟨hB, hz, s0, x1, q1, n1, h0, h1, h2, h3, h4, h5⟩ K hK
                  have e0 := h0 (hd ⟨0, .data⟩ (by simp) rfl)
                  have e1 := h1 (hd ⟨1, .data⟩ (by simp) rfl)
                  have e4 := h4 (hd ⟨4, .data⟩ (by simp) rfl)
                  go_wp2_with (go_at_call 177; refine (HBD.out _).mono ?_; rintro e wy ⟨rfl, hy⟩)
                  exact hK _ (.agg (bcells 64 (prd p g q))) _ (by simp only [Act.put, List.setIfInBounds_toArray, List.set_cons_zero, List.set_cons_succ, e0, e1, e4]) ⟨hB.trans (hy.mono hB.size), (Nat.le_trans hz hy.size), (s0).below hy (s0).lt, (let ⟨g, h⟩ := x1; ⟨g, (h).below hy (h).lt⟩), (fun h => (q1 h).below hy (q1 h).lt), (fun h => (n1 h).below hy (n1 h).lt), h0, h1, h2, h3, h4, (fun _ => rfl)⟩
                · intro L v W3 hd hn ⟨hB, hz, s0, x1, q1, n1, h0, h1, h2, h3, h4, h5⟩ K hK
                  have e5 := h5 (hd ⟨5, .data⟩ (by simp) rfl)
                  obtain ⟨gz, hk⟩ := x1
                  refine wp_store_blk 23 _ _ rfl _ 64 (prd p g q) rfl e5 23 gz hk Try.size23 ?_
                  exact hK _ undef _ rfl ⟨below_row hB (by omega) _, (by simpa [World.setRow] using hz), (s0).rowOther (by omega), ⟨_, hk.row _⟩, (fun h => absurd h (by simp [setL])), (fun _ => hk.row _), h0, h1, h2, h3, h4, h5⟩
              · intro L v W3 hL ⟨hB, hz, s0, x1, q1, n1, h0, h1, h2, h3, h4, h5⟩
                have r1 := n1 (hL 6 (by decide))
                have e0 := h0 (hL 0 (by decide))
                have e1 := h1 (hL 1 (by decide))
                have e2 := h2 (hL 2 (by decide))
                have e3 := h3 (hL 3 (by decide))
                have e4 := h4 (hL 4 (by decide))
                have e5 := h5 (hL 5 (by decide))
                clear hL x1 q1 n1 h0 h1 h2 h3 h4 h5
                simp only [Exit.then, e0, e1, e2, e3, e4, e5]
                clear e0 e1 e2 e3 e4 e5
                clear B0
                have B0 := s0
                clear s0
                clear B1
                have B1 := r1
                clear r1
                clear hb
                have hb := hB
                clear hB
                clear hbase hz lt_B0 lt_B1
                go_wp2_with fail
                go_roundw
                case rel => exact ⟨c + 1, d, _, by go_num, by omega, HN, Lib.hid (fun k _ => prd_lt (by omega) k), hb, B0, B1⟩
                case measure => simp [intOf] <;> omega
            · have HN := Lib.hid (show cfN p N = none by rw [hf.out]; exact HOn.out (by rw [hg.out, cfS_no hd]))
              exfalso
              have h1 := HN.out
              rw [HO.out] at h1
              cases h1
        · have hcI : ¬ (c : Int) < (R : Int) := by omega
          obtain rfl : d = 0 := by omega
          have HN := Lib.hid (show cfN p N = cfO p fu (i + 1) m2 g by rw [hf.out]; exact HOs.out g (by rw [hg.out, cfS_z]))
          go_wp2_with fail
          go_roundw
          case rel => exact ⟨m2, i + 1, fu, g, rfl, by go_num, HN, by omega, by omega, HIL, lg, hb, B0, B1⟩
          case measure => simp [intOf] <;> omega
    · obtain rfl : m = 0 := by omega
      have HN := Lib.hid (show cfN p N = some f by rw [hf.out, cfO_z])
      have hmI : ¬ (((0 : Nat) : Int) > 0) := by omega
      have hfF : f = F := by have h1 := HN.out; rw [HO.out] at h1; injection h1 with h1; exact h1.symm
      rw [hfF] at B1
      clear hfF
      go_upto_region 10 with (fail)
      have lt_B0 := B0.lt
      have lt_B1 := B1.lt
      go_wp2_with (first | rw [← zero64] | (refine wpList_load_any rfl 23 (.tmp 5) rfl _ rfl 64 23 _ (B1) _ Try.underlying23 rfl Try.size23 ?_) | (refine wpList_store_blk rfl 23 (.tmp 4) (.tmp 27) rfl _ 64 (F) rfl rfl 23 _ (B0) Try.size23 ?_; try simp only [Act.put]))
      have qB0 : Blk (wr.setRow (w.heap.size) (bcells 64 (F))) (w.heap.size) 64 23 (F) := (B0.row (F))
      have qB1 : Blk (wr.setRow (w.heap.size) (bcells 64 (F))) (N1) 64 23 (F) := (B1.rowOther (by omega))
      have qhb : Below w.heap.size w (wr.setRow (w.heap.size) (bcells 64 (F))) := (below_row hb (by omega) _)
      obtain ⟨W3, hwo⟩ : ∃ v : World, v = (wr.setRow (w.heap.size) (bcells 64 (F))) := ⟨_, rfl⟩
      rw [← hwo] at qB0 qB1 qhb ⊢
      clear hwo
      clear B0 B1 hb
      have B0 := qB0
      have B1 := qB1
      have hb := qhb
      clear qB0 qB1 qhb
      try simp only [Act.put, List.setIfInBounds_toArray, List.set_cons_zero, List.set_cons_succ]
      refine bodyPost_ret (results_blk rfl _ _ _ 64 23 5 _ rfl B0 Try.underlying23 Try.size23) rfl ⟨rfl, hb⟩
set_option maxRecDepth 100000 in
set_option maxHeartbeats 1600000 in
theorem carlitzFact_no (p N : Nat) (w : World) (p2 : 2 ≤ p) (p7 : p ≤ 7) (hN : N ≤ 1000) (hO : cfN p N = none) :
    Calls Try.prog 146 #[.int .i64 (p : Int), .int .i64 (N : Int)] w fun e w' => e = .panicked [{ v := .iface 138 (.int .i64 3), recovered := false }] ∧ Below w.heap.size w w' := by
  have HO := Lib.hid hO
  have HO0 := Lib.hid (show cfN p N = cfO p (N + 1) 0 N oneP by unfold cfN; rfl)
  have l1 : ∀ k, k < 64 → oneP k < p := fun k _ => by unfold oneP; split <;> omega
  have HL1 := Lib.hid l1
  clear hO l1
  go_enter Try.func146, Try.ntmps146
  go_upto_region 1 with (fail)
  rw [← zero64]
  obtain ⟨W1, hwo⟩ : ∃ v : World, v = (w.alloc (.cells (bcells 64 fun _ => 0) 23)) := ⟨_, rfl⟩
  have B0 : Blk W1 (w.heap.size) 64 23 (fun _ => 0) := by subst hwo; have := (Blk.new w 64 23 (fun _ => 0)); simpa using this
  have hb : Below w.heap.size w W1 := by subst hwo; exact ((Below.refl _ _).alloc (Nat.le_refl _) _)
  rw [← hwo]
  clear hwo
  have lt_B0 := B0.lt
  go_upto_region 2 with (first | rw [← zero64] | (refine wpList_build_of rfl 23 _ rfl (bcells 64 oneP) (by rw [Array.toList_map]; exact built_one) ?_) | (refine wpList_store_blk rfl 23 (.tmp 5) (.tmp 7) rfl _ 64 (oneP) rfl rfl 23 _ ((Blk.new W1 64 23 (fun _ => 0))) Try.size23 ?_; try simp only [Act.put]))
  have lt_B0 := B0.lt
  have lhb := hb.size
  have qB0 : Blk ((W1.alloc (.cells (bcells 64 fun _ => 0) 23)).setRow (W1.heap.size) (bcells 64 (oneP))) (w.heap.size) 64 23 (fun _ => 0) := ((B0.alloc (.cells (bcells 64 fun _ => 0) 23)).rowOther (by omega))
  have qB1 : Blk ((W1.alloc (.cells (bcells 64 fun _ => 0) 23)).setRow (W1.heap.size) (bcells 64 (oneP))) (W1.heap.size) 64 23 (oneP) := ((Blk.new W1 64 23 (fun _ => 0)).row (oneP))
  have qhb : Below w.heap.size w ((W1.alloc (.cells (bcells 64 fun _ => 0) 23)).setRow (W1.heap.size) (bcells 64 (oneP))) := (below_row (hb.alloc (by have := hb.size; simp; omega) (.cells (bcells 64 fun _ => 0) 23)) (by omega) _)
  obtain ⟨W2, hwo⟩ : ∃ v : World, v = ((W1.alloc (.cells (bcells 64 fun _ => 0) 23)).setRow (W1.heap.size) (bcells 64 (oneP))) := ⟨_, rfl⟩
  rw [← hwo] at qB0 qB1 qhb ⊢
  clear hwo
  clear B0 hb
  have B0 := qB0
  have B1 := qB1
  have hb := qhb
  clear qB0 qB1 qhb
  obtain ⟨N1, hNN⟩ : ∃ n : Nat, n = W1.heap.size := ⟨_, rfl⟩
  rw [← hNN] at lt_B0 lhb B1 ⊢
  clear hNN
  have zN1_0 := lt_B0
  have zN1 := lhb
  clear lt_B0 lhb
  try simp only [Act.put, List.setIfInBounds_toArray, List.set_cons_zero, List.set_cons_succ]
  go_wp2_with fail
  go_loopw [1, 6] (fun x y wr => ∃ (m i fu : Nat) (f : Nat → Nat), x = .int .i64 (m : Int) ∧ y = .int .i64 (i : Int) ∧ Hid (cfN p N = cfO p fu i m f) ∧ m < fu ∧ i + fu = N + 1 ∧ Hid (m * p ^ i ≤ N) ∧ Hid (∀ k, k < 64 → f k < p) ∧ Below w.heap.size w wr ∧ Blk wr (w.heap.size) 64 23 (fun _ => 0) ∧ Blk wr (N1) 64 23 f) (fun x _ _ => (intOf x).toNat)
  case atStart => exact ⟨N, 0, N + 1, _, rfl, rfl, HO0, by omega, by omega, Lib.hid (by rw [Nat.pow_zero, Nat.mul_one]; exact Nat.le_refl _), HL1, hb, B0, B1⟩
  case round =>
    clear hb B0 B1 HO0 HL1
    obtain ⟨m, i, fu, f, rfl, rfl, hf, hmf, hif, hpi, lf, hb, B0, B1⟩ := hrel
    by_cases hn : 0 < m
    · obtain ⟨fu, rfl⟩ : ∃ g, fu = g + 1 := ⟨fu - 1, by omega⟩
      have hsm := smI_k p2 hn hpi.out hN
      have hi20 := hsm.1
      have HIL := Lib.hid (cf_less p2 hpi.out)
      have tq1 : (m : Int).tmod (p : Int) = ((m % p : Nat) : Int) := by rw [Int.tmod_eq_emod_of_nonneg (by omega)]; rfl
      have tq2 : (m : Int).tdiv (p : Int) = ((m / p : Nat) : Int) := by rw [Int.tdiv_eq_ediv_of_nonneg (by omega)]; rfl
      have hm2 : m / p < m := Nat.div_lt_self hn (by omega)
      have hR7 : m % p < p := Nat.mod_lt _ (by omega)
      have HOn := Lib.hid (fun h => cfO_none (p := p) (fu := fu) (i := i) (n := m) (f := f) hn h)
      have HOs := Lib.hid (fun g h => cfO_some (p := p) (fu := fu) (i := i) (n := m) (f := f) (g := g) hn h)
      obtain ⟨R, hR⟩ : ∃ R, R = m % p := ⟨_, rfl⟩
      obtain ⟨m2, hM2⟩ : ∃ m2, m2 = m / p := ⟨_, rfl⟩
      rw [← hR] at tq1 hR7 HOn HOs
      rw [← hM2] at tq2 hm2 HIL HOs
      clear hR hM2
      have hmI : (m : Int) > 0 := by omega
      have hmI2 : (0 : Int) < (m : Int) := by omega
      obtain ⟨G, hG⟩ : ∃ G, G = fcR p i false i := ⟨_, rfl⟩
      have HG := Lib.hid hG
      rw [← hG] at HOn HOs
      clear hG
      go_wp2_with fail
      go_loopw [15] (fun y wr => ∃ (c d : Nat) (g : Nat → Nat), y = .int .i64 (c : Int) ∧ c + d = R ∧ Hid (cfS p G R f = cfS p G d g) ∧ Hid (∀ k, k < 64 → g k < p) ∧ Below w.heap.size w wr ∧ Blk wr (w.heap.size) 64 23 (fun _ => 0) ∧ Blk wr (N1) 64 23 g) (fun y _ => R - (intOf y).toNat)
      case atStart => exact ⟨0, R, f, rfl, by omega, Lib.hid rfl, lf, hb, B0, B1⟩
      case round =>
        clear hb B0 B1
        obtain ⟨c, d, g, rfl, hcd, hg, lg, hb, B0, B1⟩ := hrel
        by_cases hc : c < R
        · have hcI : (c : Int) < (R : Int) := by omega
          obtain ⟨d, rfl⟩ : ∃ e, d = e + 1 := ⟨d - 1, by omega⟩
          cases G with
          | none =>
            have HN := Lib.hid (show cfN p N = none by rw [hf.out]; exact HOn.out (by rw [hg.out, cfS_none]))
            have HFF := Lib.hid (fun W => firstFact_no p i W p2 p7 hsm HG.out.symm)
            go_upto_region 7 with (fail)
            have lt_B0 : (w.heap.size) < wr.heap.size := B0.lt
            have lt_B1 : (N1) < wr.heap.size := B1.lt
            have hbase : w.heap.size ≤ wr.heap.size := hb.size
            refine wp_region_steps0 Try.mixed (by kernel_rfl) (by kernel_rfl) (fun v => by (simp only [frL, Act.put, List.setIfInBounds_toArray, List.set_cons_zero, List.set_cons_succ, Nat.reduceAdd, Nat.zero_add]; exact rfl))
              (fun L v W3 => Below w.heap.size w W3 ∧ wr.heap.size ≤ W3.heap.size ∧ Blk W3 (w.heap.size) 64 23 (fun _ => 0) ∧ (∃ g, Blk W3 (N1) 64 23 (g)) ∧ (L 6 = false → Blk W3 (N1) 64 23 (g)) ∧ (L 6 = true → Blk W3 (N1) 64 23 (g)) ∧ (L 0 = true → v 0 = (.int .i64 (p : Int))) ∧ (L 1 = true → v 1 = (.agg (bcells 64 (g)))) ∧ (L 2 = true → v 2 = (.int .i64 (p : Int))) ∧ (L 3 = true → v 3 = (.int .i64 (i : Int))) ∧ (L 4 = true → False) ∧ (L 5 = true → v 5 = (.agg (bcells 64 (g))))) ?_ ?_ ?_
            · intro v hv0
              exact ⟨hb.drew, Nat.le_refl _, B0.drew, ⟨_, B1.drew⟩, (fun _ => B1.drew), (fun h => by cases h), (fun h => by cases h), (fun h => by cases h), (fun h => by cases h), (fun h => by cases h), (fun h => by cases h), (fun h => by cases h)⟩
            · refine (.cons rfl ?_ (.cons rfl ?_ (.cons rfl ?_ (.cons rfl ?_ (.cons rfl ?_ (.cons rfl ?_ (.cons rfl ?_ (.nil _))))))))
              · intro L v W3 hd hn ⟨hB, hz, s0, x1, q1, n1, h0, h1, h2, h3, h4, h5⟩ K hK
                go_wp2_with fail
                exact hK _ (.int .i64 (p : Int)) _ (by simp only [Act.put, List.setIfInBounds_toArray, List.set_cons_zero, List.set_cons_succ ]) ⟨hB, hz, s0, x1, q1, n1, (fun _ => rfl), h1, h2, h3, h4, h5⟩
              · intro L v W3 hd hn ⟨hB, hz, s0, x1, q1, n1, h0, h1, h2, h3, h4, h5⟩ K hK
                have s1 := q1 (by
                  cases hL : L 6 with
                  | false => rfl
                  | true => exact absurd rfl (hn 6 _ rfl hL ⟨1, .phase⟩ (by simp) rfl))
                refine wp_load_any 23 _ rfl _ rfl 64 23 _ s1 _ Try.underlying23 rfl Try.size23 ?_
                exact hK _ _ _ rfl ⟨hB, hz, s0, x1, q1, n1, h0, (fun _ => rfl), h2, h3, h4, h5⟩
              · intro L v W3 hd hn ⟨hB, hz, s0, x1, q1, n1, h0, h1, h2, h3, h4, h5⟩ K hK
                go_wp2_with fail
                exact hK _ (.int .i64 (p : Int)) _ (by simp only [Act.put, List.setIfInBounds_toArray, List.set_cons_zero, List.set_cons_succ ]) ⟨hB, hz, s0, x1, q1, n1, h0, h1, (fun _ => rfl), h3, h4, h5⟩
              · intro L v W3 hd hn ⟨hB, hz, s0, x1, q1, n1, h0, h1, h2, h3, h4, h5⟩ K hK
                go_wp2_with fail
                exact hK _ (.int .i64 (i : Int)) _ (by simp only [Act.put, List.setIfInBounds_toArray, List.set_cons_zero, List.set_cons_succ ]) ⟨hB, hz, s0, x1, q1, n1, h0, h1, h2, (fun _ => rfl), h4, h5⟩
              · intro L v W3 hd hn ⟨hB, hz, s0, x1, q1, n1, h0, h1, h2, h3, h4, h5⟩ K hK
                have e2 := h2 (hd ⟨2, .data⟩ (by simp) rfl)
                have e3 := h3 (hd ⟨3, .data⟩ (by simp) rfl)
                go_wp2_with (go_at_call 134; refine (HFF.out _).mono ?_; rintro e wy ⟨rfl, hy⟩)
                first | exact ⟨rfl, rfl, hB.trans (hy.mono hB.size)⟩ | (go_wp2_with fail; exact ⟨rfl, rfl, hB.trans (hy.mono hB.size)⟩)
              · intro L v W3 hd hn ⟨hB, hz, s0, x1, q1, n1, h0, h1, h2, h3, h4, h5⟩ K hK
                exact (h4 (hd ⟨4, .data⟩ (by simp) rfl)).elim
              · intro L v W3 hd hn ⟨hB, hz, s0, x1, q1, n1, h0, h1, h2, h3, h4, h5⟩ K hK
                exact (h4 (hd ⟨4, .phase⟩ (by simp) rfl)).elim
            · intro L v W3 hL ⟨hB, hz, s0, x1, q1, n1, h0, h1, h2, h3, h4, h5⟩
              exact (h4 (hL 4 (by decide))).elim
          | some q =>
            have lq : ∀ k, k < 64 → q k < p := fcR_lt p2 i q HG.out.symm
            have HLQ := Lib.hid lq
            clear lq
            have HFF := Lib.hid (fun W => firstFact_ok p i W p2 p7 hsm q HG.out.symm)
            by_cases hd : deg g + deg q ≤ 63
            · have HN := Lib.hid (show cfS p (some q) R f = cfS p (some q) d (prd p g q) by rw [hg.out, cfS_yes hd])
              have HBD := Lib.hid (fun W => bounded_ok p g q W p2 p7 lg.out HLQ.out hd)
              clear hd
              go_upto_region 7 with (fail)
              have lt_B0 : (w.heap.size) < wr.heap.size := B0.lt
              have lt_B1 : (N1) < wr.heap.size := B1.lt
              have hbase : w.heap.size ≤ wr.heap.size := hb.size
              refine wp_region_steps0 Try.mixed (by kernel_rfl) (by kernel_rfl) (fun v => by (simp only [frL, Act.put, List.setIfInBounds_toArray, List.set_cons_zero, List.set_cons_succ, Nat.reduceAdd, Nat.zero_add]; exact rfl))
                (fun L v W3 => Below w.heap.size w W3 ∧ wr.heap.size ≤ W3.heap.size ∧ Blk W3 (w.heap.size) 64 23 (fun _ => 0) ∧ (∃ g, Blk W3 (N1) 64 23 (g)) ∧ (L 6 = false → Blk W3 (N1) 64 23 (g)) ∧ (L 6 = true → Blk W3 (N1) 64 23 (prd p g q)) ∧ (L 0 = true → v 0 = (.int .i64 (p : Int))) ∧ (L 1 = true → v 1 = (.agg (bcells 64 (g)))) ∧ (L 2 = true → v 2 = (.int .i64 (p : Int))) ∧ (L 3 = true → v 3 = (.int .i64 (i : Int))) ∧ (L 4 = true → v 4 = (.agg (bcells 64 (q)))) ∧ (L 5 = true → v 5 = (.agg (bcells 64 (prd p g q))))) ?_ ?_ ?_
              · intro v hv0
                exact ⟨hb.drew, Nat.le_refl _, B0.drew, ⟨_, B1.drew⟩, (fun _ => B1.drew), (fun h => by cases h), (fun h => by cases h), (fun h => by cases h), (fun h => by cases h), (fun h => by cases h), (fun h => by cases h), (fun h => by cases h)⟩
              · refine (.cons rfl ?_ (.cons rfl ?_ (.cons rfl ?_ (.cons rfl ?_ (.cons rfl ?_ (.cons rfl ?_ (.cons rfl ?_ (.nil _))))))))
                · intro L v W3 hd hn ⟨hB, hz, s0, x1, q1, n1, h0, h1, h2, h3, h4, h5⟩ K hK
                  go_wp2_with fail
                  exact hK _ (.int .i64 (p : Int)) _ (by simp only [Act.put, List.setIfInBounds_toArray, List.set_cons_zero, List.set_cons_succ ]) ⟨hB, hz, s0, x1, q1, n1, (fun _ => rfl), h1, h2, h3, h4, h5⟩
                · intro L v W3 hd hn ⟨hB, hz, s0, x1, q1, n1, h0, h1, h2, h3, h4, h5⟩ K hK
                  have s1 := q1 (by
                    cases hL : L 6 with
                    | false => rfl
                    | true => exact absurd rfl (hn 6 _ rfl hL ⟨1, .phase⟩ (by simp) rfl))
                  refine wp_load_any 23 _ rfl _ rfl 64 23 _ s1 _ Try.underlying23 rfl Try.size23 ?_
                  exact hK _ _ _ rfl ⟨hB, hz, s0, x1, q1, n1, h0, (fun _ => rfl), h2, h3, h4, h5⟩
                · intro L v W3 hd hn ⟨hB, hz, s0, x1, q1, n1, h0, h1, h2, h3, h4, h5⟩ K hK
                  go_wp2_with fail
                  exact hK _ (.int .i64 (p : Int)) _ (by simp only [Act.put, List.setIfInBounds_toArray, List.set_cons_zero, List.set_cons_succ ]) ⟨hB, hz, s0, x1, q1, n1, h0, h1, (fun _ => rfl), h3, h4, h5⟩
                · intro L v W3 hd hn ⟨hB, hz, s0, x1, q1, n1, h0, h1, h2, h3, h4, h5⟩ K hK
                  go_wp2_with fail
                  exact hK _ (.int .i64 (i : Int)) _ (by simp only [Act.put, List.setIfInBounds_toArray, List.set_cons_zero, List.set_cons_succ ]) ⟨hB, hz, s0, x1, q1, n1, h0, h1, h2, (fun _ => rfl), h4, h5⟩
                · intro L v W3 hd hn ⟨hB, hz, s0, x1, q1, n1, h0, h1, h2, h3, h4, h5⟩ K hK
                  have e2 := h2 (hd ⟨2, .data⟩ (by simp) rfl)
                  have e3 := h3 (hd ⟨3, .data⟩ (by simp) rfl)
                  go_wp2_with (go_at_call 134; refine (HFF.out _).mono ?_; rintro e wy ⟨rfl, hy⟩)
                  exact hK _ (.agg (bcells 64 (q))) _ (by simp only [Act.put, List.setIfInBounds_toArray, List.set_cons_zero, List.set_cons_succ, e2, e3]) ⟨hB.trans (hy.mono hB.size), (Nat.le_trans hz hy.size), (s0).below hy (s0).lt, (let ⟨g, h⟩ := x1; ⟨g, (h).below hy (h).lt⟩), (fun h => (q1 h).below hy (q1 h).lt), (fun h => (n1 h).below hy (n1 h).lt), h0, h1, h2, h3, (fun _ => rfl), h5⟩
                · intro L v W3 hd hn ⟨hB, hz, s0, x1, q1, n1, h0, h1, h2, h3, h4, h5⟩ K hK
                  have e0 := h0 (hd ⟨0, .data⟩ (by simp) rfl)
                  have e1 := h1 (hd ⟨1, .data⟩ (by simp) rfl)
                  have e4 := h4 (hd ⟨4, .data⟩ (by simp) rfl)
                  go_wp2_with (go_at_call 177; refine (HBD.out _).mono ?_; rintro e wy ⟨rfl, hy⟩)
                  exact hK _ (.agg (bcells 64 (prd p g q))) _ (by simp only [Act.put, List.setIfInBounds_toArray, List.set_cons_zero, List.set_cons_succ, e0, e1, e4]) ⟨hB.trans (hy.mono hB.size), (Nat.le_trans hz hy.size), (s0).below hy (s0).lt, (let ⟨g, h⟩ := x1; ⟨g, (h).below hy (h).lt⟩), (fun h => (q1 h).below hy (q1 h).lt), (fun h => (n1 h).below hy (n1 h).lt), h0, h1, h2, h3, h4, (fun _ => rfl)⟩
                · intro L v W3 hd hn ⟨hB, hz, s0, x1, q1, n1, h0, h1, h2, h3, h4, h5⟩ K hK
                  have e5 := h5 (hd ⟨5, .data⟩ (by simp) rfl)
                  obtain ⟨gz, hk⟩ := x1
                  refine wp_store_blk 23 _ _ rfl _ 64 (prd p g q) rfl e5 23 gz hk Try.size23 ?_
                  exact hK _ undef _ rfl ⟨below_row hB (by omega) _, (by simpa [World.setRow] using hz), (s0).rowOther (by omega), ⟨_, hk.row _⟩, (fun h => absurd h (by simp [setL])), (fun _ => hk.row _), h0, h1, h2, h3, h4, h5⟩
              · intro L v W3 hL ⟨hB, hz, s0, x1, q1, n1, h0, h1, h2, h3, h4, h5⟩
                have r1 := n1 (hL 6 (by decide))
                have e0 := h0 (hL 0 (by decide))
                have e1 := h1 (hL 1 (by decide))
                have e2 := h2 (hL 2 (by decide))
                have e3 := h3 (hL 3 (by decide))
                have e4 := h4 (hL 4 (by decide))
                have e5 := h5 (hL 5 (by decide))
                clear hL x1 q1 n1 h0 h1 h2 h3 h4 h5
                simp only [Exit.then, e0, e1, e2, e3, e4, e5]
                clear e0 e1 e2 e3 e4 e5
                clear B0
                have B0 := s0
                clear s0
                clear B1
                have B1 := r1
                clear r1
                clear hb
                have hb := hB
                clear hB
                clear hbase hz lt_B0 lt_B1
                go_wp2_with fail
                go_roundw
                case rel => exact ⟨c + 1, d, _, by go_num, by omega, HN, Lib.hid (fun k _ => prd_lt (by omega) k), hb, B0, B1⟩
                case measure => simp [intOf] <;> omega
            · have HN := Lib.hid (show cfN p N = none by rw [hf.out]; exact HOn.out (by rw [hg.out, cfS_no hd]))
              have HBD := Lib.hid (fun W => bounded_no p g q W p2 p7 lg.out HLQ.out (by omega))
              clear hd
              go_upto_region 7 with (fail)
              have lt_B0 : (w.heap.size) < wr.heap.size := B0.lt
              have lt_B1 : (N1) < wr.heap.size := B1.lt
              have hbase : w.heap.size ≤ wr.heap.size := hb.size
              refine wp_region_steps0 Try.mixed (by kernel_rfl) (by kernel_rfl) (fun v => by (simp only [frL, Act.put, List.setIfInBounds_toArray, List.set_cons_zero, List.set_cons_succ, Nat.reduceAdd, Nat.zero_add]; exact rfl))
                (fun L v W3 => Below w.heap.size w W3 ∧ wr.heap.size ≤ W3.heap.size ∧ Blk W3 (w.heap.size) 64 23 (fun _ => 0) ∧ (∃ g, Blk W3 (N1) 64 23 (g)) ∧ (L 6 = false → Blk W3 (N1) 64 23 (g)) ∧ (L 6 = true → Blk W3 (N1) 64 23 (fun _ => 0)) ∧ (L 0 = true → v 0 = (.int .i64 (p : Int))) ∧ (L 1 = true → v 1 = (.agg (bcells 64 (g)))) ∧ (L 2 = true → v 2 = (.int .i64 (p : Int))) ∧ (L 3 = true → v 3 = (.int .i64 (i : Int))) ∧ (L 4 = true → v 4 = (.agg (bcells 64 (q)))) ∧ (L 5 = true → False)) ?_ ?_ ?_
              · intro v hv0
                exact ⟨hb.drew, Nat.le_refl _, B0.drew, ⟨_, B1.drew⟩, (fun _ => B1.drew), (fun h => by cases h), (fun h => by cases h), (fun h => by cases h), (fun h => by cases h), (fun h => by cases h), (fun h => by cases h), (fun h => by cases h)⟩
              · refine (.cons rfl ?_ (.cons rfl ?_ (.cons rfl ?_ (.cons rfl ?_ (.cons rfl ?_ (.cons rfl ?_ (.cons rfl ?_ (.nil _))))))))
                · intro L v W3 hd hn ⟨hB, hz, s0, x1, q1, n1, h0, h1, h2, h3, h4, h5⟩ K hK
                  go_wp2_with fail
                  exact hK _ (.int .i64 (p : Int)) _ (by simp only [Act.put, List.setIfInBounds_toArray, List.set_cons_zero, List.set_cons_succ ]) ⟨hB, hz, s0, x1, q1, n1, (fun _ => rfl), h1, h2, h3, h4, h5⟩
                · intro L v W3 hd hn ⟨hB, hz, s0, x1, q1, n1, h0, h1, h2, h3, h4, h5⟩ K hK
                  have s1 := q1 (by
                    cases hL : L 6 with
                    | false => rfl
                    | true => exact absurd rfl (hn 6 _ rfl hL ⟨1, .phase⟩ (by simp) rfl))
                  refine wp_load_any 23 _ rfl _ rfl 64 23 _ s1 _ Try.underlying23 rfl Try.size23 ?_
                  exact hK _ _ _ rfl ⟨hB, hz, s0, x1, q1, n1, h0, (fun _ => rfl), h2, h3, h4, h5⟩
                · intro L v W3 hd hn ⟨hB, hz, s0, x1, q1, n1, h0, h1, h2, h3, h4, h5⟩ K hK
                  go_wp2_with fail
                  exact hK _ (.int .i64 (p : Int)) _ (by simp only [Act.put, List.setIfInBounds_toArray, List.set_cons_zero, List.set_cons_succ ]) ⟨hB, hz, s0, x1, q1, n1, h0, h1, (fun _ => rfl), h3, h4, h5⟩
                · intro L v W3 hd hn ⟨hB, hz, s0, x1, q1, n1, h0, h1, h2, h3, h4, h5⟩ K hK
                  go_wp2_with fail
                  exact hK _ (.int .i64 (i : Int)) _ (by simp only [Act.put, List.setIfInBounds_toArray, List.set_cons_zero, List.set_cons_succ ]) ⟨hB, hz, s0, x1, q1, n1, h0, h1, h2, (fun _ => rfl), h4, h5⟩
                · intro L v W3 hd hn ⟨hB, hz, s0, x1, q1, n1, h0, h1, h2, h3, h4, h5⟩ K hK
                  have e2 := h2 (hd ⟨2, .data⟩ (by simp) rfl)
                  have e3 := h3 (hd ⟨3, .data⟩ (by simp) rfl)
                  go_wp2_with (go_at_call 134; refine (HFF.out _).mono ?_; rintro e wy ⟨rfl, hy⟩)
                  exact hK _ (.agg (bcells 64 (q))) _ (by simp only [Act.put, List.setIfInBounds_toArray, List.set_cons_zero, List.set_cons_succ, e2, e3]) ⟨hB.trans (hy.mono hB.size), (Nat.le_trans hz hy.size), (s0).below hy (s0).lt, (let ⟨g, h⟩ := x1; ⟨g, (h).below hy (h).lt⟩), (fun h => (q1 h).below hy (q1 h).lt), (fun h => (n1 h).below hy (n1 h).lt), h0, h1, h2, h3, (fun _ => rfl), h5⟩
                · intro L v W3 hd hn ⟨hB, hz, s0, x1, q1, n1, h0, h1, h2, h3, h4, h5⟩ K hK
                  have e0 := h0 (hd ⟨0, .data⟩ (by simp) rfl)
                  have e1 := h1 (hd ⟨1, .data⟩ (by simp) rfl)
                  have e4 := h4 (hd ⟨4, .data⟩ (by simp) rfl)
                  go_wp2_with (go_at_call 177; refine (HBD.out _).mono ?_; rintro e wy ⟨rfl, hy⟩)
                  first | exact ⟨rfl, rfl, hB.trans (hy.mono hB.size)⟩ | (go_wp2_with fail; exact ⟨rfl, rfl, hB.trans (hy.mono hB.size)⟩)
                · intro L v W3 hd hn ⟨hB, hz, s0, x1, q1, n1, h0, h1, h2, h3, h4, h5⟩ K hK
                  exact (h5 (hd ⟨5, .data⟩ (by simp) rfl)).elim
              · intro L v W3 hL ⟨hB, hz, s0, x1, q1, n1, h0, h1, h2, h3, h4, h5⟩
                exact (h5 (hL 5 (by decide))).elim
        · have hcI : ¬ (c : Int) < (R : Int) := by omega
          obtain rfl : d = 0 := by omega
          have HN := Lib.hid (show cfN p N = cfO p fu (i + 1) m2 g by rw [hf.out]; exact HOs.out g (by rw [hg.out, cfS_z]))
          go_wp2_with fail
          go_roundw
          case rel => exact ⟨m2, i + 1, fu, g, rfl, by go_num, HN, by omega, by omega, HIL, lg, hb, B0, B1⟩
          case measure => simp [intOf] <;> omega
    · obtain rfl : m = 0 := by omega
      have HN := Lib.hid (show cfN p N = some f by rw [hf.out, cfO_z])
      have hmI : ¬ (((0 : Nat) : Int) > 0) := by omega
      exfalso
      have h1 := HN.out
      rw [HO.out] at h1
      cases h1
set_option maxRecDepth 100000 in
set_option maxHeartbeats 1600000 in
theorem CarlitzFactorialC_ok (n i : Nat) (b1 b2 : Nat) (w : World) (n2 : 2 ≤ n) (n7 : n ≤ 7) (hi6 : i ≤ 1000) (F : Nat → Nat) (hO : cfN n i = some F) (B0 : One w b1 2 (.int .i64 (n : Int))) (B1 : One w b2 2 (.int .i64 (i : Int))) :
    Calls Try.prog 145 #[.pointer (some ⟨b1, 0, none⟩), .pointer (some ⟨b2, 0, none⟩)] w fun e w' => e = .returned (.agg (bcells 64 F)) ∧ Below w.heap.size w w' := by
  have HC := Lib.hid (fun W => carlitzFact_ok n i W n2 n7 hi6 F hO)
  clear hO
  have zx_0 := B0.lt
  have zx_1 := B1.lt
  go_enter Try.func145, Try.ntmps145
  go_upto_region 1 with (fail)
  rw [← zero64]
  obtain ⟨W1, hwo⟩ : ∃ v : World, v = (w.alloc (.cells (bcells 64 fun _ => 0) 23)) := ⟨_, rfl⟩
  have B2 : Blk W1 (w.heap.size) 64 23 (fun _ => 0) := by subst hwo; have := (Blk.new w 64 23 (fun _ => 0)); simpa using this
  replace B0 : One W1 (b1) 2 (.int .i64 (n : Int)) := by subst hwo; exact (B0.alloc (.cells (bcells 64 fun _ => 0) 23))
  replace B1 : One W1 (b2) 2 (.int .i64 (i : Int)) := by subst hwo; exact (B1.alloc (.cells (bcells 64 fun _ => 0) 23))
  have hb : Below w.heap.size w W1 := by subst hwo; exact ((Below.refl _ _).alloc (Nat.le_refl _) _)
  rw [← hwo]
  clear hwo
  have lt_B0 := B0.lt
  have lt_B1 := B1.lt
  have lt_B2 := B2.lt
  go_wp2_with (first | rw [← zero64] | (refine wpList_load_one rfl 2 (.tmp 0) rfl _ rfl 2 ((.int .i64 (n : Int))) (B0) _ Try.underlying2 rfl ?_) | (refine wpList_load_one rfl 2 (.tmp 1) rfl _ rfl 2 ((.int .i64 (i : Int))) (B1) _ Try.underlying2 rfl ?_) | (go_at_call 146; refine (HC.out _).mono ?_; rintro e W2 ⟨rfl, hW2⟩; replace B0 := B0.below hW2 B0.lt; replace B1 := B1.below hW2 B1.lt; replace B2 := B2.below hW2 B2.lt; replace hb := (hb).trans (hW2.mono (hb).size)) | (refine wpList_store_blk rfl 23 (.tmp 2) (.tmp 5) rfl _ 64 (F) rfl rfl 23 _ (B2) Try.size23 ?_; try simp only [Act.put]))
  have qB0 : One (W2.setRow (w.heap.size) (bcells 64 (F))) (b1) 2 (.int .i64 (n : Int)) := (B0.rowOther (by omega))
  have qB1 : One (W2.setRow (w.heap.size) (bcells 64 (F))) (b2) 2 (.int .i64 (i : Int)) := (B1.rowOther (by omega))
  have qB2 : Blk (W2.setRow (w.heap.size) (bcells 64 (F))) (w.heap.size) 64 23 (F) := (B2.row (F))
  have qhb : Below w.heap.size w (W2.setRow (w.heap.size) (bcells 64 (F))) := (below_row hb (by omega) _)
  obtain ⟨W3, hwo⟩ : ∃ v : World, v = (W2.setRow (w.heap.size) (bcells 64 (F))) := ⟨_, rfl⟩
  rw [← hwo] at qB0 qB1 qB2 qhb ⊢
  clear hwo
  clear B0 B1 B2 hb
  have B0 := qB0
  have B1 := qB1
  have B2 := qB2
  have hb := qhb
  clear qB0 qB1 qB2 qhb
  try simp only [Act.put, List.setIfInBounds_toArray, List.set_cons_zero, List.set_cons_succ]
  refine bodyPost_ret (results_blk rfl _ _ _ 64 23 5 _ rfl B2 Try.underlying23 Try.size23) rfl ⟨rfl, hb⟩
set_option maxRecDepth 100000 in
set_option maxHeartbeats 1600000 in
theorem CarlitzFactorialC_no (n i : Nat) (b1 b2 : Nat) (w : World) (n2 : 2 ≤ n) (n7 : n ≤ 7) (hi6 : i ≤ 1000) (hO : cfN n i = none) (B0 : One w b1 2 (.int .i64 (n : Int))) (B1 : One w b2 2 (.int .i64 (i : Int))) :
    Calls Try.prog 145 #[.pointer (some ⟨b1, 0, none⟩), .pointer (some ⟨b2, 0, none⟩)] w fun e w' => e = .panicked [{ v := .iface 138 (.int .i64 3), recovered := false }] ∧ Below w.heap.size w w' := by
  have HC := Lib.hid (fun W => carlitzFact_no n i W n2 n7 hi6 hO)
  clear hO
  have zx_0 := B0.lt
  have zx_1 := B1.lt
  go_enter Try.func145, Try.ntmps145
  go_upto_region 1 with (fail)
  rw [← zero64]
  obtain ⟨W1, hwo⟩ : ∃ v : World, v = (w.alloc (.cells (bcells 64 fun _ => 0) 23)) := ⟨_, rfl⟩
  have B2 : Blk W1 (w.heap.size) 64 23 (fun _ => 0) := by subst hwo; have := (Blk.new w 64 23 (fun _ => 0)); simpa using this
  replace B0 : One W1 (b1) 2 (.int .i64 (n : Int)) := by subst hwo; exact (B0.alloc (.cells (bcells 64 fun _ => 0) 23))
  replace B1 : One W1 (b2) 2 (.int .i64 (i : Int)) := by subst hwo; exact (B1.alloc (.cells (bcells 64 fun _ => 0) 23))
  have hb : Below w.heap.size w W1 := by subst hwo; exact ((Below.refl _ _).alloc (Nat.le_refl _) _)
  rw [← hwo]
  clear hwo
  go_wp2_with (first | rw [← zero64] | (refine wpList_load_one rfl 2 (.tmp 0) rfl _ rfl 2 ((.int .i64 (n : Int))) (B0) _ Try.underlying2 rfl ?_) | (refine wpList_load_one rfl 2 (.tmp 1) rfl _ rfl 2 ((.int .i64 (i : Int))) (B1) _ Try.underlying2 rfl ?_) | (go_at_call 146; refine (HC.out _).mono ?_; rintro e W2 ⟨rfl, hW2⟩; replace B0 := B0.below hW2 B0.lt; replace B1 := B1.below hW2 B1.lt; replace B2 := B2.below hW2 B2.lt; replace hb := (hb).trans (hW2.mono (hb).size)))
  exact ⟨rfl, rfl, hb⟩
set_option maxRecDepth 100000 in
set_option maxHeartbeats 1600000 in
theorem impl_CarlitzFactorial_any (p i : Int) (w : World) :
    Calls Try.prog 71 #[.int .i64 p, .int .i64 i] w fun e w' => e = .returned (.tuple #[.agg (bcells 64 (opV 0 1000 cfN p i).1), .int .i64 (opV 0 1000 cfN p i).2]) ∧ Below w.heap.size w w' := by
  go_enter Try.func71, Try.ntmps71
  go_upto_region 1 with (fail)
  rw [← zero64]
  obtain ⟨W1, hwo⟩ : ∃ v : World, v = (((w.alloc (.cells #[(.int .i64 p)] 2)).alloc (.cells #[(.int .i64 i)] 2)).alloc (.cells (bcells 64 fun _ => 0) 23)) := ⟨_, rfl⟩
  have B0 : One W1 (w.heap.size) 2 (.int .i64 p) := by subst hwo; have := (((One.new w 2 (.int .i64 p)).alloc (.cells #[(.int .i64 i)] 2)).alloc (.cells (bcells 64 fun _ => 0) 23)); simpa using this
  have B1 : One W1 (w.heap.size + 1) 2 (.int .i64 i) := by subst hwo; have := ((One.new (w.alloc (.cells #[(.int .i64 p)] 2)) 2 (.int .i64 i)).alloc (.cells (bcells 64 fun _ => 0) 23)); simpa using this
  have B2 : Blk W1 (w.heap.size + 1 + 1) 64 23 (fun _ => 0) := by subst hwo; have := (Blk.new ((w.alloc (.cells #[(.int .i64 p)] 2)).alloc (.cells #[(.int .i64 i)] 2)) 64 23 (fun _ => 0)); simpa using this
  have hb : Below w.heap.size w W1 := by subst hwo; exact ((((Below.refl _ _).alloc (Nat.le_refl _) _).alloc (by simp) _).alloc (by simp; omega) _)
  rw [← hwo]
  clear hwo
  rcases rgC_cases (p := p) (n := i) (lo := 0) (hi := 1000) with ⟨c, hc, hc0, hc12⟩ | ⟨hc, hp, hr1, hr2⟩
  · have HV := Lib.hid (opV_c (O := cfN) hc hc0)
    have hb1 : ((c : Int) != 0) = true := by simp [hc0]
    go_upto_region 2 with (first | (refine wpList_load_one rfl 2 (.tmp 2) rfl _ rfl 2 ((.int .i64 p)) (B0) _ Try.underlying2 rfl ?_) | (refine wpList_load_one rfl 2 (.tmp 3) rfl _ rfl 2 ((.int .i64 i)) (B1) _ Try.underlying2 rfl ?_) | (go_at_call 128; refine (checkNumber_any _ _ 0 1000 _).mono ?_; rintro e wS ⟨rfl, rfl⟩; rw [hc]))
    clear hc
    go_upto_region 3 with (fail)
    have lt_B0 := B0.lt
    have lt_B1 := B1.lt
    have lt_B2 := B2.lt
    go_wp2_with (first | rw [← zero64] | (refine wpList_store_blk rfl 23 (.tmp 4) (.tmp 12) rfl _ 64 (fun _ => 0) rfl rfl 23 _ (B2) Try.size23 ?_; try simp only [Act.put]; go_wp2_with fail))
    have qB0 : One (W1.setRow (w.heap.size + 1 + 1) (bcells 64 (fun _ => 0))) (w.heap.size) 2 (.int .i64 p) := (B0.rowOther (by omega))
    have qB1 : One (W1.setRow (w.heap.size + 1 + 1) (bcells 64 (fun _ => 0))) (w.heap.size + 1) 2 (.int .i64 i) := (B1.rowOther (by omega))
    have qB2 : Blk (W1.setRow (w.heap.size + 1 + 1) (bcells 64 (fun _ => 0))) (w.heap.size + 1 + 1) 64 23 (fun _ => 0) := (B2.row (fun _ => 0))
    have qhb : Below w.heap.size w (W1.setRow (w.heap.size + 1 + 1) (bcells 64 (fun _ => 0))) := (below_row hb (by omega) _)
    obtain ⟨W2, hwo⟩ : ∃ v : World, v = (W1.setRow (w.heap.size + 1 + 1) (bcells 64 (fun _ => 0))) := ⟨_, rfl⟩
    rw [← hwo] at qB0 qB1 qB2 qhb ⊢
    clear hwo
    clear B0 B1 B2 hb
    have B0 := qB0
    have B1 := qB1
    have B2 := qB2
    have hb := qhb
    clear qB0 qB1 qB2 qhb
    try simp only [Act.put, List.setIfInBounds_toArray, List.set_cons_zero, List.set_cons_succ]
    refine bodyPost_ret (results_bt rfl _ _ _ 64 23 5 _ rfl B2 Try.underlying23 Try.size23) rfl ⟨by first | (rw [HV.out]; rfl) | rw [HV.out], hb⟩
  · obtain ⟨n, hn, n2, n7⟩ := okP_nat hp
    subst hn
    obtain ⟨i, rfl⟩ : ∃ j : Nat, i = (j : Int) := ⟨i.toNat, by omega⟩
    cases hO : cfN n i with
    | none =>
      have HV := Lib.hid (opV_no hc hO)
      have HDO := Lib.hid (fun (b1 b2 : Nat) (W : World) (h1 : One W b1 2 (.int .i64 (n : Int))) (h2 : One W b2 2 (.int .i64 (i : Int))) => door_CarlitzFactorialN (.pointer (some ⟨b1, 0, none⟩)) (.pointer (some ⟨b2, 0, none⟩)) (fun _ => 0) W (fun W' hW => CarlitzFactorialC_no n i b1 b2 W' n2 n7 (by omega) hO (h1.below hW h1.lt) (h2.below hW h2.lt)))
      have hmf : ∀ (fn : Fn) (first cap : Array Value) (w : World), (Instr.makeFunc fn first cap).run Try.prog w = .ok (.func fn first cap) w := fun _ _ _ _ => rfl
      go_upto_region 2 with (first | (refine wpList_load_one rfl 2 (.tmp 2) rfl _ rfl 2 ((.int .i64 (n : Int))) (B0) _ Try.underlying2 rfl ?_) | (refine wpList_load_one rfl 2 (.tmp 3) rfl _ rfl 2 ((.int .i64 (i : Int))) (B1) _ Try.underlying2 rfl ?_) | (go_at_call 128; refine (checkNumber_any _ _ 0 1000 _).mono ?_; rintro e wS ⟨rfl, rfl⟩; rw [hc]))
      clear hc hO hp
      go_upto_region 4 with (fail)
      have lt_B0 := B0.lt
      have lt_B1 := B1.lt
      have lt_B2 := B2.lt
      go_wp2_with (first | rw [← zero64] | (go_at_call 129; refine (HDO.out _ _ _ B0 B1).mono ?_; rintro e W2 ⟨rfl, hW2⟩; replace B0 := B0.below hW2 B0.lt; replace B1 := B1.below hW2 B1.lt; replace B2 := B2.below hW2 B2.lt; replace hb := (hb).trans (hW2.mono (hb).size)) | (refine wpList_store_blk rfl 23 (.tmp 4) (.tmp 16) rfl _ 64 (fun _ => 0) rfl rfl 23 _ (B2) Try.size23 ?_; try simp only [Act.put]; go_wp2_with fail))
      have qB0 : One (W2.setRow (w.heap.size + 1 + 1) (bcells 64 (fun _ => 0))) (w.heap.size) 2 (.int .i64 (n : Int)) := (B0.rowOther (by omega))
      have qB1 : One (W2.setRow (w.heap.size + 1 + 1) (bcells 64 (fun _ => 0))) (w.heap.size + 1) 2 (.int .i64 (i : Int)) := (B1.rowOther (by omega))
      have qB2 : Blk (W2.setRow (w.heap.size + 1 + 1) (bcells 64 (fun _ => 0))) (w.heap.size + 1 + 1) 64 23 (fun _ => 0) := (B2.row (fun _ => 0))
      have qhb : Below w.heap.size w (W2.setRow (w.heap.size + 1 + 1) (bcells 64 (fun _ => 0))) := (below_row hb (by omega) _)
      obtain ⟨W3, hwo⟩ : ∃ v : World, v = (W2.setRow (w.heap.size + 1 + 1) (bcells 64 (fun _ => 0))) := ⟨_, rfl⟩
      rw [← hwo] at qB0 qB1 qB2 qhb ⊢
      clear hwo
      clear B0 B1 B2 hb
      have B0 := qB0
      have B1 := qB1
      have B2 := qB2
      have hb := qhb
      clear qB0 qB1 qB2 qhb
      try simp only [Act.put, List.setIfInBounds_toArray, List.set_cons_zero, List.set_cons_succ]
      refine bodyPost_ret (results_bt rfl _ _ _ 64 23 5 _ rfl B2 Try.underlying23 Try.size23) rfl ⟨by first | (rw [HV.out]; rfl) | rw [HV.out], hb⟩
    | some F =>
      have HV := Lib.hid (opV_yes hc hO)
      have HDO := Lib.hid (fun (b1 b2 : Nat) (W : World) (h1 : One W b1 2 (.int .i64 (n : Int))) (h2 : One W b2 2 (.int .i64 (i : Int))) => door_CarlitzFactorial (.pointer (some ⟨b1, 0, none⟩)) (.pointer (some ⟨b2, 0, none⟩)) (F) W (fun W' hW => CarlitzFactorialC_ok n i b1 b2 W' n2 n7 (by omega) F hO (h1.below hW h1.lt) (h2.below hW h2.lt)))
      have hmf : ∀ (fn : Fn) (first cap : Array Value) (w : World), (Instr.makeFunc fn first cap).run Try.prog w = .ok (.func fn first cap) w := fun _ _ _ _ => rfl
      go_upto_region 2 with (first | (refine wpList_load_one rfl 2 (.tmp 2) rfl _ rfl 2 ((.int .i64 (n : Int))) (B0) _ Try.underlying2 rfl ?_) | (refine wpList_load_one rfl 2 (.tmp 3) rfl _ rfl 2 ((.int .i64 (i : Int))) (B1) _ Try.underlying2 rfl ?_) | (go_at_call 128; refine (checkNumber_any _ _ 0 1000 _).mono ?_; rintro e wS ⟨rfl, rfl⟩; rw [hc]))
      clear hc hO hp
      go_upto_region 4 with (fail)
      have lt_B0 := B0.lt
      have lt_B1 := B1.lt
      have lt_B2 := B2.lt
      go_wp2_with (first | rw [← zero64] | (go_at_call 129; refine (HDO.out _ _ _ B0 B1).mono ?_; rintro e W2 ⟨rfl, hW2⟩; replace B0 := B0.below hW2 B0.lt; replace B1 := B1.below hW2 B1.lt; replace B2 := B2.below hW2 B2.lt; replace hb := (hb).trans (hW2.mono (hb).size)) | (refine wpList_store_blk rfl 23 (.tmp 4) (.tmp 16) rfl _ 64 (F) rfl rfl 23 _ (B2) Try.size23 ?_; try simp only [Act.put]; go_wp2_with fail))
      have qB0 : One (W2.setRow (w.heap.size + 1 + 1) (bcells 64 (F))) (w.heap.size) 2 (.int .i64 (n : Int)) := (B0.rowOther (by omega))
      have qB1 : One (W2.setRow (w.heap.size + 1 + 1) (bcells 64 (F))) (w.heap.size + 1) 2 (.int .i64 (i : Int)) := (B1.rowOther (by omega))
      have qB2 : Blk (W2.setRow (w.heap.size + 1 + 1) (bcells 64 (F))) (w.heap.size + 1 + 1) 64 23 (F) := (B2.row (F))
      have qhb : Below w.heap.size w (W2.setRow (w.heap.size + 1 + 1) (bcells 64 (F))) := (below_row hb (by omega) _)
      obtain ⟨W3, hwo⟩ : ∃ v : World, v = (W2.setRow (w.heap.size + 1 + 1) (bcells 64 (F))) := ⟨_, rfl⟩
      rw [← hwo] at qB0 qB1 qB2 qhb ⊢
      clear hwo
      clear B0 B1 B2 hb
      have B0 := qB0
      have B1 := qB1
      have B2 := qB2
      have hb := qhb
      clear qB0 qB1 qB2 qhb
      try simp only [Act.put, List.setIfInBounds_toArray, List.set_cons_zero, List.set_cons_succ]
      refine bodyPost_ret (results_bt rfl _ _ _ 64 23 5 _ rfl B2 Try.underlying23 Try.size23) rfl ⟨by first | (rw [HV.out]; rfl) | rw [HV.out], hb⟩
set_option maxRecDepth 100000 in
set_option maxHeartbeats 1600000 in
theorem spec_CarlitzFactorial_any (p0 i0 : Int) (w : World) :
    Calls Try.prog 70 #[.int .i64 p0, .int .i64 i0] w fun e w' => e = .returned (.tuple #[.agg (bcells 64 (opV 0 1000 cfN p0 i0).1), .int .i64 (opV 0 1000 cfN p0 i0).2]) ∧ Below w.heap.size w w' := by
  go_enter Try.func70, Try.ntmps70
  go_upto_region 1 with (fail)
  rw [← zero64]
  obtain ⟨W1, hwo⟩ : ∃ v : World, v = (w.alloc (.cells (bcells 64 fun _ => 0) 23)) := ⟨_, rfl⟩
  have B0 : Blk W1 (w.heap.size) 64 23 (fun _ => 0) := by subst hwo; have := (Blk.new w 64 23 (fun _ => 0)); simpa using this
  have hb : Below w.heap.size w W1 := by subst hwo; exact ((Below.refl _ _).alloc (Nat.le_refl _) _)
  rw [← hwo]
  clear hwo
  rcases rgC_cases (p := p0) (n := i0) (lo := 0) (hi := 1000) with ⟨c, hc, hc0, hc12⟩ | ⟨hc, hp, hr1, hr2⟩
  · have HV := Lib.hid (opV_c (O := cfN) hc hc0)
    have hb1 : ((c : Int) != 0) = true := by simp [hc0]
    go_upto_region 2 with (first | (go_at_call 126; refine (l04Range_any _ _ 0 1000 _).mono ?_; rintro e wS ⟨rfl, rfl⟩; rw [hc]))
    clear hc
    go_upto_region 3 with (fail)
    have lt_B0 := B0.lt
    go_wp2_with (first | rw [← zero64] | (refine wpList_store_blk rfl 23 (.tmp 4) (.tmp 19) rfl _ 64 (fun _ => 0) rfl rfl 23 _ (B0) Try.size23 ?_; try simp only [Act.put]; go_wp2_with fail))
    have qB0 : Blk (W1.setRow (w.heap.size) (bcells 64 (fun _ => 0))) (w.heap.size) 64 23 (fun _ => 0) := (B0.row (fun _ => 0))
    have qhb : Below w.heap.size w (W1.setRow (w.heap.size) (bcells 64 (fun _ => 0))) := (below_row hb (by omega) _)
    obtain ⟨W2, hwo⟩ : ∃ v : World, v = (W1.setRow (w.heap.size) (bcells 64 (fun _ => 0))) := ⟨_, rfl⟩
    rw [← hwo] at qB0 qhb ⊢
    clear hwo
    clear B0 hb
    have B0 := qB0
    have hb := qhb
    clear qB0 qhb
    try simp only [Act.put, List.setIfInBounds_toArray, List.set_cons_zero, List.set_cons_succ]
    refine bodyPost_ret (results_bt rfl _ _ _ 64 23 5 _ rfl B0 Try.underlying23 Try.size23) rfl ⟨by first | (rw [HV.out]; rfl) | rw [HV.out], hb⟩
  · obtain ⟨p, hn, p2, p7⟩ := okP_nat hp
    subst hn
    obtain ⟨N, rfl⟩ : ∃ j : Nat, i0 = (j : Int) := ⟨i0.toNat, by omega⟩
    have hN : N ≤ 1000 := by omega
    have HO0 := Lib.hid (show cfN p N = cfO p (N + 1) 0 N oneP by unfold cfN; rfl)
    have l1 : ∀ k, k < 64 → oneP k < p := fun k _ => by unfold oneP; split <;> omega
    have HL1 := Lib.hid l1
    have HV3 := Lib.hid (fun h : cfN p N = none => opV_no hc h)
    have HV0 := Lib.hid (fun f (h : cfN p N = some f) => opV_yes (f := f) hc h)
    clear l1 hp
    go_upto_region 2 with (first | (go_at_call 126; refine (l04Range_any _ _ 0 1000 _).mono ?_; rintro e wS ⟨rfl, rfl⟩; rw [hc]))
    clear hc hr1 hr2
    go_upto_region 4 with (fail)
    have lt_B0 := B0.lt
    go_upto_region 5 with (first | rw [← zero64] | (go_at_call 75; refine (l01One_any _).mono ?_; rintro e W2 ⟨rfl, hW2⟩; replace B0 := B0.below hW2 B0.lt; replace hb := (hb).trans (hW2.mono (hb).size)) | (refine wpList_store_blk rfl 23 (.tmp 7) (.tmp 21) rfl _ 64 (oneP) rfl rfl 23 _ ((Blk.new W2 64 23 (fun _ => 0))) Try.size23 ?_; try simp only [Act.put]))
    have lt_B0 := B0.lt
    have lhb := hb.size
    have qB0 : Blk ((W2.alloc (.cells (bcells 64 fun _ => 0) 23)).setRow (W2.heap.size) (bcells 64 (oneP))) (w.heap.size) 64 23 (fun _ => 0) := ((B0.alloc (.cells (bcells 64 fun _ => 0) 23)).rowOther (by omega))
    have qB1 : Blk ((W2.alloc (.cells (bcells 64 fun _ => 0) 23)).setRow (W2.heap.size) (bcells 64 (oneP))) (W2.heap.size) 64 23 (oneP) := ((Blk.new W2 64 23 (fun _ => 0)).row (oneP))
    have qhb : Below w.heap.size w ((W2.alloc (.cells (bcells 64 fun _ => 0) 23)).setRow (W2.heap.size) (bcells 64 (oneP))) := (below_row (hb.alloc (by have := hb.size; simp; omega) (.cells (bcells 64 fun _ => 0) 23)) (by omega) _)
    obtain ⟨W3, hwo⟩ : ∃ v : World, v = ((W2.alloc (.cells (bcells 64 fun _ => 0) 23)).setRow (W2.heap.size) (bcells 64 (oneP))) := ⟨_, rfl⟩
    rw [← hwo] at qB0 qB1 qhb ⊢
    clear hwo
    clear B0 hb
    have B0 := qB0
    have B1 := qB1
    have hb := qhb
    clear qB0 qB1 qhb
    obtain ⟨N1, hNN⟩ : ∃ n : Nat, n = W2.heap.size := ⟨_, rfl⟩
    rw [← hNN] at lt_B0 lhb B1 ⊢
    clear hNN
    have zN1_0 := lt_B0
    have zN1 := lhb
    clear lt_B0 lhb
    try simp only [Act.put, List.setIfInBounds_toArray, List.set_cons_zero, List.set_cons_succ]
    go_wp2_with fail
    go_loopw [1, 8] (fun x y wr => ∃ (m i fu : Nat) (f : Nat → Nat), x = .int .i64 (m : Int) ∧ y = .int .i64 (i : Int) ∧ Hid (cfN p N = cfO p fu i m f) ∧ m < fu ∧ i + fu = N + 1 ∧ Hid (m * p ^ i ≤ N) ∧ Hid (∀ k, k < 64 → f k < p) ∧ Below w.heap.size w wr ∧ Blk wr (w.heap.size) 64 23 (fun _ => 0) ∧ Blk wr (N1) 64 23 f) (fun x _ _ => (intOf x).toNat)
    case atStart => exact ⟨N, 0, N + 1, _, rfl, rfl, HO0, by omega, by omega, Lib.hid (by rw [Nat.pow_zero, Nat.mul_one]; exact Nat.le_refl _), HL1, hb, B0, B1⟩
    case round =>
      clear hb B0 B1 HO0 HL1
      obtain ⟨m, i, fu, f, rfl, rfl, hf, hmf, hif, hpi, lf, hb, B0, B1⟩ := hrel
      by_cases hn : 0 < m
      · obtain ⟨fu, rfl⟩ : ∃ g, fu = g + 1 := ⟨fu - 1, by omega⟩
        have hsm := smI_k p2 hn hpi.out hN
        have hi20 := hsm.1
        have HIL := Lib.hid (cf_less p2 hpi.out)
        have tq1 : (m : Int).tmod (p : Int) = ((m % p : Nat) : Int) := by rw [Int.tmod_eq_emod_of_nonneg (by omega)]; rfl
        have tq2 : (m : Int).tdiv (p : Int) = ((m / p : Nat) : Int) := by rw [Int.tdiv_eq_ediv_of_nonneg (by omega)]; rfl
        have hm2 : m / p < m := Nat.div_lt_self hn (by omega)
        have hR7 : m % p < p := Nat.mod_lt _ (by omega)
        have HOn := Lib.hid (fun h => cfO_none (p := p) (fu := fu) (i := i) (n := m) (f := f) hn h)
        have HOs := Lib.hid (fun g h => cfO_some (p := p) (fu := fu) (i := i) (n := m) (f := f) (g := g) hn h)
        obtain ⟨R, hR⟩ : ∃ R, R = m % p := ⟨_, rfl⟩
        obtain ⟨m2, hM2⟩ : ∃ m2, m2 = m / p := ⟨_, rfl⟩
        rw [← hR] at tq1 hR7 HOn HOs
        rw [← hM2] at tq2 hm2 HIL HOs
        clear hR hM2
        have hmI : (m : Int) > 0 := by omega
        have hmI2 : (0 : Int) < (m : Int) := by omega
        obtain ⟨G, hG⟩ : ∃ G, G = fcR p i false i := ⟨_, rfl⟩
        have HG := Lib.hid hG
        rw [← hG] at HOn HOs
        clear hG
        go_wp2_with fail
        go_loopw [9] (fun y wr => ∃ (d : Nat) (g : Nat → Nat), y = .int .i64 (d : Int) ∧ d ≤ R ∧ Hid (cfS p G R f = cfS p G d g) ∧ Hid (∀ k, k < 64 → g k < p) ∧ Below w.heap.size w wr ∧ Blk wr (w.heap.size) 64 23 (fun _ => 0) ∧ Blk wr (N1) 64 23 g) (fun y _ => (intOf y).toNat)
        case atStart => exact ⟨R, f, rfl, Nat.le_refl _, Lib.hid rfl, lf, hb, B0, B1⟩
        case round =>
          clear hb B0 B1
          obtain ⟨d, g, rfl, hcd, hg, lg, hb, B0, B1⟩ := hrel
          by_cases hc : 0 < d
          · have hcI : (d : Int) > 0 := by omega
            have hcI2 : (0 : Int) < (d : Int) := by omega
            obtain ⟨e, rfl⟩ : ∃ e, d = e + 1 := ⟨d - 1, by omega⟩
            cases G with
            | none =>
              have HV := Lib.hid (HV3.out (show cfN p N = none by rw [hf.out]; exact HOn.out (by rw [hg.out, cfS_none])))
              have HFF := Lib.hid (fun W => l04FactF_no p i W p2 p7 hi20 HG.out.symm)
              go_upto_region 11 with (fail)
              have lt_B0 := B0.lt
              have lt_B1 := B1.lt
              go_upto_region 13 with (first | rw [← zero64] | (go_at_call 132; refine (HFF.out _).mono ?_; rintro e W4 ⟨rfl, hW4⟩; replace B0 := B0.below hW4 B0.lt; replace B1 := B1.below hW4 B1.lt; replace hb := (hb).trans (hW4.mono (hb).size)) | (refine wpList_store_blk rfl 23 (.tmp 10) (.tmp 37) rfl _ 64 (fun _ => 0) rfl rfl 23 _ ((Blk.new W4 64 23 (fun _ => 0))) Try.size23 ?_; try simp only [Act.put]; go_upto_region 13 with (fail)))
              have lt_B0 := B0.lt
              have lt_B1 := B1.lt
              have lhb := hb.size
              have qB0 : Blk ((W4.alloc (.cells (bcells 64 fun _ => 0) 23)).setRow (W4.heap.size) (bcells 64 (fun _ => 0))) (w.heap.size) 64 23 (fun _ => 0) := ((B0.alloc (.cells (bcells 64 fun _ => 0) 23)).rowOther (by omega))
              have qB1 : Blk ((W4.alloc (.cells (bcells 64 fun _ => 0) 23)).setRow (W4.heap.size) (bcells 64 (fun _ => 0))) (N1) 64 23 (g) := ((B1.alloc (.cells (bcells 64 fun _ => 0) 23)).rowOther (by omega))
              have qB2 : Blk ((W4.alloc (.cells (bcells 64 fun _ => 0) 23)).setRow (W4.heap.size) (bcells 64 (fun _ => 0))) (W4.heap.size) 64 23 (fun _ => 0) := ((Blk.new W4 64 23 (fun _ => 0)).row (fun _ => 0))
              have qhb : Below w.heap.size w ((W4.alloc (.cells (bcells 64 fun _ => 0) 23)).setRow (W4.heap.size) (bcells 64 (fun _ => 0))) := (below_row (hb.alloc (by have := hb.size; simp; omega) (.cells (bcells 64 fun _ => 0) 23)) (by omega) _)
              obtain ⟨W5, hwo⟩ : ∃ v : World, v = ((W4.alloc (.cells (bcells 64 fun _ => 0) 23)).setRow (W4.heap.size) (bcells 64 (fun _ => 0))) := ⟨_, rfl⟩
              rw [← hwo] at qB0 qB1 qB2 qhb ⊢
              clear hwo
              clear B0 B1 hb
              have B0 := qB0
              have B1 := qB1
              have B2 := qB2
              have hb := qhb
              clear qB0 qB1 qB2 qhb
              obtain ⟨N2, hNN⟩ : ∃ n : Nat, n = W4.heap.size := ⟨_, rfl⟩
              rw [← hNN] at lt_B0 lt_B1 lhb B2 ⊢
              clear hNN
              have zN2_0 := lt_B0
              have zN2_1 := lt_B1
              have zN2 := lhb
              clear lt_B0 lt_B1 lhb
              try simp only [Act.put, List.setIfInBounds_toArray, List.set_cons_zero, List.set_cons_succ]
              have lt_B0 := B0.lt
              have lt_B1 := B1.lt
              have lt_B2 := B2.lt
              go_wp2_with (first | rw [← zero64] | (refine wpList_store_blk rfl 23 (.tmp 4) (.tmp 41) rfl _ 64 (fun _ => 0) rfl rfl 23 _ (B0) Try.size23 ?_; try simp only [Act.put]; go_wp2_with fail))
              have qB0 : Blk (W5.setRow (w.heap.size) (bcells 64 (fun _ => 0))) (w.heap.size) 64 23 (fun _ => 0) := (B0.row (fun _ => 0))
              have qB1 : Blk (W5.setRow (w.heap.size) (bcells 64 (fun _ => 0))) (N1) 64 23 (g) := (B1.rowOther (by omega))
              have qB2 : Blk (W5.setRow (w.heap.size) (bcells 64 (fun _ => 0))) (N2) 64 23 (fun _ => 0) := (B2.rowOther (by omega))
              have qhb : Below w.heap.size w (W5.setRow (w.heap.size) (bcells 64 (fun _ => 0))) := (below_row hb (by omega) _)
              obtain ⟨W6, hwo⟩ : ∃ v : World, v = (W5.setRow (w.heap.size) (bcells 64 (fun _ => 0))) := ⟨_, rfl⟩
              rw [← hwo] at qB0 qB1 qB2 qhb ⊢
              clear hwo
              clear B0 B1 B2 hb
              have B0 := qB0
              have B1 := qB1
              have B2 := qB2
              have hb := qhb
              clear qB0 qB1 qB2 qhb
              try simp only [Act.put, List.setIfInBounds_toArray, List.set_cons_zero, List.set_cons_succ]
              refine bodyPost_ret (results_bt rfl _ _ _ 64 23 5 _ rfl B0 Try.underlying23 Try.size23) rfl ⟨by first | (rw [HV.out]; rfl) | rw [HV.out], hb⟩
            | some q =>
              have lq : ∀ k, k < 64 → q k < p := fcR_lt p2 i q HG.out.symm
              have HTM := Lib.hid (fun W => l01Times_any p g q W p2 p7 lg.out lq)
              clear lq
              have HFF := Lib.hid (fun W => l04FactF_ok p i W p2 p7 hi20 q HG.out.symm)
              by_cases hd : deg g + deg q ≤ 63
              · have HN := Lib.hid (show cfS p (some q) R f = cfS p (some q) e (prd p g q) by rw [hg.out, cfS_yes hd])
                have HTV := Lib.hid (show tmV p g q = (prd p g q, true) from if_pos hd)
                clear hd
                go_upto_region 11 with (fail)
                have lt_B0 := B0.lt
                have lt_B1 := B1.lt
                go_upto_region 14 with (first | rw [← zero64] | (go_at_call 132; refine (HFF.out _).mono ?_; rintro e W4 ⟨rfl, hW4⟩; replace B0 := B0.below hW4 B0.lt; replace B1 := B1.below hW4 B1.lt; replace hb := (hb).trans (hW4.mono (hb).size)) | (refine wpList_store_blk rfl 23 (.tmp 10) (.tmp 37) rfl _ 64 (q) rfl rfl 23 _ ((Blk.new W4 64 23 (fun _ => 0))) Try.size23 ?_; try simp only [Act.put]; go_upto_region 14 with (fail)))
                have lt_B0 := B0.lt
                have lt_B1 := B1.lt
                have lhb := hb.size
                have qB0 : Blk ((W4.alloc (.cells (bcells 64 fun _ => 0) 23)).setRow (W4.heap.size) (bcells 64 (q))) (w.heap.size) 64 23 (fun _ => 0) := ((B0.alloc (.cells (bcells 64 fun _ => 0) 23)).rowOther (by omega))
                have qB1 : Blk ((W4.alloc (.cells (bcells 64 fun _ => 0) 23)).setRow (W4.heap.size) (bcells 64 (q))) (N1) 64 23 (g) := ((B1.alloc (.cells (bcells 64 fun _ => 0) 23)).rowOther (by omega))
                have qB2 : Blk ((W4.alloc (.cells (bcells 64 fun _ => 0) 23)).setRow (W4.heap.size) (bcells 64 (q))) (W4.heap.size) 64 23 (q) := ((Blk.new W4 64 23 (fun _ => 0)).row (q))
                have qhb : Below w.heap.size w ((W4.alloc (.cells (bcells 64 fun _ => 0) 23)).setRow (W4.heap.size) (bcells 64 (q))) := (below_row (hb.alloc (by have := hb.size; simp; omega) (.cells (bcells 64 fun _ => 0) 23)) (by omega) _)
                obtain ⟨W5, hwo⟩ : ∃ v : World, v = ((W4.alloc (.cells (bcells 64 fun _ => 0) 23)).setRow (W4.heap.size) (bcells 64 (q))) := ⟨_, rfl⟩
                rw [← hwo] at qB0 qB1 qB2 qhb ⊢
                clear hwo
                clear B0 B1 hb
                have B0 := qB0
                have B1 := qB1
                have B2 := qB2
                have hb := qhb
                clear qB0 qB1 qB2 qhb
                obtain ⟨N2, hNN⟩ : ∃ n : Nat, n = W4.heap.size := ⟨_, rfl⟩
                rw [← hNN] at lt_B0 lt_B1 lhb B2 ⊢
                clear hNN
                have zN2_0 := lt_B0
                have zN2_1 := lt_B1
                have zN2 := lhb
                clear lt_B0 lt_B1 lhb
                try simp only [Act.put, List.setIfInBounds_toArray, List.set_cons_zero, List.set_cons_succ]
                have lt_B0 := B0.lt
                have lt_B1 := B1.lt
                have lt_B2 := B2.lt
                go_upto_region 17 with (first | rw [← zero64] | (refine wpList_load_any rfl 23 (.tmp 7) rfl _ rfl 64 23 _ (B1) _ Try.underlying23 rfl Try.size23 ?_) | (refine wpList_load_any rfl 23 (.tmp 10) rfl _ rfl 64 23 _ (B2) _ Try.underlying23 rfl Try.size23 ?_) | (go_at_call 76; refine (HTM.out _).mono ?_; rintro e W6 ⟨rfl, hW6⟩; replace B0 := B0.below hW6 B0.lt; replace B1 := B1.below hW6 B1.lt; replace B2 := B2.below hW6 B2.lt; replace hb := (hb).trans (hW6.mono (hb).size); rw [HTV.out]) | (refine wpList_store_blk rfl 23 (.tmp 12) (.tmp 47) rfl _ 64 (prd p g q) rfl rfl 23 _ ((Blk.new W6 64 23 (fun _ => 0))) Try.size23 ?_; try simp only [Act.put]; go_upto_region 17 with (fail)))
                have lt_B0 := B0.lt
                have lt_B1 := B1.lt
                have lt_B2 := B2.lt
                have lhb := hb.size
                have qB0 : Blk ((W6.alloc (.cells (bcells 64 fun _ => 0) 23)).setRow (W6.heap.size) (bcells 64 (prd p g q))) (w.heap.size) 64 23 (fun _ => 0) := ((B0.alloc (.cells (bcells 64 fun _ => 0) 23)).rowOther (by omega))
                have qB1 : Blk ((W6.alloc (.cells (bcells 64 fun _ => 0) 23)).setRow (W6.heap.size) (bcells 64 (prd p g q))) (N1) 64 23 (g) := ((B1.alloc (.cells (bcells 64 fun _ => 0) 23)).rowOther (by omega))
                have qB2 : Blk ((W6.alloc (.cells (bcells 64 fun _ => 0) 23)).setRow (W6.heap.size) (bcells 64 (prd p g q))) (N2) 64 23 (q) := ((B2.alloc (.cells (bcells 64 fun _ => 0) 23)).rowOther (by omega))
                have qB3 : Blk ((W6.alloc (.cells (bcells 64 fun _ => 0) 23)).setRow (W6.heap.size) (bcells 64 (prd p g q))) (W6.heap.size) 64 23 (prd p g q) := ((Blk.new W6 64 23 (fun _ => 0)).row (prd p g q))
                have qhb : Below w.heap.size w ((W6.alloc (.cells (bcells 64 fun _ => 0) 23)).setRow (W6.heap.size) (bcells 64 (prd p g q))) := (below_row (hb.alloc (by have := hb.size; simp; omega) (.cells (bcells 64 fun _ => 0) 23)) (by omega) _)
                obtain ⟨W7, hwo⟩ : ∃ v : World, v = ((W6.alloc (.cells (bcells 64 fun _ => 0) 23)).setRow (W6.heap.size) (bcells 64 (prd p g q))) := ⟨_, rfl⟩
                rw [← hwo] at qB0 qB1 qB2 qB3 qhb ⊢
                clear hwo
                clear B0 B1 B2 hb
                have B0 := qB0
                have B1 := qB1
                have B2 := qB2
                have B3 := qB3
                have hb := qhb
                clear qB0 qB1 qB2 qB3 qhb
                obtain ⟨N3, hNN⟩ : ∃ n : Nat, n = W6.heap.size := ⟨_, rfl⟩
                rw [← hNN] at lt_B0 lt_B1 lt_B2 lhb B3 ⊢
                clear hNN
                have zN3_0 := lt_B0
                have zN3_1 := lt_B1
                have zN3_2 := lt_B2
                have zN3 := lhb
                clear lt_B0 lt_B1 lt_B2 lhb
                try simp only [Act.put, List.setIfInBounds_toArray, List.set_cons_zero, List.set_cons_succ]
                have lt_B0 := B0.lt
                have lt_B1 := B1.lt
                have lt_B2 := B2.lt
                have lt_B3 := B3.lt
                go_upto_region 10 with (first | rw [← zero64] | (refine wpList_load_any rfl 23 (.tmp 12) rfl _ rfl 64 23 _ (B3) _ Try.underlying23 rfl Try.size23 ?_) | (refine wpList_store_blk rfl 23 (.tmp 7) (.tmp 52) rfl _ 64 (prd p g q) rfl rfl 23 _ (B1) Try.size23 ?_; try simp only [Act.put]))
                have qB0 : Blk (W7.setRow (N1) (bcells 64 (prd p g q))) (w.heap.size) 64 23 (fun _ => 0) := (B0.rowOther (by omega))
                have qB1 : Blk (W7.setRow (N1) (bcells 64 (prd p g q))) (N1) 64 23 (prd p g q) := (B1.row (prd p g q))
                have qB2 : Blk (W7.setRow (N1) (bcells 64 (prd p g q))) (N2) 64 23 (q) := (B2.rowOther (by omega))
                have qB3 : Blk (W7.setRow (N1) (bcells 64 (prd p g q))) (N3) 64 23 (prd p g q) := (B3.rowOther (by omega))
                have qhb : Below w.heap.size w (W7.setRow (N1) (bcells 64 (prd p g q))) := (below_row hb (by omega) _)
                obtain ⟨W8, hwo⟩ : ∃ v : World, v = (W7.setRow (N1) (bcells 64 (prd p g q))) := ⟨_, rfl⟩
                rw [← hwo] at qB0 qB1 qB2 qB3 qhb ⊢
                clear hwo
                clear B0 B1 B2 B3 hb
                have B0 := qB0
                have B1 := qB1
                have B2 := qB2
                have B3 := qB3
                have hb := qhb
                clear qB0 qB1 qB2 qB3 qhb
                try simp only [Act.put, List.setIfInBounds_toArray, List.set_cons_zero, List.set_cons_succ]
                go_wp2_with fail
                go_roundw
                case rel => exact ⟨e, _, by go_num, by omega, HN, Lib.hid (fun k _ => prd_lt (by omega) k), hb, B0, B1⟩
                case measure => simp [intOf] <;> omega
              · have HV := Lib.hid (HV3.out (show cfN p N = none by rw [hf.out]; exact HOn.out (by rw [hg.out, cfS_no hd])))
                have HTV := Lib.hid (show tmV p g q = (fun _ => 0, false) from if_neg hd)
                clear hd
                go_upto_region 11 with (fail)
                have lt_B0 := B0.lt
                have lt_B1 := B1.lt
                go_upto_region 14 with (first | rw [← zero64] | (go_at_call 132; refine (HFF.out _).mono ?_; rintro e W4 ⟨rfl, hW4⟩; replace B0 := B0.below hW4 B0.lt; replace B1 := B1.below hW4 B1.lt; replace hb := (hb).trans (hW4.mono (hb).size)) | (refine wpList_store_blk rfl 23 (.tmp 10) (.tmp 37) rfl _ 64 (q) rfl rfl 23 _ ((Blk.new W4 64 23 (fun _ => 0))) Try.size23 ?_; try simp only [Act.put]; go_upto_region 14 with (fail)))
                have lt_B0 := B0.lt
                have lt_B1 := B1.lt
                have lhb := hb.size
                have qB0 : Blk ((W4.alloc (.cells (bcells 64 fun _ => 0) 23)).setRow (W4.heap.size) (bcells 64 (q))) (w.heap.size) 64 23 (fun _ => 0) := ((B0.alloc (.cells (bcells 64 fun _ => 0) 23)).rowOther (by omega))
                have qB1 : Blk ((W4.alloc (.cells (bcells 64 fun _ => 0) 23)).setRow (W4.heap.size) (bcells 64 (q))) (N1) 64 23 (g) := ((B1.alloc (.cells (bcells 64 fun _ => 0) 23)).rowOther (by omega))
                have qB2 : Blk ((W4.alloc (.cells (bcells 64 fun _ => 0) 23)).setRow (W4.heap.size) (bcells 64 (q))) (W4.heap.size) 64 23 (q) := ((Blk.new W4 64 23 (fun _ => 0)).row (q))
                have qhb : Below w.heap.size w ((W4.alloc (.cells (bcells 64 fun _ => 0) 23)).setRow (W4.heap.size) (bcells 64 (q))) := (below_row (hb.alloc (by have := hb.size; simp; omega) (.cells (bcells 64 fun _ => 0) 23)) (by omega) _)
                obtain ⟨W5, hwo⟩ : ∃ v : World, v = ((W4.alloc (.cells (bcells 64 fun _ => 0) 23)).setRow (W4.heap.size) (bcells 64 (q))) := ⟨_, rfl⟩
                rw [← hwo] at qB0 qB1 qB2 qhb ⊢
                clear hwo
                clear B0 B1 hb
                have B0 := qB0
                have B1 := qB1
                have B2 := qB2
                have hb := qhb
                clear qB0 qB1 qB2 qhb
                obtain ⟨N2, hNN⟩ : ∃ n : Nat, n = W4.heap.size := ⟨_, rfl⟩
                rw [← hNN] at lt_B0 lt_B1 lhb B2 ⊢
                clear hNN
                have zN2_0 := lt_B0
                have zN2_1 := lt_B1
                have zN2 := lhb
                clear lt_B0 lt_B1 lhb
                try simp only [Act.put, List.setIfInBounds_toArray, List.set_cons_zero, List.set_cons_succ]
                have lt_B0 := B0.lt
                have lt_B1 := B1.lt
                have lt_B2 := B2.lt
                go_upto_region 16 with (first | rw [← zero64] | (refine wpList_load_any rfl 23 (.tmp 7) rfl _ rfl 64 23 _ (B1) _ Try.underlying23 rfl Try.size23 ?_) | (refine wpList_load_any rfl 23 (.tmp 10) rfl _ rfl 64 23 _ (B2) _ Try.underlying23 rfl Try.size23 ?_) | (go_at_call 76; refine (HTM.out _).mono ?_; rintro e W6 ⟨rfl, hW6⟩; replace B0 := B0.below hW6 B0.lt; replace B1 := B1.below hW6 B1.lt; replace B2 := B2.below hW6 B2.lt; replace hb := (hb).trans (hW6.mono (hb).size); rw [HTV.out]) | (refine wpList_store_blk rfl 23 (.tmp 12) (.tmp 47) rfl _ 64 (fun _ => 0) rfl rfl 23 _ ((Blk.new W6 64 23 (fun _ => 0))) Try.size23 ?_; try simp only [Act.put]; go_upto_region 16 with (fail)))
                have lt_B0 := B0.lt
                have lt_B1 := B1.lt
                have lt_B2 := B2.lt
                have lhb := hb.size
                have qB0 : Blk ((W6.alloc (.cells (bcells 64 fun _ => 0) 23)).setRow (W6.heap.size) (bcells 64 (fun _ => 0))) (w.heap.size) 64 23 (fun _ => 0) := ((B0.alloc (.cells (bcells 64 fun _ => 0) 23)).rowOther (by omega))
                have qB1 : Blk ((W6.alloc (.cells (bcells 64 fun _ => 0) 23)).setRow (W6.heap.size) (bcells 64 (fun _ => 0))) (N1) 64 23 (g) := ((B1.alloc (.cells (bcells 64 fun _ => 0) 23)).rowOther (by omega))
                have qB2 : Blk ((W6.alloc (.cells (bcells 64 fun _ => 0) 23)).setRow (W6.heap.size) (bcells 64 (fun _ => 0))) (N2) 64 23 (q) := ((B2.alloc (.cells (bcells 64 fun _ => 0) 23)).rowOther (by omega))
                have qB3 : Blk ((W6.alloc (.cells (bcells 64 fun _ => 0) 23)).setRow (W6.heap.size) (bcells 64 (fun _ => 0))) (W6.heap.size) 64 23 (fun _ => 0) := ((Blk.new W6 64 23 (fun _ => 0)).row (fun _ => 0))
                have qhb : Below w.heap.size w ((W6.alloc (.cells (bcells 64 fun _ => 0) 23)).setRow (W6.heap.size) (bcells 64 (fun _ => 0))) := (below_row (hb.alloc (by have := hb.size; simp; omega) (.cells (bcells 64 fun _ => 0) 23)) (by omega) _)
                obtain ⟨W7, hwo⟩ : ∃ v : World, v = ((W6.alloc (.cells (bcells 64 fun _ => 0) 23)).setRow (W6.heap.size) (bcells 64 (fun _ => 0))) := ⟨_, rfl⟩
                rw [← hwo] at qB0 qB1 qB2 qB3 qhb ⊢
                clear hwo
                clear B0 B1 B2 hb
                have B0 := qB0
                have B1 := qB1
                have B2 := qB2
                have B3 := qB3
                have hb := qhb
                clear qB0 qB1 qB2 qB3 qhb
                obtain ⟨N3, hNN⟩ : ∃ n : Nat, n = W6.heap.size := ⟨_, rfl⟩
                rw [← hNN] at lt_B0 lt_B1 lt_B2 lhb B3 ⊢
                clear hNN
                have zN3_0 := lt_B0
                have zN3_1 := lt_B1
                have zN3_2 := lt_B2
                have zN3 := lhb
                clear lt_B0 lt_B1 lt_B2 lhb
                try simp only [Act.put, List.setIfInBounds_toArray, List.set_cons_zero, List.set_cons_succ]
                have lt_B0 := B0.lt
                have lt_B1 := B1.lt
                have lt_B2 := B2.lt
                have lt_B3 := B3.lt
                go_wp2_with (first | rw [← zero64] | (refine wpList_store_blk rfl 23 (.tmp 4) (.tmp 51) rfl _ 64 (fun _ => 0) rfl rfl 23 _ (B0) Try.size23 ?_; try simp only [Act.put]; go_wp2_with fail))
                have qB0 : Blk (W7.setRow (w.heap.size) (bcells 64 (fun _ => 0))) (w.heap.size) 64 23 (fun _ => 0) := (B0.row (fun _ => 0))
                have qB1 : Blk (W7.setRow (w.heap.size) (bcells 64 (fun _ => 0))) (N1) 64 23 (g) := (B1.rowOther (by omega))
                have qB2 : Blk (W7.setRow (w.heap.size) (bcells 64 (fun _ => 0))) (N2) 64 23 (q) := (B2.rowOther (by omega))
                have qB3 : Blk (W7.setRow (w.heap.size) (bcells 64 (fun _ => 0))) (N3) 64 23 (fun _ => 0) := (B3.rowOther (by omega))
                have qhb : Below w.heap.size w (W7.setRow (w.heap.size) (bcells 64 (fun _ => 0))) := (below_row hb (by omega) _)
                obtain ⟨W8, hwo⟩ : ∃ v : World, v = (W7.setRow (w.heap.size) (bcells 64 (fun _ => 0))) := ⟨_, rfl⟩
                rw [← hwo] at qB0 qB1 qB2 qB3 qhb ⊢
                clear hwo
                clear B0 B1 B2 B3 hb
                have B0 := qB0
                have B1 := qB1
                have B2 := qB2
                have B3 := qB3
                have hb := qhb
                clear qB0 qB1 qB2 qB3 qhb
                try simp only [Act.put, List.setIfInBounds_toArray, List.set_cons_zero, List.set_cons_succ]
                refine bodyPost_ret (results_bt rfl _ _ _ 64 23 5 _ rfl B0 Try.underlying23 Try.size23) rfl ⟨by first | (rw [HV.out]; rfl) | rw [HV.out], hb⟩
          · obtain rfl : d = 0 := by omega
            have hcI : ¬ (((0 : Nat) : Int) > 0) := by omega
            have HN := Lib.hid (show cfN p N = cfO p fu (i + 1) m2 g by rw [hf.out]; exact HOs.out g (by rw [hg.out, cfS_z]))
            go_wp2_with fail
            go_roundw
            case rel => exact ⟨m2, i + 1, fu, g, rfl, by go_num, HN, by omega, by omega, HIL, lg, hb, B0, B1⟩
            case measure => simp [intOf] <;> omega
      · obtain rfl : m = 0 := by omega
        have HV := Lib.hid (HV0.out f (show cfN p N = some f by rw [hf.out, cfO_z]))
        have hmI : ¬ (((0 : Nat) : Int) > 0) := by omega
        go_upto_region 19 with (fail)
        have lt_B0 := B0.lt
        have lt_B1 := B1.lt
        go_wp2_with (first | rw [← zero64] | (refine wpList_load_any rfl 23 (.tmp 7) rfl _ rfl 64 23 _ (B1) _ Try.underlying23 rfl Try.size23 ?_) | (refine wpList_store_blk rfl 23 (.tmp 4) (.tmp 56) rfl _ 64 (f) rfl rfl 23 _ (B0) Try.size23 ?_; try simp only [Act.put]; go_wp2_with fail))
        have qB0 : Blk (wr.setRow (w.heap.size) (bcells 64 (f))) (w.heap.size) 64 23 (f) := (B0.row (f))
        have qB1 : Blk (wr.setRow (w.heap.size) (bcells 64 (f))) (N1) 64 23 (f) := (B1.rowOther (by omega))
        have qhb : Below w.heap.size w (wr.setRow (w.heap.size) (bcells 64 (f))) := (below_row hb (by omega) _)
        obtain ⟨W4, hwo⟩ : ∃ v : World, v = (wr.setRow (w.heap.size) (bcells 64 (f))) := ⟨_, rfl⟩
        rw [← hwo] at qB0 qB1 qhb ⊢
        clear hwo
        clear B0 B1 hb
        have B0 := qB0
        have B1 := qB1
        have hb := qhb
        clear qB0 qB1 qhb
        try simp only [Act.put, List.setIfInBounds_toArray, List.set_cons_zero, List.set_cons_succ]
        refine bodyPost_ret (results_bt rfl _ _ _ 64 23 5 _ rfl B0 Try.underlying23 Try.size23) rfl ⟨by first | (rw [HV.out]; rfl) | rw [HV.out], hb⟩
end Go.Proofs.Ytbjpkmbhbpcbgaa
end
section
namespace Go.Proofs.Ytbjpkmbhbpcbgaa
open Go.RowKit
set_option linter.unusedVariables false
set_option linter.unusedSimpArgs false
set_option maxRecDepth 100000 in
set_option maxHeartbeats 1600000 in
theorem FnExactCarlitzFactorial_walk (p : Int) (i : Int)  (w : World) :
    Calls Try.prog 22 #[.int .i64 p, .int .i64 i] w fun e w' => e = .returned (.bool true) ∧ Below w.heap.size w w' := by
  go_enter Try.func22, Try.ntmps22
  go_upto_region 1 with (fail)
  obtain ⟨wo, hwo⟩ : ∃ wo : World, wo = w := ⟨_, rfl⟩
  have hb : Below w.heap.size w wo := by subst hwo; exact (Below.refl _ _)
  rw [← hwo]
  clear hwo
  have ha : Below wo.heap.size wo wo := Below.refl _ _
  go_upto_region 2 with (first | (go_at_call 70; refine (acc (spec_CarlitzFactorial_any p i _) (by assumption)).mono ?_; rintro e w1z ⟨rfl, hz, ha⟩) | refine wpList_store_new rfl 23 _ _ rfl _ 23 64 ((opV 0 1000 cfN p i).1) rfl rfl rfl Try.size23 ?_)
  have hb6 := Blk.new w1z 64 23 ((opV 0 1000 cfN p i).1)
  have hS1 := ha.trans ((below_alloc' w1z (.cells (bcells 64 ((opV 0 1000 cfN p i).1)) 23)).mono ha.size)
  clear ha
  obtain ⟨w1, hwx⟩ : ∃ v : World, v = w1z.alloc (.cells (bcells 64 ((opV 0 1000 cfN p i).1)) 23) := ⟨_, rfl⟩
  rw [← hwx] at hb6 hS1 ⊢
  clear hwx
  obtain ⟨b6, hbi⟩ : ∃ b : Nat, b = w1z.heap.size := ⟨_, rfl⟩
  rw [← hbi] at hb6 ⊢
  clear hbi
  have ha : Below w1.heap.size w1 w1 := Below.refl _ _
  go_upto_region 3 with (first | (go_at_call 71; refine (acc (impl_CarlitzFactorial_any p i _) (by assumption)).mono ?_; rintro e w2z ⟨rfl, hz, ha⟩) | refine wpList_store_new rfl 23 _ _ rfl _ 23 64 ((opV 0 1000 cfN p i).1) rfl rfl rfl Try.size23 ?_)
  have hq6 := Blk.new w2z 64 23 ((opV 0 1000 cfN p i).1)
  have hS2 := ha.trans ((below_alloc' w2z (.cells (bcells 64 ((opV 0 1000 cfN p i).1)) 23)).mono ha.size)
  clear ha
  obtain ⟨w2, hwx⟩ : ∃ v : World, v = w2z.alloc (.cells (bcells 64 ((opV 0 1000 cfN p i).1)) 23) := ⟨_, rfl⟩
  rw [← hwx] at hq6 hS2 ⊢
  clear hwx
  obtain ⟨q6, hbi⟩ : ∃ b : Nat, b = w2z.heap.size := ⟨_, rfl⟩
  rw [← hbi] at hq6 ⊢
  clear hbi
  replace hb6 := hb6.below hS2 hb6.lt
  have ha : Below w2.heap.size w2 w2 := Below.refl _ _
  have hne : (((opV 0 1000 cfN p i).2) != ((opV 0 1000 cfN p i).2)) = false := by simp
  go_wp2_with (first | refine wpList_load_blk rfl 23 _ rfl _ rfl 64 23 _ (hq6.below (by assumption) hq6.lt) 5 Try.underlying23 Try.size23 ?_ | refine wpList_load_blk rfl 23 _ rfl _ rfl 64 23 _ (hb6.below (by assumption) hb6.lt) 5 Try.underlying23 Try.size23 ?_ | (go_at_call 26; refine (acc (eqPoly_same _ _ (fun _ _ => rfl) _) (by assumption)).mono ?_; rintro e w3 ⟨rfl, h3, ha⟩))
  go_ret
  exact ⟨rfl, hb.trans ((hS1.trans ((hS2.trans (ha.mono hS2.size)).mono hS1.size)).mono hb.size)⟩
end Go.Proofs.Ytbjpkmbhbpcbgaa
end
