/-
  What the rows of this claim rest on: arrays of bytes, walks of the functions, plain mathematics.
-/
import Derived.Test.YtbjpkmbhbpcbgaaZb7
import Derived.WalkKit
import Derived.WalkSpells
import Derived.WalkLawsBesides
import Derived.Lib.Hide
import Derived.Laws.Rows
import Derived.Laws.CopyOwn
import Derived.Deep.QuietTactic
import Derived.Deep.WholeRow
import Derived.Deep.Draws
import Derived.Deep.MidRow
import Derived.Deep.CutRange
import Derived.Deep.DeepCutAuto
import Derived.Deep.RegionHeld3
import Derived.BigQuiet
import Derived.BigRegion
import Derived.Test.YtbjpkmbhbpcbgaaRows
import Derived.Great.BuildSlice
import Derived.Laws.Tables
import Derived.Laws.StructEq
import Derived.ScopeJumps
import Derived.OwnWalk
import Derived.RangeFuncNested
import Derived.RangeFuncBound
import Derived.RangeFuncCalls
import Derived.RangeFuncLeaves
import Derived.Shelf.Abstract
import Derived.Shelf.RegionOpen
import Derived.OwnWalkIn
import Derived.TacticsInMore
import Derived.LoopNIn
import Derived.LoopIn
import Derived.Deep.CutBlock
import Derived.Maps.OwnOps
import Derived.DeepKeys4
import Derived.Carry
import Derived.Test.YtbjpkmbhbpcbgaaProg
section
namespace Go.Proofs.Ytbjpkmbhbpcbgaa
open Go Go.RowKit
set_option linter.unusedVariables false
theorem skN_spec (F : Nat → Nat → Nat) : ∀ n i, i < n → skN F n < (i : Int) → eqN 64 (F i) (fun _ => 0) = true
  | 0, i, h, _ => by omega
  | n + 1, i, h, h2 => by
    cases he : eqN 64 (F n) (fun _ => 0) with
    | true =>
      by_cases e : i = n
      · subst e; exact he
      · rw [skN_skip he] at h2; exact skN_spec F n i (by omega) h2
    | false => rw [skN_stop he] at h2; omega
end Go.Proofs.Ytbjpkmbhbpcbgaa
end
section
set_option linter.unusedVariables false
namespace Go.Proofs.Ytbjpkmbhbpcbgaa
open Rg
section
variable {p : Nat} {m : Nat → Int}
theorem rs_zero : (rs (fun _ => 0) : Res p m) = o := cl_eq.2 (rm_of_cg fun k => by unfold lz cut zS; simp)
end
theorem rs_mm {p : Nat} {a b m : Nat → Nat} (hp : p = 2 ∨ p = 3 ∨ p = 5 ∨ p = 7) (hm : ∀ k, k < 64 → m k < p) (h0 : 0 ≤ deg m) : (rs (mmP p a b m) : Res p (lz m)) = rs a * rs b := cl_eq.2 (rm_symm (mmP_rm hp hm h0))
end Go.Proofs.Ytbjpkmbhbpcbgaa
end
section
namespace Go.Proofs.Ytbjpkmbhbpcbgaa
open Rg
set_option linter.unusedVariables false
theorem frN_add (p : Nat) (m x : Nat → Nat) (a : Nat) : ∀ b, frN p m (frN p m x a) b = frN p m x (a + b)
  | 0 => rfl
  | b + 1 => by rw [frN_s, frN_add p m x a b, ← Nat.add_assoc, frN_s]
section
variable {p : Nat} {m : Nat → Nat} (hp : p = 2 ∨ p = 3 ∨ p = 5 ∨ p = 7) (lm : ∀ k, k < 64 → m k < p) (h0 : 0 ≤ deg m) (h9 : deg m ≤ 9)
include hp lm h0 h9
theorem frN_d {x : Nat → Nat} {d : Nat} (hi : irr p (cut m) d) (h : rsd p m x) : ∀ k, k < 64 → frN p m x d k = x k := by
  obtain ⟨a, b⟩ := frN_ok hp lm h0 h9 h d
  refine rsd_eq hp lm h0 a h ?_
  have e1 : lz (cut m) = lz m := by funext k; unfold lz; rw [cut_cut]
  have h1 := (irr_T hp hi).1
  rw [e1] at h1
  have ht : fr' p d (tt : Res p (lz m)) = tt := by
    unfold fr'
    show pw (cl TS fin_TS : Res p (lz m)) (p ^ d) = cl TS fin_TS
    rw [pw_cl]
    exact cl_eq.2 h1
  rw [b, rs_list x, fr_pe hp res_char, ht]
/-- as often as the number tells, modulo d -/
theorem frN_next {x : Nat → Nat} {d : Nat} (hi : irr p (cut m) d) (hd : 1 ≤ d) (h : rsd p m x) (i : Nat) : ∀ k, k < 64 → frN p m (frN p m x (i % d)) (1 % d) k = frN p m x ((i + 1) % d) k := by
  intro k hk
  rw [frN_add]
  by_cases h1 : d = 1
  · subst h1; rw [Nat.mod_one, Nat.mod_one, Nat.mod_one]
  · rw [Nat.mod_eq_of_lt (show 1 < d by omega)]
    by_cases h2 : i % d + 1 < d
    · rw [show (i + 1) % d = i % d + 1 by rw [Nat.add_mod, Nat.mod_eq_of_lt (show 1 < d by omega), Nat.mod_eq_of_lt h2]]
    · have h3 : i % d + 1 = d := by have := Nat.mod_lt i (show 0 < d by omega); omega
      rw [h3, show (i + 1) % d = 0 by rw [Nat.add_mod, Nat.mod_eq_of_lt (show 1 < d by omega), h3, Nat.mod_self], frN_z]
      exact frN_d hp lm h0 h9 hi h k hk
end
end Go.Proofs.Ytbjpkmbhbpcbgaa
end
section
namespace Go.Proofs.Ytbjpkmbhbpcbgaa
open Rg
set_option linter.unusedVariables false
theorem mm_zero {p : Nat} {m a b : Nat → Nat} (hp : p = 2 ∨ p = 3 ∨ p = 5 ∨ p = 7) (lm : ∀ k, k < 64 → m k < p) (h0 : 0 ≤ deg m) (ha : ∀ k, k < 64 → a k = 0) : ∀ k, k < 64 → mmP p a b m k = 0 := by
  have hz : deg (fun _ => 0 : Nat → Nat) < 0 := by
    rcases deg_spec (fun _ => 0) with ⟨h, _⟩ | ⟨d, _, _, h, _⟩
    · omega
    · exact absurd rfl h
  refine rsd_eq (y := fun _ => 0) hp lm h0 ⟨fun k hk => mmP_lt (by omega) k (by omega), mmP_deg hp lm h0⟩ ⟨fun k _ => by show 0 < p; omega, by omega⟩ ?_
  have e : (rs a : Res p (lz m)) = rs (fun _ => 0) := cl_congr (by
    funext k
    unfold lz cut
    by_cases h : k < 64
    · rw [if_pos h, if_pos h, ha k h]
    · rw [if_neg h, if_neg h])
  rw [rs_mm hp lm h0, e, rs_zero, omul]
theorem addK_zero {p : Nat} {f g : Nat → Nat} (hf : ∀ k, k < 64 → f k < p) (hg : ∀ k, k < 64 → g k = 0) : ∀ k, k < 64 → addK p f g 1 k = f k := by
  intro k hk
  rw [addK_one]
  show (f k + g k) % p = f k
  rw [hg k hk, Nat.add_zero, Nat.mod_eq_of_lt (hf k hk)]
/-- the value, summed up below i -/
def vlR (p : Nat) (m : Nat → Nat) (d : Nat) (F : Nat → Nat → Nat) (x : Nat → Nat) : Nat → (Nat → Nat)
  | 0 => fun _ => 0
  | i + 1 => addK p (vlR p m d F x i) (mmP p (F i) (frN p m x (i % d)) m) 1
theorem vlR_z (p : Nat) (m : Nat → Nat) (d : Nat) (F : Nat → Nat → Nat) (x : Nat → Nat) : vlR p m d F x 0 = fun _ => 0 := rfl
theorem vlR_s (p : Nat) (m : Nat → Nat) (d : Nat) (F : Nat → Nat → Nat) (x : Nat → Nat) (i : Nat) : vlR p m d F x (i + 1) = addK p (vlR p m d F x i) (mmP p (F i) (frN p m x (i % d)) m) 1 := rfl
theorem vlR_lt {p : Nat} {m : Nat → Nat} {d : Nat} {F : Nat → Nat → Nat} {x : Nat → Nat} (hp : 0 < p) : ∀ i k, vlR p m d F x i k < p
  | 0, k => hp
  | i + 1, k => addK_lt hp k
theorem vlR_skip {p : Nat} {m : Nat → Nat} {d : Nat} {F : Nat → Nat → Nat} {x : Nat → Nat} {i : Nat} (hp : p = 2 ∨ p = 3 ∨ p = 5 ∨ p = 7) (lm : ∀ k, k < 64 → m k < p) (h0 : 0 ≤ deg m) (h : eqN 64 (F i) (fun _ => 0) = true) : ∀ k, k < 64 → vlR p m d F x i k = vlR p m d F x (i + 1) k := by
  intro k hk
  rw [vlR_s]
  exact (addK_zero (fun k _ => vlR_lt (by omega) i k) (mm_zero hp lm h0 (eqN_iff.1 h)) k hk).symm
theorem vlR_tail {p : Nat} {m : Nat → Nat} {d : Nat} {F : Nat → Nat → Nat} {x : Nat → Nat} (hp : p = 2 ∨ p = 3 ∨ p = 5 ∨ p = 7) (lm : ∀ k, k < 64 → m k < p) (h0 : 0 ≤ deg m) {n : Nat} (hn : skD F = (n : Int) - 1) : ∀ j, n + j ≤ 8 → ∀ k, k < 64 → vlR p m d F x n k = vlR p m d F x (n + j) k
  | 0, _, k, _ => rfl
  | j + 1, h, k, hk => by
    rw [vlR_tail hp lm h0 hn j (by omega) k hk]
    exact vlR_skip hp lm h0 (skN_spec F 8 (n + j) (by omega) (by have : skN F 8 = skD F := rfl; omega)) k hk
attribute [irreducible] vlR
end Go.Proofs.Ytbjpkmbhbpcbgaa
end
section
namespace Go.Proofs.Ytbjpkmbhbpcbgaa
open Go Go.RowKit
set_option linter.unusedVariables false
set_option linter.unusedSimpArgs false
attribute [local irreducible] deg addK strP frI frN mmP pmP resP
set_option maxRecDepth 100000 in
set_option maxHeartbeats 1600000 in
theorem skValue_any (p : Nat) (m : Nat → Nat) (F : Nat → Nat → Nat) (x : Nat → Nat) (w : World) (hpr : p = 2 ∨ p = 3 ∨ p = 5 ∨ p = 7) (lm : ∀ k, k < 64 → m k < p) (d : Nat) (hd : deg m = (d : Int)) (hd1 : 1 ≤ d) (hd9 : d ≤ 9) (lF : ∀ i, i < 8 → ∀ k, k < 64 → F i k < p) (hx : rsd p m x) (hi : irr p (cut m) d) :
    Calls Try.prog 105 #[.agg (bcells 512 (fl 64 F)), .agg (fdC (p : Int) m).toArray, .agg (bcells 64 x)] w fun e w' => e = .returned (.agg (bcells 64 (vlR p m d F x 8))) ∧ Below w.heap.size w w' := by
  have p0 : 0 < p := by omega
  have h0 : 0 ≤ deg m := by omega
  have h9 : deg m ≤ 9 := by omega
  have p2 : 2 ≤ p := by omega
  have p7 : p ≤ 7 := by omega
  obtain ⟨fb1, fb2⟩ := skD_bounds F
  obtain ⟨N, hN⟩ : ∃ N : Nat, skD F = (N : Int) - 1 := ⟨(skD F + 1).toNat, by omega⟩
  have HD := Lib.hid hN
  have hN8 : N ≤ 8 := by omega
  have HX := Lib.hid (fun j => (frN_ok hpr lm h0 h9 hx j).1)
  have HKP := Lib.hid (fun j (hj : j < 8) W => kproduct_any p m (F j) (frN p m x (j % d)) W hpr lm h0 (lF j hj) (HX.out (j % d)).1)
  have HKF := Lib.hid (show ∀ j W, Calls Try.prog 166 #[.agg (fdC (p : Int) m).toArray, .agg (bcells 64 (frN p m x (j % d))), .int .i64 1] W fun e w' => e = .returned (.agg (bcells 64 (frN p m x ((j + 1) % d)))) ∧ Below W.heap.size W w' from fun j W => by
    have h := kfrob_any p m (frN p m x (j % d)) 1 W hpr lm d hd hd1 hd9 (by omega) (HX.out (j % d))
    rw [bcells_congr (frN_next hpr lm h0 h9 hi hd1 hx j)] at h
    exact h)
  have HSU := Lib.hid (show ∀ j W, Calls Try.prog 162 #[.int .i64 (p : Int), .agg (bcells 64 (vlR p m d F x j)), .agg (bcells 64 (mmP p (F j) (frN p m x (j % d)) m))] W fun e w' => e = .returned (.agg (bcells 64 (vlR p m d F x (j + 1)))) ∧ Below W.heap.size W w' from fun j W => by
    rw [vlR_s, addK_one]; exact sum_any p _ _ W p2 p7 (fun k _ => vlR_lt p0 j k) (fun k hk => mmP_lt p0 k (by omega)))
  have HZ := Lib.hid (vlR_z p m d F x)
  have HZ2 := Lib.hid (show frN p m x (0 % d) = x by rw [Nat.zero_mod, frN_z])
  have HV := Lib.hid (show bcells 64 (vlR p m d F x N) = bcells 64 (vlR p m d F x 8) from bcells_congr (by
    have h := vlR_tail (d := d) (x := x) hpr lm h0 hN (8 - N) (by omega)
    rwa [show N + (8 - N) = 8 by omega] at h))
  clear hN fb1 fb2 hx hi
  go_enter Try.func105, Try.ntmps105
  go_upto_region 1 with (fail)
  rw [← zero64]
  obtain ⟨W1, hwo⟩ : ∃ v : World, v = ((((w.alloc (.cells (bcells 512 (fl 64 F)) 34)).alloc (.cells (fdC (p : Int) m).toArray 83)).alloc (.cells (bcells 64 (x)) 23)).alloc (.cells (bcells 64 (fun _ => 0)) 23)) := ⟨_, rfl⟩
  have B0 : Blk W1 (w.heap.size) 512 34 (fl 64 F) := by subst hwo; have := ((((Blk.new w 512 34 (fl 64 F)).alloc (.cells (fdC (p : Int) m).toArray 83)).alloc (.cells (bcells 64 (x)) 23)).alloc (.cells (bcells 64 (fun _ => 0)) 23)); simpa using this
  have B1 : Row W1 (w.heap.size + 1) 83 (fdC (p : Int) m).toArray := by subst hwo; have := (((Row.new (w.alloc (.cells (bcells 512 (fl 64 F)) 34)) 83 (fdC (p : Int) m).toArray).alloc (.cells (bcells 64 (x)) 23)).alloc (.cells (bcells 64 (fun _ => 0)) 23)); simpa using this
  have B2 : Blk W1 (w.heap.size + 1 + 1) 64 23 (x) := by subst hwo; have := ((Blk.new ((w.alloc (.cells (bcells 512 (fl 64 F)) 34)).alloc (.cells (fdC (p : Int) m).toArray 83)) 64 23 (x)).alloc (.cells (bcells 64 (fun _ => 0)) 23)); simpa using this
  have B3 : Blk W1 (w.heap.size + 1 + 1 + 1) 64 23 (fun _ => 0) := by subst hwo; have := (Blk.new (((w.alloc (.cells (bcells 512 (fl 64 F)) 34)).alloc (.cells (fdC (p : Int) m).toArray 83)).alloc (.cells (bcells 64 (x)) 23)) 64 23 (fun _ => 0)); simpa using this
  have hb : Below w.heap.size w W1 := by subst hwo; exact (((((Below.refl _ _).alloc (Nat.le_refl _) _).alloc (by simp) _).alloc (by simp; omega) _).alloc (by simp; omega) _)
  rw [← hwo]
  clear hwo
  go_upto_region 2 with (first | rw [← zero64])
  have lt_B0 := B0.lt
  have lt_B1 := B1.lt
  have lt_B2 := B2.lt
  have lt_B3 := B3.lt
  have lhb := hb.size
  have qB0 : Blk (W1.alloc (.cells (bcells 64 (fun _ => 0)) 23)) (w.heap.size) 512 34 (fl 64 F) := (B0.alloc (.cells (bcells 64 (fun _ => 0)) 23))
  have qB1 : Row (W1.alloc (.cells (bcells 64 (fun _ => 0)) 23)) (w.heap.size + 1) 83 (fdC (p : Int) m).toArray := (B1.alloc (.cells (bcells 64 (fun _ => 0)) 23))
  have qB2 : Blk (W1.alloc (.cells (bcells 64 (fun _ => 0)) 23)) (w.heap.size + 1 + 1) 64 23 (x) := (B2.alloc (.cells (bcells 64 (fun _ => 0)) 23))
  have qB3 : Blk (W1.alloc (.cells (bcells 64 (fun _ => 0)) 23)) (w.heap.size + 1 + 1 + 1) 64 23 (fun _ => 0) := (B3.alloc (.cells (bcells 64 (fun _ => 0)) 23))
  have qB4 : Blk (W1.alloc (.cells (bcells 64 (fun _ => 0)) 23)) (W1.heap.size) 64 23 (fun _ => 0) := (Blk.new W1 64 23 (fun _ => 0))
  have qhb : Below w.heap.size w (W1.alloc (.cells (bcells 64 (fun _ => 0)) 23)) := (hb.alloc (by have := hb.size; simp; omega) (.cells (bcells 64 (fun _ => 0)) 23))
  obtain ⟨W2, hwo⟩ : ∃ v : World, v = (W1.alloc (.cells (bcells 64 (fun _ => 0)) 23)) := ⟨_, rfl⟩
  rw [← hwo] at qB0 qB1 qB2 qB3 qB4 qhb ⊢
  clear hwo
  clear B0 B1 B2 B3 hb
  have B0 := qB0
  have B1 := qB1
  have B2 := qB2
  have B3 := qB3
  have B4 := qB4
  have hb := qhb
  clear qB0 qB1 qB2 qB3 qB4 qhb
  obtain ⟨N1, hNN⟩ : ∃ n : Nat, n = W1.heap.size := ⟨_, rfl⟩
  rw [← hNN] at lt_B0 lt_B1 lt_B2 lt_B3 lhb B4 ⊢
  clear hNN
  have zN1_0 := lt_B0
  have zN1_1 := lt_B1
  have zN1_2 := lt_B2
  have zN1_3 := lt_B3
  have zN1 := lhb
  clear lt_B0 lt_B1 lt_B2 lt_B3 lhb
  try simp only [Act.put, List.setIfInBounds_toArray, List.set_cons_zero, List.set_cons_succ]
  go_upto_region 99 with (first | (refine wpList_load_any rfl 34 (.tmp 3) rfl _ rfl 512 34 _ (B0) _ Try.underlying34 rfl Try.size34 ?_) | (go_at_call 97; refine (skDegree_any F _).mono ?_; rintro e W3 ⟨rfl, hW3⟩; replace B0 := B0.below hW3 B0.lt; replace B1 := B1.below hW3 B1.lt; replace B2 := B2.below hW3 B2.lt; replace B3 := B3.below hW3 B3.lt; replace B4 := B4.below hW3 B4.lt; replace hb := (hb).trans (hW3.mono (hb).size); rw [HD.out]))
  have hcnt : ((N : Int) - 1 + 1) = (N : Int) := by omega
  go_loopw [12] (fun c wr => ∃ j : Nat, c = .int .i64 (j : Int) ∧ j ≤ N ∧ Below w.heap.size w wr ∧ Blk wr (w.heap.size) 512 34 (fl 64 F) ∧ Row wr (w.heap.size + 1) 83 (fdC (p : Int) m).toArray ∧ Blk wr (w.heap.size + 1 + 1) 64 23 (frN p m x (j % d)) ∧ Blk wr (w.heap.size + 1 + 1 + 1) 64 23 (fun _ => 0) ∧ Blk wr (N1) 64 23 (vlR p m d F x j)) (fun c _ => N - (intOf c).toNat)
  case atStart => exact ⟨0, rfl, Nat.zero_le _, hb, B0, B1, by rw [HZ2.out]; exact B2, B3, by rw [HZ.out]; exact B4⟩
  case round =>
    clear hb B0 B1 B2 B3 B4
    obtain ⟨j, rfl, hjN, hb, B0, B1, B2, B3, B4⟩ := hrel
    by_cases hj : j < N
    · have hjI : (j : Int) < (N : Int) - 1 + 1 := by omega
      have hj8 : j < 8 := by omega
      have HK1 := Lib.hid (HKP.out j hj8)
      have HK2 := Lib.hid (HSU.out j)
      have HK3 := Lib.hid (HKF.out j)
      go_upto_region 5 with (fail)
      have lt_B0 : (w.heap.size) < wr.heap.size := B0.lt
      have lt_B1 : (w.heap.size + 1) < wr.heap.size := B1.lt
      have lt_B2 : (w.heap.size + 1 + 1) < wr.heap.size := B2.lt
      have lt_B3 : (w.heap.size + 1 + 1 + 1) < wr.heap.size := B3.lt
      have lt_B4 : (N1) < wr.heap.size := B4.lt
      have hbase : w.heap.size ≤ wr.heap.size := hb.size
      refine wp_region_steps0 Try.mixed (by kernel_rfl) (by kernel_rfl) (fun v => by (simp only [frL, Act.put, List.setIfInBounds_toArray, List.set_cons_zero, List.set_cons_succ, Nat.reduceAdd, Nat.zero_add]; exact rfl))
        (fun L v W4 => Below w.heap.size w W4 ∧ wr.heap.size ≤ W4.heap.size ∧ Blk W4 (w.heap.size) 512 34 (fl 64 F) ∧ Row W4 (w.heap.size + 1) 83 (fdC (p : Int) m).toArray ∧ Blk W4 (w.heap.size + 1 + 1) 64 23 (frN p m x (j % d)) ∧ Blk W4 (w.heap.size + 1 + 1 + 1) 64 23 (fun _ => 0) ∧ (∃ g, Blk W4 (N1) 64 23 (g)) ∧ (L 10 = false → Blk W4 (N1) 64 23 (vlR p m d F x j)) ∧ (L 10 = true → Blk W4 (N1) 64 23 (vlR p m d F x (j + 1))) ∧ (L 0 = true → v 0 = (.pointer (some ⟨w.heap.size + 1, 0, none⟩))) ∧ (L 1 = true → v 1 = (.int .i64 (p : Int))) ∧ (L 2 = true → v 2 = (.agg (bcells 64 (vlR p m d F x j)))) ∧ (L 3 = true → v 3 = (.agg (fdC (p : Int) m).toArray)) ∧ (L 4 = true → v 4 = (.int .i64 (j : Int))) ∧ (L 5 = true → v 5 = (.pointer (some ⟨w.heap.size, j * 64, none⟩))) ∧ (L 6 = true → v 6 = (.agg (bcells 64 (F j)))) ∧ (L 7 = true → v 7 = (.agg (bcells 64 (frN p m x (j % d))))) ∧ (L 8 = true → v 8 = (.agg (bcells 64 (mmP p (F j) (frN p m x (j % d)) m)))) ∧ (L 9 = true → v 9 = (.agg (bcells 64 (vlR p m d F x (j + 1)))))) ?_ ?_ ?_
      · intro v hv0
        exact ⟨hb.drew, Nat.le_refl _, B0.drew, B1.drew, B2.drew, B3.drew, ⟨_, B4.drew⟩, (fun _ => B4.drew), (fun h => by cases h), (fun h => by cases h), (fun h => by cases h), (fun h => by cases h), (fun h => by cases h), (fun h => by cases h), (fun h => by cases h), (fun h => by cases h), (fun h => by cases h), (fun h => by cases h), (fun h => by cases h)⟩
      · refine (.cons rfl ?_ (.cons rfl ?_ (.cons rfl ?_ (.cons rfl ?_ (.cons rfl ?_ (.cons rfl ?_ (.cons rfl ?_ (.cons rfl ?_ (.cons rfl ?_ (.cons rfl ?_ (.cons rfl ?_ (.nil _))))))))))))
        · intro L v W4 hd hn ⟨hB, hz, s0, s1, s2, s3, x4, q4, n4, h0, h1, h2, h3, h4, h5, h6, h7, h8, h9⟩ K hK
          go_wp2_with fail
          exact hK _ (.pointer (some ⟨w.heap.size + 1, 0, none⟩)) _ (by simp only [Act.put, List.setIfInBounds_toArray, List.set_cons_zero, List.set_cons_succ ]) ⟨hB, hz, s0, s1, s2, s3, x4, q4, n4, (fun _ => rfl), h1, h2, h3, h4, h5, h6, h7, h8, h9⟩
        · intro L v W4 hd hn ⟨hB, hz, s0, s1, s2, s3, x4, q4, n4, h0, h1, h2, h3, h4, h5, h6, h7, h8, h9⟩ K hK
          have e0 := h0 (hd ⟨0, .data⟩ (by simp) rfl)
          have cc := s1.cell (i := 0) (v := .int .i64 (p : Int)) (fdC_at (p : Int) m)
          go_wp2_with fail
          exact hK _ (.int .i64 (p : Int)) _ (by simp only [Act.put, List.setIfInBounds_toArray, List.set_cons_zero, List.set_cons_succ, e0]) ⟨hB, hz, s0, s1, s2, s3, x4, q4, n4, h0, (fun _ => rfl), h2, h3, h4, h5, h6, h7, h8, h9⟩
        · intro L v W4 hd hn ⟨hB, hz, s0, s1, s2, s3, x4, q4, n4, h0, h1, h2, h3, h4, h5, h6, h7, h8, h9⟩ K hK
          have s4 := q4 (by
            cases hL : L 10 with
            | false => rfl
            | true => exact absurd rfl (hn 10 _ rfl hL ⟨2, .phase⟩ (by simp) rfl))
          refine wp_load_any 23 _ rfl _ rfl 64 23 _ s4 _ Try.underlying23 rfl Try.size23 ?_
          exact hK _ _ _ rfl ⟨hB, hz, s0, s1, s2, s3, x4, q4, n4, h0, h1, (fun _ => rfl), h3, h4, h5, h6, h7, h8, h9⟩
        · intro L v W4 hd hn ⟨hB, hz, s0, s1, s2, s3, x4, q4, n4, h0, h1, h2, h3, h4, h5, h6, h7, h8, h9⟩ K hK
          refine wp_load_rowv 83 _ rfl _ rfl 83 _ s1 _ Try.underlying83 rfl 65 Try.size83 (by simp [fdC_len]) ?_
          exact hK _ _ _ rfl ⟨hB, hz, s0, s1, s2, s3, x4, q4, n4, h0, h1, h2, (fun _ => rfl), h4, h5, h6, h7, h8, h9⟩
        · intro L v W4 hd hn ⟨hB, hz, s0, s1, s2, s3, x4, q4, n4, h0, h1, h2, h3, h4, h5, h6, h7, h8, h9⟩ K hK
          go_wp2_with fail
          exact hK _ (.int .i64 (j : Int)) _ (by simp only [Act.put, List.setIfInBounds_toArray, List.set_cons_zero, List.set_cons_succ ]) ⟨hB, hz, s0, s1, s2, s3, x4, q4, n4, h0, h1, h2, h3, (fun _ => rfl), h5, h6, h7, h8, h9⟩
        · intro L v W4 hd hn ⟨hB, hz, s0, s1, s2, s3, x4, q4, n4, h0, h1, h2, h3, h4, h5, h6, h7, h8, h9⟩ K hK
          have e4 := h4 (hd ⟨4, .data⟩ (by simp) rfl)
          go_wp2_with fail
          exact hK _ (.pointer (some ⟨w.heap.size, j * 64, none⟩)) _ (by simp only [Act.put, List.setIfInBounds_toArray, List.set_cons_zero, List.set_cons_succ, e4]) ⟨hB, hz, s0, s1, s2, s3, x4, q4, n4, h0, h1, h2, h3, h4, (fun _ => rfl), h6, h7, h8, h9⟩
        · intro L v W4 hd hn ⟨hB, hz, s0, s1, s2, s3, x4, q4, n4, h0, h1, h2, h3, h4, h5, h6, h7, h8, h9⟩ K hK
          have e5 := h5 (hd ⟨5, .data⟩ (by simp) rfl)
          refine wp_load_mid 23 _ rfl _ (j * 64) e5 _ _ ((s0).sk (by omega)) Try.underlying23 rfl (by rw [bl_length]; exact Try.size23) ?_
          exact hK _ _ _ rfl ⟨hB, hz, s0, s1, s2, s3, x4, q4, n4, h0, h1, h2, h3, h4, h5, (fun _ => rfl), h7, h8, h9⟩
        · intro L v W4 hd hn ⟨hB, hz, s0, s1, s2, s3, x4, q4, n4, h0, h1, h2, h3, h4, h5, h6, h7, h8, h9⟩ K hK
          refine wp_load_any 23 _ rfl _ rfl 64 23 _ s2 _ Try.underlying23 rfl Try.size23 ?_
          exact hK _ _ _ rfl ⟨hB, hz, s0, s1, s2, s3, x4, q4, n4, h0, h1, h2, h3, h4, h5, h6, (fun _ => rfl), h8, h9⟩
        · intro L v W4 hd hn ⟨hB, hz, s0, s1, s2, s3, x4, q4, n4, h0, h1, h2, h3, h4, h5, h6, h7, h8, h9⟩ K hK
          have e3 := h3 (hd ⟨3, .data⟩ (by simp) rfl)
          have e6 := h6 (hd ⟨6, .data⟩ (by simp) rfl)
          have e7 := h7 (hd ⟨7, .data⟩ (by simp) rfl)
          go_wp2_with (go_at_call 165; refine (HK1.out _).mono ?_; rintro e wy ⟨rfl, hy⟩)
          exact hK _ (.agg (bcells 64 (mmP p (F j) (frN p m x (j % d)) m))) _ (by simp only [Act.put, List.setIfInBounds_toArray, List.set_cons_zero, List.set_cons_succ, e3, e6, e7]) ⟨hB.trans (hy.mono hB.size), (Nat.le_trans hz hy.size), (s0).below hy (s0).lt, (s1).below hy (s1).lt, (s2).below hy (s2).lt, (s3).below hy (s3).lt, (let ⟨g, h⟩ := x4; ⟨g, (h).below hy (h).lt⟩), (fun h => (q4 h).below hy (q4 h).lt), (fun h => (n4 h).below hy (n4 h).lt), h0, h1, h2, h3, h4, h5, h6, h7, (fun _ => rfl), h9⟩
        · intro L v W4 hd hn ⟨hB, hz, s0, s1, s2, s3, x4, q4, n4, h0, h1, h2, h3, h4, h5, h6, h7, h8, h9⟩ K hK
          have e1 := h1 (hd ⟨1, .data⟩ (by simp) rfl)
          have e2 := h2 (hd ⟨2, .data⟩ (by simp) rfl)
          have e8 := h8 (hd ⟨8, .data⟩ (by simp) rfl)
          go_wp2_with (go_at_call 162; refine (HK2.out _).mono ?_; rintro e wy ⟨rfl, hy⟩)
          exact hK _ (.agg (bcells 64 (vlR p m d F x (j + 1)))) _ (by simp only [Act.put, List.setIfInBounds_toArray, List.set_cons_zero, List.set_cons_succ, e1, e2, e8]) ⟨hB.trans (hy.mono hB.size), (Nat.le_trans hz hy.size), (s0).below hy (s0).lt, (s1).below hy (s1).lt, (s2).below hy (s2).lt, (s3).below hy (s3).lt, (let ⟨g, h⟩ := x4; ⟨g, (h).below hy (h).lt⟩), (fun h => (q4 h).below hy (q4 h).lt), (fun h => (n4 h).below hy (n4 h).lt), h0, h1, h2, h3, h4, h5, h6, h7, h8, (fun _ => rfl)⟩
        · intro L v W4 hd hn ⟨hB, hz, s0, s1, s2, s3, x4, q4, n4, h0, h1, h2, h3, h4, h5, h6, h7, h8, h9⟩ K hK
          have e9 := h9 (hd ⟨9, .data⟩ (by simp) rfl)
          obtain ⟨gz, hk⟩ := x4
          refine wp_store_blk 23 _ _ rfl _ 64 (vlR p m d F x (j + 1)) rfl e9 23 gz hk Try.size23 ?_
          exact hK _ undef _ rfl ⟨below_row hB (by omega) _, (by simpa [World.setRow] using hz), (s0).rowOther (by omega), (s1).rowOther (by omega), (s2).rowOther (by omega), (s3).rowOther (by omega), ⟨_, hk.row _⟩, (fun h => absurd h (by simp [setL])), (fun _ => hk.row _), h0, h1, h2, h3, h4, h5, h6, h7, h8, h9⟩
      · intro L v W4 hL ⟨hB, hz, s0, s1, s2, s3, x4, q4, n4, h0, h1, h2, h3, h4, h5, h6, h7, h8, h9⟩
        have r4 := n4 (hL 10 (by decide))
        have e0 := h0 (hL 0 (by decide))
        have e1 := h1 (hL 1 (by decide))
        have e2 := h2 (hL 2 (by decide))
        have e3 := h3 (hL 3 (by decide))
        have e4 := h4 (hL 4 (by decide))
        have e5 := h5 (hL 5 (by decide))
        have e6 := h6 (hL 6 (by decide))
        have e7 := h7 (hL 7 (by decide))
        have e8 := h8 (hL 8 (by decide))
        have e9 := h9 (hL 9 (by decide))
        clear hL x4 q4 n4 h0 h1 h2 h3 h4 h5 h6 h7 h8 h9
        simp only [Exit.then, e0, e1, e2, e3, e4, e5, e6, e7, e8, e9]
        clear e0 e1 e2 e3 e4 e5 e6 e7 e8 e9
        clear B0
        have B0 := s0
        clear s0
        clear B1
        have B1 := s1
        clear s1
        clear B2
        have B2 := s2
        clear s2
        clear B3
        have B3 := s3
        clear s3
        clear B4
        have B4 := r4
        clear r4
        clear hb
        have hb := hB
        clear hB
        clear hbase hz lt_B0 lt_B1 lt_B2 lt_B3 lt_B4
        go_upto_region 6 with (fail)
        have lt_B0 := B0.lt
        have lt_B1 := B1.lt
        have lt_B2 := B2.lt
        have lt_B3 := B3.lt
        have lt_B4 := B4.lt
        go_upto_region 7 with (first | rw [← zero64] | (refine wpList_load_rowv rfl 83 (.tmp 4) rfl _ rfl 83 (fdC (p : Int) m).toArray (B1) _ Try.underlying83 rfl 65 Try.size83 (by simp [fdC_len]) ?_) | (refine wpList_load_any rfl 23 (.tmp 5) rfl _ rfl 64 23 _ (B2) _ Try.underlying23 rfl Try.size23 ?_) | (go_at_call 166; refine (HK3.out _).mono ?_; rintro e W5 ⟨rfl, hW5⟩; replace B0 := B0.below hW5 B0.lt; replace B1 := B1.below hW5 B1.lt; replace B2 := B2.below hW5 B2.lt; replace B3 := B3.below hW5 B3.lt; replace B4 := B4.below hW5 B4.lt; replace hb := (hb).trans (hW5.mono (hb).size)) | (refine wpList_store_blk rfl 23 (.tmp 5) (.tmp 27) rfl _ 64 (frN p m x ((j + 1) % d)) rfl rfl 23 _ (B2) Try.size23 ?_; try simp only [Act.put]))
        have qB0 : Blk (W5.setRow (w.heap.size + 1 + 1) (bcells 64 (frN p m x ((j + 1) % d)))) (w.heap.size) 512 34 (fl 64 F) := (B0.rowOther (by omega))
        have qB1 : Row (W5.setRow (w.heap.size + 1 + 1) (bcells 64 (frN p m x ((j + 1) % d)))) (w.heap.size + 1) 83 (fdC (p : Int) m).toArray := (B1.rowOther (by omega))
        have qB2 : Blk (W5.setRow (w.heap.size + 1 + 1) (bcells 64 (frN p m x ((j + 1) % d)))) (w.heap.size + 1 + 1) 64 23 (frN p m x ((j + 1) % d)) := (B2.row (frN p m x ((j + 1) % d)))
        have qB3 : Blk (W5.setRow (w.heap.size + 1 + 1) (bcells 64 (frN p m x ((j + 1) % d)))) (w.heap.size + 1 + 1 + 1) 64 23 (fun _ => 0) := (B3.rowOther (by omega))
        have qB4 : Blk (W5.setRow (w.heap.size + 1 + 1) (bcells 64 (frN p m x ((j + 1) % d)))) (N1) 64 23 (vlR p m d F x (j + 1)) := (B4.rowOther (by omega))
        have qhb : Below w.heap.size w (W5.setRow (w.heap.size + 1 + 1) (bcells 64 (frN p m x ((j + 1) % d)))) := (below_row hb (by omega) _)
        obtain ⟨W6, hwo⟩ : ∃ v : World, v = (W5.setRow (w.heap.size + 1 + 1) (bcells 64 (frN p m x ((j + 1) % d)))) := ⟨_, rfl⟩
        rw [← hwo] at qB0 qB1 qB2 qB3 qB4 qhb ⊢
        clear hwo
        clear B0 B1 B2 B3 B4 hb
        have B0 := qB0
        have B1 := qB1
        have B2 := qB2
        have B3 := qB3
        have B4 := qB4
        have hb := qhb
        clear qB0 qB1 qB2 qB3 qB4 qhb
        try simp only [Act.put, List.setIfInBounds_toArray, List.set_cons_zero, List.set_cons_succ]
        go_wp2_with fail
        go_roundw
        case rel => exact ⟨j + 1, by go_num, by omega, hb, B0, B1, B2, B3, B4⟩
        case measure => simp [intOf] <;> omega
    · have hjI : ¬ (j : Int) < (N : Int) - 1 + 1 := by omega
      obtain rfl : j = N := by omega
      go_upto_region 8 with (fail)
      have lt_B0 := B0.lt
      have lt_B1 := B1.lt
      have lt_B2 := B2.lt
      have lt_B3 := B3.lt
      have lt_B4 := B4.lt
      go_wp2_with (first | rw [← zero64] | (refine wpList_load_any rfl 23 (.tmp 7) rfl _ rfl 64 23 _ (B4) _ Try.underlying23 rfl Try.size23 ?_) | (refine wpList_store_blk rfl 23 (.tmp 6) (.tmp 29) rfl _ 64 (vlR p m d F x j) rfl rfl 23 _ (B3) Try.size23 ?_; try simp only [Act.put]))
      have qB0 : Blk (wr.setRow (w.heap.size + 1 + 1 + 1) (bcells 64 (vlR p m d F x j))) (w.heap.size) 512 34 (fl 64 F) := (B0.rowOther (by omega))
      have qB1 : Row (wr.setRow (w.heap.size + 1 + 1 + 1) (bcells 64 (vlR p m d F x j))) (w.heap.size + 1) 83 (fdC (p : Int) m).toArray := (B1.rowOther (by omega))
      have qB2 : Blk (wr.setRow (w.heap.size + 1 + 1 + 1) (bcells 64 (vlR p m d F x j))) (w.heap.size + 1 + 1) 64 23 (frN p m x (j % d)) := (B2.rowOther (by omega))
      have qB3 : Blk (wr.setRow (w.heap.size + 1 + 1 + 1) (bcells 64 (vlR p m d F x j))) (w.heap.size + 1 + 1 + 1) 64 23 (vlR p m d F x j) := (B3.row (vlR p m d F x j))
      have qB4 : Blk (wr.setRow (w.heap.size + 1 + 1 + 1) (bcells 64 (vlR p m d F x j))) (N1) 64 23 (vlR p m d F x j) := (B4.rowOther (by omega))
      have qhb : Below w.heap.size w (wr.setRow (w.heap.size + 1 + 1 + 1) (bcells 64 (vlR p m d F x j))) := (below_row hb (by omega) _)
      obtain ⟨W4, hwo⟩ : ∃ v : World, v = (wr.setRow (w.heap.size + 1 + 1 + 1) (bcells 64 (vlR p m d F x j))) := ⟨_, rfl⟩
      rw [← hwo] at qB0 qB1 qB2 qB3 qB4 qhb ⊢
      clear hwo
      clear B0 B1 B2 B3 B4 hb
      have B0 := qB0
      have B1 := qB1
      have B2 := qB2
      have B3 := qB3
      have B4 := qB4
      have hb := qhb
      clear qB0 qB1 qB2 qB3 qB4 qhb
      try simp only [Act.put, List.setIfInBounds_toArray, List.set_cons_zero, List.set_cons_succ]
      refine bodyPost_ret (results_blk rfl _ _ _ 64 23 5 _ rfl B3 Try.underlying23 Try.size23) rfl ⟨by rw [HV.out], hb⟩
set_option maxRecDepth 100000 in
set_option maxHeartbeats 1600000 in
theorem l03Value_any (p : Nat) (m : Nat → Nat) (F : Nat → Nat → Nat) (x : Nat → Nat) (w : World) (hpr : p = 2 ∨ p = 3 ∨ p = 5 ∨ p = 7) (lm : ∀ k, k < 64 → m k < p) (d : Nat) (hd : deg m = (d : Int)) (hd1 : 1 ≤ d) (hd9 : d ≤ 9) (lF : ∀ i, i < 8 → ∀ k, k < 64 → F i k < p) (hx : rsd p m x) :
    Calls Try.prog 103 #[.int .i64 (p : Int), .agg (bcells 64 m), .agg (bcells 512 (fl 64 F)), .agg (bcells 64 x)] w fun e w' => e = .returned (.agg (bcells 64 (vlR p m d F x 8))) ∧ Below w.heap.size w w' := by
  have p0 : 0 < p := by omega
  have h0 : 0 ≤ deg m := by omega
  have h9 : deg m ≤ 9 := by omega
  have p2 : 2 ≤ p := by omega
  have p7 : p ≤ 7 := by omega
  have HX := Lib.hid (fun j => (frN_ok hpr lm h0 h9 hx j).1)
  have HFR := Lib.hid (fun j (hj : j < 8) W => l03Frobenius_any p m x j W hpr lm d hd hd1 hd9 (by omega) hx)
  have HMM := Lib.hid (fun j (hj : j < 8) W => l01MulMod_any p (F j) (frN p m x (j % d)) m W hpr (lF j hj) (HX.out (j % d)).1 lm h0)
  have HAD := Lib.hid (show ∀ j W, Calls Try.prog 107 #[.int .i64 (p : Int), .agg (bcells 64 (vlR p m d F x j)), .agg (bcells 64 (mmP p (F j) (frN p m x (j % d)) m)), .int .i64 1] W fun e w' => e = .returned (.agg (bcells 64 (vlR p m d F x (j + 1)))) ∧ Below W.heap.size W w' from fun j W => by
    rw [vlR_s]; exact l01Add_any p _ _ 1 W p2 p7 (by omega) (by omega) (fun k _ => vlR_lt p0 j k) (fun k hk => mmP_lt p0 k (by omega)))
  have HZ := Lib.hid (vlR_z p m d F x)
  have HSK := Lib.hid (fun j (h : eqN 64 (F j) (fun _ => 0) = true) => vlR_skip (d := d) (x := x) hpr lm h0 h)
  clear hx
  go_enter Try.func103, Try.ntmps103
  go_upto_region 1 with (fail)
  rw [← zero64]
  obtain ⟨W1, hwo⟩ : ∃ v : World, v = ((((w.alloc (.cells (bcells 64 (m)) 23)).alloc (.cells (bcells 512 (fl 64 F)) 34)).alloc (.cells (bcells 64 (x)) 23)).alloc (.cells (bcells 64 (fun _ => 0)) 23)) := ⟨_, rfl⟩
  have B0 : Blk W1 (w.heap.size) 64 23 (m) := by subst hwo; have := ((((Blk.new w 64 23 (m)).alloc (.cells (bcells 512 (fl 64 F)) 34)).alloc (.cells (bcells 64 (x)) 23)).alloc (.cells (bcells 64 (fun _ => 0)) 23)); simpa using this
  have B1 : Blk W1 (w.heap.size + 1) 512 34 (fl 64 F) := by subst hwo; have := (((Blk.new (w.alloc (.cells (bcells 64 (m)) 23)) 512 34 (fl 64 F)).alloc (.cells (bcells 64 (x)) 23)).alloc (.cells (bcells 64 (fun _ => 0)) 23)); simpa using this
  have B2 : Blk W1 (w.heap.size + 1 + 1) 64 23 (x) := by subst hwo; have := ((Blk.new ((w.alloc (.cells (bcells 64 (m)) 23)).alloc (.cells (bcells 512 (fl 64 F)) 34)) 64 23 (x)).alloc (.cells (bcells 64 (fun _ => 0)) 23)); simpa using this
  have B3 : Blk W1 (w.heap.size + 1 + 1 + 1) 64 23 (fun _ => 0) := by subst hwo; have := (Blk.new (((w.alloc (.cells (bcells 64 (m)) 23)).alloc (.cells (bcells 512 (fl 64 F)) 34)).alloc (.cells (bcells 64 (x)) 23)) 64 23 (fun _ => 0)); simpa using this
  have hb : Below w.heap.size w W1 := by subst hwo; exact (((((Below.refl _ _).alloc (Nat.le_refl _) _).alloc (by simp) _).alloc (by simp; omega) _).alloc (by simp; omega) _)
  rw [← hwo]
  clear hwo
  have lt_B0 := B0.lt
  have lt_B1 := B1.lt
  have lt_B2 := B2.lt
  have lt_B3 := B3.lt
  go_upto_region 2 with (first | rw [← zero64] | (refine wpList_store_blk rfl 23 (.tmp 9) (.tmp 11) rfl _ 64 (fun _ => 0) rfl rfl 23 _ ((Blk.new W1 64 23 (fun _ => 0))) Try.size23 ?_; try simp only [Act.put]))
  have lt_B0 := B0.lt
  have lt_B1 := B1.lt
  have lt_B2 := B2.lt
  have lt_B3 := B3.lt
  have lhb := hb.size
  have qB0 : Blk ((W1.alloc (.cells (bcells 64 (fun _ => 0)) 23)).setRow (W1.heap.size) (bcells 64 (fun _ => 0))) (w.heap.size) 64 23 (m) := ((B0.alloc (.cells (bcells 64 (fun _ => 0)) 23)).rowOther (by omega))
  have qB1 : Blk ((W1.alloc (.cells (bcells 64 (fun _ => 0)) 23)).setRow (W1.heap.size) (bcells 64 (fun _ => 0))) (w.heap.size + 1) 512 34 (fl 64 F) := ((B1.alloc (.cells (bcells 64 (fun _ => 0)) 23)).rowOther (by omega))
  have qB2 : Blk ((W1.alloc (.cells (bcells 64 (fun _ => 0)) 23)).setRow (W1.heap.size) (bcells 64 (fun _ => 0))) (w.heap.size + 1 + 1) 64 23 (x) := ((B2.alloc (.cells (bcells 64 (fun _ => 0)) 23)).rowOther (by omega))
  have qB3 : Blk ((W1.alloc (.cells (bcells 64 (fun _ => 0)) 23)).setRow (W1.heap.size) (bcells 64 (fun _ => 0))) (w.heap.size + 1 + 1 + 1) 64 23 (fun _ => 0) := ((B3.alloc (.cells (bcells 64 (fun _ => 0)) 23)).rowOther (by omega))
  have qB4 : Blk ((W1.alloc (.cells (bcells 64 (fun _ => 0)) 23)).setRow (W1.heap.size) (bcells 64 (fun _ => 0))) (W1.heap.size) 64 23 (fun _ => 0) := ((Blk.new W1 64 23 (fun _ => 0)).row (fun _ => 0))
  have qhb : Below w.heap.size w ((W1.alloc (.cells (bcells 64 (fun _ => 0)) 23)).setRow (W1.heap.size) (bcells 64 (fun _ => 0))) := (below_row (hb.alloc (by have := hb.size; simp; omega) (.cells (bcells 64 (fun _ => 0)) 23)) (by omega) _)
  obtain ⟨W2, hwo⟩ : ∃ v : World, v = ((W1.alloc (.cells (bcells 64 (fun _ => 0)) 23)).setRow (W1.heap.size) (bcells 64 (fun _ => 0))) := ⟨_, rfl⟩
  rw [← hwo] at qB0 qB1 qB2 qB3 qB4 qhb ⊢
  clear hwo
  clear B0 B1 B2 B3 hb
  have B0 := qB0
  have B1 := qB1
  have B2 := qB2
  have B3 := qB3
  have B4 := qB4
  have hb := qhb
  clear qB0 qB1 qB2 qB3 qB4 qhb
  obtain ⟨N1, hNN⟩ : ∃ n : Nat, n = W1.heap.size := ⟨_, rfl⟩
  rw [← hNN] at lt_B0 lt_B1 lt_B2 lt_B3 lhb B4 ⊢
  clear hNN
  have zN1_0 := lt_B0
  have zN1_1 := lt_B1
  have zN1_2 := lt_B2
  have zN1_3 := lt_B3
  have zN1 := lhb
  clear lt_B0 lt_B1 lt_B2 lt_B3 lhb
  try simp only [Act.put, List.setIfInBounds_toArray, List.set_cons_zero, List.set_cons_succ]
  go_wp2_with fail
  go_loopw [10] (fun c wr => ∃ j : Nat, c = .int .i64 (j : Int) ∧ j ≤ 8 ∧ Below w.heap.size w wr ∧ Blk wr (w.heap.size) 64 23 m ∧ Blk wr (w.heap.size + 1) 512 34 (fl 64 F) ∧ Blk wr (w.heap.size + 1 + 1) 64 23 x ∧ Blk wr (w.heap.size + 1 + 1 + 1) 64 23 (fun _ => 0) ∧ Blk wr (N1) 64 23 (vlR p m d F x j)) (fun c _ => 8 - (intOf c).toNat)
  case atStart => exact ⟨0, rfl, Nat.zero_le _, hb, B0, B1, B2, B3, by rw [HZ.out]; exact B4⟩
  case round =>
    clear hb B0 B1 B2 B3 B4
    obtain ⟨j, rfl, hj8, hb, B0, B1, B2, B3, B4⟩ := hrel
    by_cases hj : j < 8
    · have hjI : (j : Int) < 8 := by omega
      have hgd := Try.noGuard23
      have heq := fun W => run_equalIn_bytes (P := Try.prog) W 9998 23 5 64 (F j) (fun _ => 0) Try.underlying23 Try.underlying5 Try.size5
      cases hz : eqN 64 (F j) (fun _ => 0) with
      | true =>
        rw [hz] at heq
        have HS := Lib.hid (HSK.out j hz)
        clear hz
        go_wp2_with (first | (refine wpList_load_mid rfl 23 (.tmp 17) rfl _ (j * 64) rfl (bl 64 (F j)) _ (B1.sk hj) Try.underlying23 rfl (by rw [bl_length]; exact Try.size23) ?_) | rw [← zero64])
        go_roundw
        case rel => exact ⟨j + 1, by go_num, by omega, hb, B0, B1, B2, B3, B4.congr HS.out⟩
        case measure => simp [intOf] <;> omega
      | false =>
        rw [hz] at heq
        clear hz
        have HK1 := Lib.hid (HFR.out j hj)
        have HK2 := Lib.hid (HMM.out j hj)
        have HK3 := Lib.hid (HAD.out j)
        go_upto_region 6 with (first | (refine wpList_load_mid rfl 23 (.tmp 17) rfl _ (j * 64) rfl (bl 64 (F j)) _ (B1.sk hj) Try.underlying23 rfl (by rw [bl_length]; exact Try.size23) ?_) | rw [← zero64])
        clear heq hgd
        have lt_B0 : (w.heap.size) < wr.heap.size := B0.lt
        have lt_B1 : (w.heap.size + 1) < wr.heap.size := B1.lt
        have lt_B2 : (w.heap.size + 1 + 1) < wr.heap.size := B2.lt
        have lt_B3 : (w.heap.size + 1 + 1 + 1) < wr.heap.size := B3.lt
        have lt_B4 : (N1) < wr.heap.size := B4.lt
        have hbase : w.heap.size ≤ wr.heap.size := hb.size
        refine wp_region_steps0 Try.mixed (by kernel_rfl) (by kernel_rfl) (fun v => by (simp only [frL, Act.put, List.setIfInBounds_toArray, List.set_cons_zero, List.set_cons_succ, Nat.reduceAdd, Nat.zero_add]; exact rfl))
          (fun L v W3 => Below w.heap.size w W3 ∧ wr.heap.size ≤ W3.heap.size ∧ Blk W3 (w.heap.size) 64 23 (m) ∧ Blk W3 (w.heap.size + 1) 512 34 (fl 64 F) ∧ Blk W3 (w.heap.size + 1 + 1) 64 23 (x) ∧ Blk W3 (w.heap.size + 1 + 1 + 1) 64 23 (fun _ => 0) ∧ (∃ g, Blk W3 (N1) 64 23 (g)) ∧ (L 14 = false → Blk W3 (N1) 64 23 (vlR p m d F x j)) ∧ (L 14 = true → Blk W3 (N1) 64 23 (vlR p m d F x (j + 1))) ∧ (L 0 = true → v 0 = (.int .i64 (p : Int))) ∧ (L 1 = true → v 1 = (.agg (bcells 64 (vlR p m d F x j)))) ∧ (L 2 = true → v 2 = (.int .i64 (p : Int))) ∧ (L 3 = true → v 3 = (.int .i64 (j : Int))) ∧ (L 4 = true → v 4 = (.pointer (some ⟨w.heap.size + 1, j * 64, none⟩))) ∧ (L 5 = true → v 5 = (.agg (bcells 64 (F j)))) ∧ (L 6 = true → v 6 = (.int .i64 (p : Int))) ∧ (L 7 = true → v 7 = (.agg (bcells 64 (x)))) ∧ (L 8 = true → v 8 = (.int .i64 (j : Int))) ∧ (L 9 = true → v 9 = (.agg (bcells 64 (m)))) ∧ (L 10 = true → v 10 = (.agg (bcells 64 (frN p m x (j % d))))) ∧ (L 11 = true → v 11 = (.agg (bcells 64 (m)))) ∧ (L 12 = true → v 12 = (.agg (bcells 64 (mmP p (F j) (frN p m x (j % d)) m)))) ∧ (L 13 = true → v 13 = (.agg (bcells 64 (vlR p m d F x (j + 1)))))) ?_ ?_ ?_
        · intro v hv0
          exact ⟨hb.drew, Nat.le_refl _, B0.drew, B1.drew, B2.drew, B3.drew, ⟨_, B4.drew⟩, (fun _ => B4.drew), (fun h => by cases h), (fun h => by cases h), (fun h => by cases h), (fun h => by cases h), (fun h => by cases h), (fun h => by cases h), (fun h => by cases h), (fun h => by cases h), (fun h => by cases h), (fun h => by cases h), (fun h => by cases h), (fun h => by cases h), (fun h => by cases h), (fun h => by cases h), (fun h => by cases h)⟩
        · refine (.cons rfl ?_ (.cons rfl ?_ (.cons rfl ?_ (.cons rfl ?_ (.cons rfl ?_ (.cons rfl ?_ (.cons rfl ?_ (.cons rfl ?_ (.cons rfl ?_ (.cons rfl ?_ (.cons rfl ?_ (.cons rfl ?_ (.cons rfl ?_ (.cons rfl ?_ (.cons rfl ?_ (.nil _))))))))))))))))
          · intro L v W3 hd hn ⟨hB, hz, s0, s1, s2, s3, x4, q4, n4, h0, h1, h2, h3, h4, h5, h6, h7, h8, h9, h10, h11, h12, h13⟩ K hK
            go_wp2_with fail
            exact hK _ (.int .i64 (p : Int)) _ (by simp only [Act.put, List.setIfInBounds_toArray, List.set_cons_zero, List.set_cons_succ ]) ⟨hB, hz, s0, s1, s2, s3, x4, q4, n4, (fun _ => rfl), h1, h2, h3, h4, h5, h6, h7, h8, h9, h10, h11, h12, h13⟩
          · intro L v W3 hd hn ⟨hB, hz, s0, s1, s2, s3, x4, q4, n4, h0, h1, h2, h3, h4, h5, h6, h7, h8, h9, h10, h11, h12, h13⟩ K hK
            have s4 := q4 (by
              cases hL : L 14 with
              | false => rfl
              | true => exact absurd rfl (hn 14 _ rfl hL ⟨1, .phase⟩ (by simp) rfl))
            refine wp_load_any 23 _ rfl _ rfl 64 23 _ s4 _ Try.underlying23 rfl Try.size23 ?_
            exact hK _ _ _ rfl ⟨hB, hz, s0, s1, s2, s3, x4, q4, n4, h0, (fun _ => rfl), h2, h3, h4, h5, h6, h7, h8, h9, h10, h11, h12, h13⟩
          · intro L v W3 hd hn ⟨hB, hz, s0, s1, s2, s3, x4, q4, n4, h0, h1, h2, h3, h4, h5, h6, h7, h8, h9, h10, h11, h12, h13⟩ K hK
            go_wp2_with fail
            exact hK _ (.int .i64 (p : Int)) _ (by simp only [Act.put, List.setIfInBounds_toArray, List.set_cons_zero, List.set_cons_succ ]) ⟨hB, hz, s0, s1, s2, s3, x4, q4, n4, h0, h1, (fun _ => rfl), h3, h4, h5, h6, h7, h8, h9, h10, h11, h12, h13⟩
          · intro L v W3 hd hn ⟨hB, hz, s0, s1, s2, s3, x4, q4, n4, h0, h1, h2, h3, h4, h5, h6, h7, h8, h9, h10, h11, h12, h13⟩ K hK
            go_wp2_with fail
            exact hK _ (.int .i64 (j : Int)) _ (by simp only [Act.put, List.setIfInBounds_toArray, List.set_cons_zero, List.set_cons_succ ]) ⟨hB, hz, s0, s1, s2, s3, x4, q4, n4, h0, h1, h2, (fun _ => rfl), h4, h5, h6, h7, h8, h9, h10, h11, h12, h13⟩
          · intro L v W3 hd hn ⟨hB, hz, s0, s1, s2, s3, x4, q4, n4, h0, h1, h2, h3, h4, h5, h6, h7, h8, h9, h10, h11, h12, h13⟩ K hK
            have e3 := h3 (hd ⟨3, .data⟩ (by simp) rfl)
            go_wp2_with fail
            exact hK _ (.pointer (some ⟨w.heap.size + 1, j * 64, none⟩)) _ (by simp only [Act.put, List.setIfInBounds_toArray, List.set_cons_zero, List.set_cons_succ, e3]) ⟨hB, hz, s0, s1, s2, s3, x4, q4, n4, h0, h1, h2, h3, (fun _ => rfl), h5, h6, h7, h8, h9, h10, h11, h12, h13⟩
          · intro L v W3 hd hn ⟨hB, hz, s0, s1, s2, s3, x4, q4, n4, h0, h1, h2, h3, h4, h5, h6, h7, h8, h9, h10, h11, h12, h13⟩ K hK
            have e4 := h4 (hd ⟨4, .data⟩ (by simp) rfl)
            refine wp_load_mid 23 _ rfl _ (j * 64) e4 _ _ ((s1).sk (by omega)) Try.underlying23 rfl (by rw [bl_length]; exact Try.size23) ?_
            exact hK _ _ _ rfl ⟨hB, hz, s0, s1, s2, s3, x4, q4, n4, h0, h1, h2, h3, h4, (fun _ => rfl), h6, h7, h8, h9, h10, h11, h12, h13⟩
          · intro L v W3 hd hn ⟨hB, hz, s0, s1, s2, s3, x4, q4, n4, h0, h1, h2, h3, h4, h5, h6, h7, h8, h9, h10, h11, h12, h13⟩ K hK
            go_wp2_with fail
            exact hK _ (.int .i64 (p : Int)) _ (by simp only [Act.put, List.setIfInBounds_toArray, List.set_cons_zero, List.set_cons_succ ]) ⟨hB, hz, s0, s1, s2, s3, x4, q4, n4, h0, h1, h2, h3, h4, h5, (fun _ => rfl), h7, h8, h9, h10, h11, h12, h13⟩
          · intro L v W3 hd hn ⟨hB, hz, s0, s1, s2, s3, x4, q4, n4, h0, h1, h2, h3, h4, h5, h6, h7, h8, h9, h10, h11, h12, h13⟩ K hK
            refine wp_load_any 23 _ rfl _ rfl 64 23 _ s2 _ Try.underlying23 rfl Try.size23 ?_
            exact hK _ _ _ rfl ⟨hB, hz, s0, s1, s2, s3, x4, q4, n4, h0, h1, h2, h3, h4, h5, h6, (fun _ => rfl), h8, h9, h10, h11, h12, h13⟩
          · intro L v W3 hd hn ⟨hB, hz, s0, s1, s2, s3, x4, q4, n4, h0, h1, h2, h3, h4, h5, h6, h7, h8, h9, h10, h11, h12, h13⟩ K hK
            go_wp2_with fail
            exact hK _ (.int .i64 (j : Int)) _ (by simp only [Act.put, List.setIfInBounds_toArray, List.set_cons_zero, List.set_cons_succ ]) ⟨hB, hz, s0, s1, s2, s3, x4, q4, n4, h0, h1, h2, h3, h4, h5, h6, h7, (fun _ => rfl), h9, h10, h11, h12, h13⟩
          · intro L v W3 hd hn ⟨hB, hz, s0, s1, s2, s3, x4, q4, n4, h0, h1, h2, h3, h4, h5, h6, h7, h8, h9, h10, h11, h12, h13⟩ K hK
            refine wp_load_any 23 _ rfl _ rfl 64 23 _ s0 _ Try.underlying23 rfl Try.size23 ?_
            exact hK _ _ _ rfl ⟨hB, hz, s0, s1, s2, s3, x4, q4, n4, h0, h1, h2, h3, h4, h5, h6, h7, h8, (fun _ => rfl), h10, h11, h12, h13⟩
          · intro L v W3 hd hn ⟨hB, hz, s0, s1, s2, s3, x4, q4, n4, h0, h1, h2, h3, h4, h5, h6, h7, h8, h9, h10, h11, h12, h13⟩ K hK
            have e6 := h6 (hd ⟨6, .data⟩ (by simp) rfl)
            have e7 := h7 (hd ⟨7, .data⟩ (by simp) rfl)
            have e8 := h8 (hd ⟨8, .data⟩ (by simp) rfl)
            have e9 := h9 (hd ⟨9, .data⟩ (by simp) rfl)
            go_wp2_with (go_at_call 164; refine (HK1.out _).mono ?_; rintro e wy ⟨rfl, hy⟩)
            exact hK _ (.agg (bcells 64 (frN p m x (j % d)))) _ (by simp only [Act.put, List.setIfInBounds_toArray, List.set_cons_zero, List.set_cons_succ, e6, e7, e8, e9]) ⟨hB.trans (hy.mono hB.size), (Nat.le_trans hz hy.size), (s0).below hy (s0).lt, (s1).below hy (s1).lt, (s2).below hy (s2).lt, (s3).below hy (s3).lt, (let ⟨g, h⟩ := x4; ⟨g, (h).below hy (h).lt⟩), (fun h => (q4 h).below hy (q4 h).lt), (fun h => (n4 h).below hy (n4 h).lt), h0, h1, h2, h3, h4, h5, h6, h7, h8, h9, (fun _ => rfl), h11, h12, h13⟩
          · intro L v W3 hd hn ⟨hB, hz, s0, s1, s2, s3, x4, q4, n4, h0, h1, h2, h3, h4, h5, h6, h7, h8, h9, h10, h11, h12, h13⟩ K hK
            refine wp_load_any 23 _ rfl _ rfl 64 23 _ s0 _ Try.underlying23 rfl Try.size23 ?_
            exact hK _ _ _ rfl ⟨hB, hz, s0, s1, s2, s3, x4, q4, n4, h0, h1, h2, h3, h4, h5, h6, h7, h8, h9, h10, (fun _ => rfl), h12, h13⟩
          · intro L v W3 hd hn ⟨hB, hz, s0, s1, s2, s3, x4, q4, n4, h0, h1, h2, h3, h4, h5, h6, h7, h8, h9, h10, h11, h12, h13⟩ K hK
            have e2 := h2 (hd ⟨2, .data⟩ (by simp) rfl)
            have e5 := h5 (hd ⟨5, .data⟩ (by simp) rfl)
            have e10 := h10 (hd ⟨10, .data⟩ (by simp) rfl)
            have e11 := h11 (hd ⟨11, .data⟩ (by simp) rfl)
            go_wp2_with (go_at_call 163; refine (HK2.out _).mono ?_; rintro e wy ⟨rfl, hy⟩)
            exact hK _ (.agg (bcells 64 (mmP p (F j) (frN p m x (j % d)) m))) _ (by simp only [Act.put, List.setIfInBounds_toArray, List.set_cons_zero, List.set_cons_succ, e2, e5, e10, e11]) ⟨hB.trans (hy.mono hB.size), (Nat.le_trans hz hy.size), (s0).below hy (s0).lt, (s1).below hy (s1).lt, (s2).below hy (s2).lt, (s3).below hy (s3).lt, (let ⟨g, h⟩ := x4; ⟨g, (h).below hy (h).lt⟩), (fun h => (q4 h).below hy (q4 h).lt), (fun h => (n4 h).below hy (n4 h).lt), h0, h1, h2, h3, h4, h5, h6, h7, h8, h9, h10, h11, (fun _ => rfl), h13⟩
          · intro L v W3 hd hn ⟨hB, hz, s0, s1, s2, s3, x4, q4, n4, h0, h1, h2, h3, h4, h5, h6, h7, h8, h9, h10, h11, h12, h13⟩ K hK
            have e0 := h0 (hd ⟨0, .data⟩ (by simp) rfl)
            have e1 := h1 (hd ⟨1, .data⟩ (by simp) rfl)
            have e12 := h12 (hd ⟨12, .data⟩ (by simp) rfl)
            go_wp2_with (go_at_call 107; refine (HK3.out _).mono ?_; rintro e wy ⟨rfl, hy⟩)
            exact hK _ (.agg (bcells 64 (vlR p m d F x (j + 1)))) _ (by simp only [Act.put, List.setIfInBounds_toArray, List.set_cons_zero, List.set_cons_succ, e0, e1, e12]) ⟨hB.trans (hy.mono hB.size), (Nat.le_trans hz hy.size), (s0).below hy (s0).lt, (s1).below hy (s1).lt, (s2).below hy (s2).lt, (s3).below hy (s3).lt, (let ⟨g, h⟩ := x4; ⟨g, (h).below hy (h).lt⟩), (fun h => (q4 h).below hy (q4 h).lt), (fun h => (n4 h).below hy (n4 h).lt), h0, h1, h2, h3, h4, h5, h6, h7, h8, h9, h10, h11, h12, (fun _ => rfl)⟩
          · intro L v W3 hd hn ⟨hB, hz, s0, s1, s2, s3, x4, q4, n4, h0, h1, h2, h3, h4, h5, h6, h7, h8, h9, h10, h11, h12, h13⟩ K hK
            have e13 := h13 (hd ⟨13, .data⟩ (by simp) rfl)
            obtain ⟨gz, hk⟩ := x4
            refine wp_store_blk 23 _ _ rfl _ 64 (vlR p m d F x (j + 1)) rfl e13 23 gz hk Try.size23 ?_
            exact hK _ undef _ rfl ⟨below_row hB (by omega) _, (by simpa [World.setRow] using hz), (s0).rowOther (by omega), (s1).rowOther (by omega), (s2).rowOther (by omega), (s3).rowOther (by omega), ⟨_, hk.row _⟩, (fun h => absurd h (by simp [setL])), (fun _ => hk.row _), h0, h1, h2, h3, h4, h5, h6, h7, h8, h9, h10, h11, h12, h13⟩
        · intro L v W3 hL ⟨hB, hz, s0, s1, s2, s3, x4, q4, n4, h0, h1, h2, h3, h4, h5, h6, h7, h8, h9, h10, h11, h12, h13⟩
          have r4 := n4 (hL 14 (by decide))
          have e0 := h0 (hL 0 (by decide))
          have e1 := h1 (hL 1 (by decide))
          have e2 := h2 (hL 2 (by decide))
          have e3 := h3 (hL 3 (by decide))
          have e4 := h4 (hL 4 (by decide))
          have e5 := h5 (hL 5 (by decide))
          have e6 := h6 (hL 6 (by decide))
          have e7 := h7 (hL 7 (by decide))
          have e8 := h8 (hL 8 (by decide))
          have e9 := h9 (hL 9 (by decide))
          have e10 := h10 (hL 10 (by decide))
          have e11 := h11 (hL 11 (by decide))
          have e12 := h12 (hL 12 (by decide))
          have e13 := h13 (hL 13 (by decide))
          clear hL x4 q4 n4 h0 h1 h2 h3 h4 h5 h6 h7 h8 h9 h10 h11 h12 h13
          simp only [Exit.then, e0, e1, e2, e3, e4, e5, e6, e7, e8, e9, e10, e11, e12, e13]
          clear e0 e1 e2 e3 e4 e5 e6 e7 e8 e9 e10 e11 e12 e13
          clear B0
          have B0 := s0
          clear s0
          clear B1
          have B1 := s1
          clear s1
          clear B2
          have B2 := s2
          clear s2
          clear B3
          have B3 := s3
          clear s3
          clear B4
          have B4 := r4
          clear r4
          clear hb
          have hb := hB
          clear hB
          clear hbase hz lt_B0 lt_B1 lt_B2 lt_B3 lt_B4
          go_wp2_with fail
          go_roundw
          case rel => exact ⟨j + 1, by go_num, by omega, hb, B0, B1, B2, B3, B4⟩
          case measure => simp [intOf] <;> omega
    · have hjI : ¬ (j : Int) < 8 := by omega
      obtain rfl : j = 8 := by omega
      go_upto_region 7 with (fail)
      have lt_B0 := B0.lt
      have lt_B1 := B1.lt
      have lt_B2 := B2.lt
      have lt_B3 := B3.lt
      have lt_B4 := B4.lt
      go_wp2_with (first | rw [← zero64] | (refine wpList_load_any rfl 23 (.tmp 9) rfl _ rfl 64 23 _ (B4) _ Try.underlying23 rfl Try.size23 ?_) | (refine wpList_store_blk rfl 23 (.tmp 8) (.tmp 35) rfl _ 64 (vlR p m d F x 8) rfl rfl 23 _ (B3) Try.size23 ?_; try simp only [Act.put]))
      have qB0 : Blk (wr.setRow (w.heap.size + 1 + 1 + 1) (bcells 64 (vlR p m d F x 8))) (w.heap.size) 64 23 (m) := (B0.rowOther (by omega))
      have qB1 : Blk (wr.setRow (w.heap.size + 1 + 1 + 1) (bcells 64 (vlR p m d F x 8))) (w.heap.size + 1) 512 34 (fl 64 F) := (B1.rowOther (by omega))
      have qB2 : Blk (wr.setRow (w.heap.size + 1 + 1 + 1) (bcells 64 (vlR p m d F x 8))) (w.heap.size + 1 + 1) 64 23 (x) := (B2.rowOther (by omega))
      have qB3 : Blk (wr.setRow (w.heap.size + 1 + 1 + 1) (bcells 64 (vlR p m d F x 8))) (w.heap.size + 1 + 1 + 1) 64 23 (vlR p m d F x 8) := (B3.row (vlR p m d F x 8))
      have qB4 : Blk (wr.setRow (w.heap.size + 1 + 1 + 1) (bcells 64 (vlR p m d F x 8))) (N1) 64 23 (vlR p m d F x 8) := (B4.rowOther (by omega))
      have qhb : Below w.heap.size w (wr.setRow (w.heap.size + 1 + 1 + 1) (bcells 64 (vlR p m d F x 8))) := (below_row hb (by omega) _)
      obtain ⟨W3, hwo⟩ : ∃ v : World, v = (wr.setRow (w.heap.size + 1 + 1 + 1) (bcells 64 (vlR p m d F x 8))) := ⟨_, rfl⟩
      rw [← hwo] at qB0 qB1 qB2 qB3 qB4 qhb ⊢
      clear hwo
      clear B0 B1 B2 B3 B4 hb
      have B0 := qB0
      have B1 := qB1
      have B2 := qB2
      have B3 := qB3
      have B4 := qB4
      have hb := qhb
      clear qB0 qB1 qB2 qB3 qB4 qhb
      try simp only [Act.put, List.setIfInBounds_toArray, List.set_cons_zero, List.set_cons_succ]
      refine bodyPost_ret (results_blk rfl _ _ _ 64 23 5 _ rfl B3 Try.underlying23 Try.size23) rfl ⟨rfl, hb⟩
end Go.Proofs.Ytbjpkmbhbpcbgaa
end
section
namespace Go.Proofs.Ytbjpkmbhbpcbgaa
open Go Go.RowKit
set_option linter.unusedVariables false
set_option linter.unusedSimpArgs false
theorem wpList_load_rowv_g {P : Program} {ops : Array Oper} {rest : List Oper} {o : Oper} {a : Act} {w : World} {Q : Exit → Act → World → Prop} (hw : Region.wanted o (yielded ops a.tmps) = true) (ty : TypeId) (x : Operand) (ho : o.op = .load ty x)
    (b : Nat) (hx : a.eval x = .pointer (some ⟨b, 0, none⟩)) (t : TypeId) (cs : Array Value) (hb : Row w b t cs) (d : TypeDesc)
    (hu : P.underlying ty = some d) (hd : (match d with | .struct _ | .array _ _ => true | _ => false) = true) (n : Nat) (hi : (P.info? ty).map (·.size) = some n) (hn : cs.size = n)
    (h : wpList P ops Q rest (a.put o.dst (.agg cs)) w) : wpList P ops Q (o :: rest) a w := by
  unfold wpList
  rw [if_pos hw]
  exact Or.inl (wp_load_rowv ty x ho b hx t cs hb d hu hd n hi hn h)
theorem ckS_irr {n d : Nat} {m : Nat → Nat} {Fs : List (Nat → Nat → Nat)} (h : ckS (n : Int) m Fs = 0) (hmon : mon m d) : irr n (cut m) d := by
  obtain ⟨h1, _⟩ := ckS_zero h
  have ho : okA (n : Int) m = true := by
    cases ho : okA (n : Int) m with
    | true => rfl
    | false => rw [flV_1 ho] at h1; cases h1
  have hm : monUp 4 m = true := by
    cases hm : monUp 4 m with
    | true => rfl
    | false => rw [flV_2 hm] at h1; cases h1
  rw [flV_3 ho hm] at h1
  obtain ⟨d2, hi⟩ := irB_iff.1 h1
  have e1 := hi.2.1.1
  have e2 := (mon_cut hmon).1
  have : d2 = d := by omega
  subst this; exact hi
attribute [local irreducible] deg addK okA flV
noncomputable def vsV (p : Int) (m : Nat → Nat) (F : Nat → Nat → Nat) (x : Nat → Nat) : (Nat → Nat) × Int :=
  if ckS p m [F] = 0 then (if rsB p m x = true then (vlR p.toNat m (deg m).toNat F x 8, 0) else (fun _ => 0, 1)) else (fun _ => 0, 1)
theorem vsV_0 {n d : Nat} {m : Nat → Nat} {F : Nat → Nat → Nat} {x : Nat → Nat} (h : ckS (n : Int) m [F] = 0) (hd : deg m = (d : Int)) (h2 : rsB (n : Int) m x = true) : vsV (n : Int) m F x = (vlR n m d F x 8, 0) := by
  unfold vsV; rw [if_pos h, if_pos h2, hd]; rfl
theorem vsV_2 {p : Int} {m : Nat → Nat} {F : Nat → Nat → Nat} {x : Nat → Nat} (h : ckS p m [F] = 0) (h2 : rsB p m x = false) : vsV p m F x = (fun _ => 0, 1) := by unfold vsV; rw [if_pos h, if_neg (by rw [h2]; simp)]
theorem vsV_1 {p : Int} {m : Nat → Nat} {F : Nat → Nat → Nat} {x : Nat → Nat} (h : ckS p m [F] = 1) : vsV p m F x = (fun _ => 0, 1) := if_neg (by omega)
theorem rsB_rsd {n : Nat} {m x : Nat → Nat} (h : rsB (n : Int) m x = true) : rsd n m x := by
  by_cases ho : okA (n : Int) x = true
  · refine ⟨fun k hk => by have := okA_lt ho hk; omega, ?_⟩
    by_cases hd : deg x < deg m
    · exact hd
    · rw [rsB_3 ho hd] at h; cases h
  · rw [rsB_1 (by simpa using ho)] at h; cases h
attribute [irreducible] vsV
set_option maxRecDepth 100000 in
set_option maxHeartbeats 1600000 in
theorem spec_ValueOfSkew_any (p : Int) (m : Nat → Nat) (F : Nat → Nat → Nat) (x : Nat → Nat) (hm : byte m) (hF : ∀ i, byte (F i)) (hx : byte x) (w : World) :
    Calls Try.prog 39 #[.int .i64 p, .agg (bcells 64 m), .agg (bcells 512 (fl 64 F)), .agg (bcells 64 x)] w fun e w' => e = .returned (.tuple #[.agg (bcells 64 (vsV p m F x).1), .int .i64 (vsV p m F x).2]) ∧ Below w.heap.size w w' := by
  go_enter Try.func39, Try.ntmps39
  go_upto_region 1 with (fail)
  rw [← zero64]
  obtain ⟨W1, hwo⟩ : ∃ v : World, v = ((((w.alloc (.cells (bcells 64 (m)) 23)).alloc (.cells (bcells 512 (fl 64 F)) 34)).alloc (.cells (bcells 64 (x)) 23)).alloc (.cells (bcells 64 (fun _ => 0)) 23)) := ⟨_, rfl⟩
  have B0 : Blk W1 (w.heap.size) 64 23 (m) := by subst hwo; have := ((((Blk.new w 64 23 (m)).alloc (.cells (bcells 512 (fl 64 F)) 34)).alloc (.cells (bcells 64 (x)) 23)).alloc (.cells (bcells 64 (fun _ => 0)) 23)); simpa using this
  have B1 : Blk W1 (w.heap.size + 1) 512 34 (fl 64 F) := by subst hwo; have := (((Blk.new (w.alloc (.cells (bcells 64 (m)) 23)) 512 34 (fl 64 F)).alloc (.cells (bcells 64 (x)) 23)).alloc (.cells (bcells 64 (fun _ => 0)) 23)); simpa using this
  have B2 : Blk W1 (w.heap.size + 1 + 1) 64 23 (x) := by subst hwo; have := ((Blk.new ((w.alloc (.cells (bcells 64 (m)) 23)).alloc (.cells (bcells 512 (fl 64 F)) 34)) 64 23 (x)).alloc (.cells (bcells 64 (fun _ => 0)) 23)); simpa using this
  have B3 : Blk W1 (w.heap.size + 1 + 1 + 1) 64 23 (fun _ => 0) := by subst hwo; have := (Blk.new (((w.alloc (.cells (bcells 64 (m)) 23)).alloc (.cells (bcells 512 (fl 64 F)) 34)).alloc (.cells (bcells 64 (x)) 23)) 64 23 (fun _ => 0)); simpa using this
  have hb : Below w.heap.size w W1 := by subst hwo; exact (((((Below.refl _ _).alloc (Nat.le_refl _) _).alloc (by simp) _).alloc (by simp; omega) _).alloc (by simp; omega) _)
  rw [← hwo]
  clear hwo
  rcases ckS_two p m [F] with hc | hc
  · obtain ⟨n, rfl, hpr, lm, ⟨d, hmon, hd1, hd4⟩, hl⟩ := ckS_fld hc
    have hd := hmon.1
    have lF : ∀ i, i < 8 → ∀ j, j < 64 → F i j < n := fun i hi => (hl F (by simp) i hi).1
    cases hr : rsB (n : Int) m x with
    | false =>
      have HV := Lib.hid (vsV_2 hc hr)
      have HRS := Lib.hid (fun W => l03Residue_any (n : Int) m x hm hx W)
      rw [hr] at HRS
      go_upto_region 2 with (first | (refine wpList_load_any rfl 23 (.tmp 5) rfl _ rfl 64 23 _ B0 _ Try.underlying23 rfl Try.size23 ?_) | (refine wpList_load_any rfl 34 (.tmp 6) rfl _ rfl 512 34 _ B1 _ Try.underlying34 rfl Try.size34 ?_) | (refine wpList_build_sks rfl 127 _ [F] rfl 34 Try.underlying127 Try.elem34 (by simp) (by simp) rfl ?_; intro wa hps hba) | (go_at_call 95; refine (l03Code_any _ m hm [F] (by simp [hF]) (by simp) _ _ hps).mono ?_; rintro e W2 ⟨rfl, hbb⟩; rw [hc]))
      have hBB : Below W1.heap.size W1 W2 := hba.trans (hbb.mono hba.size)
      replace B0 := B0.below hBB B0.lt
      replace B1 := B1.below hBB B1.lt
      replace B2 := B2.below hBB B2.lt
      replace B3 := B3.below hBB B3.lt
      replace hb := hb.trans (hBB.mono hb.size)
      clear hBB hba hbb hps
      clear hc hl lF hmon hr
      go_upto_region 5 with (first | (refine wpList_load_any_g rfl 23 (.tmp 5) rfl _ rfl 64 23 _ (B0) _ Try.underlying23 rfl Try.size23 ?_) | (refine wpList_load_any_g rfl 23 (.tmp 7) rfl _ rfl 64 23 _ (B2) _ Try.underlying23 rfl Try.size23 ?_) | (go_at_call 102; refine (HRS.out _).mono ?_; rintro e W3 ⟨rfl, hW3⟩; replace B0 := B0.below hW3 B0.lt; replace B1 := B1.below hW3 B1.lt; replace B2 := B2.below hW3 B2.lt; replace B3 := B3.below hW3 B3.lt; replace hb := (hb).trans (hW3.mono (hb).size)))
      have lt_B0 := B0.lt
      have lt_B1 := B1.lt
      have lt_B2 := B2.lt
      have lt_B3 := B3.lt
      go_wp2_with (first | rw [← zero64] | (refine wpList_store_blk rfl 23 (.tmp 8) (.tmp 27) rfl _ 64 (fun _ => 0) rfl rfl 23 _ (B3) Try.size23 ?_; try simp only [Act.put]; go_wp2_with fail))
      have qB0 : Blk (W3.setRow (w.heap.size + 1 + 1 + 1) (bcells 64 (fun _ => 0))) (w.heap.size) 64 23 (m) := (B0.rowOther (by omega))
      have qB1 : Blk (W3.setRow (w.heap.size + 1 + 1 + 1) (bcells 64 (fun _ => 0))) (w.heap.size + 1) 512 34 (fl 64 F) := (B1.rowOther (by omega))
      have qB2 : Blk (W3.setRow (w.heap.size + 1 + 1 + 1) (bcells 64 (fun _ => 0))) (w.heap.size + 1 + 1) 64 23 (x) := (B2.rowOther (by omega))
      have qB3 : Blk (W3.setRow (w.heap.size + 1 + 1 + 1) (bcells 64 (fun _ => 0))) (w.heap.size + 1 + 1 + 1) 64 23 (fun _ => 0) := (B3.row (fun _ => 0))
      have qhb : Below w.heap.size w (W3.setRow (w.heap.size + 1 + 1 + 1) (bcells 64 (fun _ => 0))) := (below_row hb (by omega) _)
      obtain ⟨W4, hwo⟩ : ∃ v : World, v = (W3.setRow (w.heap.size + 1 + 1 + 1) (bcells 64 (fun _ => 0))) := ⟨_, rfl⟩
      rw [← hwo] at qB0 qB1 qB2 qB3 qhb ⊢
      clear hwo
      clear B0 B1 B2 B3 hb
      have B0 := qB0
      have B1 := qB1
      have B2 := qB2
      have B3 := qB3
      have hb := qhb
      clear qB0 qB1 qB2 qB3 qhb
      try simp only [Act.put, List.setIfInBounds_toArray, List.set_cons_zero, List.set_cons_succ]
      refine bodyPost_ret (results_bt rfl _ _ _ 64 23 5 _ rfl B3 Try.underlying23 Try.size23) rfl ⟨by first | (rw [HV.out]; rfl) | rw [HV.out], hb⟩
    | true =>
      have HV := Lib.hid (vsV_0 hc hd hr)
      have HRS := Lib.hid (fun W => l03Residue_any (n : Int) m x hm hx W)
      rw [hr] at HRS
      have HVA := Lib.hid (fun W => l03Value_any n m F x W hpr lm d hd hd1 (by omega) lF (rsB_rsd hr))
      go_upto_region 2 with (first | (refine wpList_load_any rfl 23 (.tmp 5) rfl _ rfl 64 23 _ B0 _ Try.underlying23 rfl Try.size23 ?_) | (refine wpList_load_any rfl 34 (.tmp 6) rfl _ rfl 512 34 _ B1 _ Try.underlying34 rfl Try.size34 ?_) | (refine wpList_build_sks rfl 127 _ [F] rfl 34 Try.underlying127 Try.elem34 (by simp) (by simp) rfl ?_; intro wa hps hba) | (go_at_call 95; refine (l03Code_any _ m hm [F] (by simp [hF]) (by simp) _ _ hps).mono ?_; rintro e W2 ⟨rfl, hbb⟩; rw [hc]))
      have hBB : Below W1.heap.size W1 W2 := hba.trans (hbb.mono hba.size)
      replace B0 := B0.below hBB B0.lt
      replace B1 := B1.below hBB B1.lt
      replace B2 := B2.below hBB B2.lt
      replace B3 := B3.below hBB B3.lt
      replace hb := hb.trans (hBB.mono hb.size)
      clear hBB hba hbb hps
      clear hc hl lF hmon hr
      go_upto_region 6 with (first | (refine wpList_load_any_g rfl 23 (.tmp 5) rfl _ rfl 64 23 _ (B0) _ Try.underlying23 rfl Try.size23 ?_) | (refine wpList_load_any_g rfl 23 (.tmp 7) rfl _ rfl 64 23 _ (B2) _ Try.underlying23 rfl Try.size23 ?_) | (go_at_call 102; refine (HRS.out _).mono ?_; rintro e W3 ⟨rfl, hW3⟩; replace B0 := B0.below hW3 B0.lt; replace B1 := B1.below hW3 B1.lt; replace B2 := B2.below hW3 B2.lt; replace B3 := B3.below hW3 B3.lt; replace hb := (hb).trans (hW3.mono (hb).size)))
      have lt_B0 := B0.lt
      have lt_B1 := B1.lt
      have lt_B2 := B2.lt
      have lt_B3 := B3.lt
      go_wp2_with (first | rw [← zero64] | (refine wpList_load_any rfl 23 (.tmp 5) rfl _ rfl 64 23 _ (B0) _ Try.underlying23 rfl Try.size23 ?_) | (refine wpList_load_any rfl 34 (.tmp 6) rfl _ rfl 512 34 _ (B1) _ Try.underlying34 rfl Try.size34 ?_) | (refine wpList_load_any rfl 23 (.tmp 7) rfl _ rfl 64 23 _ (B2) _ Try.underlying23 rfl Try.size23 ?_) | (go_at_call 103; refine (HVA.out _).mono ?_; rintro e W4 ⟨rfl, hW4⟩; replace B0 := B0.below hW4 B0.lt; replace B1 := B1.below hW4 B1.lt; replace B2 := B2.below hW4 B2.lt; replace B3 := B3.below hW4 B3.lt; replace hb := (hb).trans (hW4.mono (hb).size)) | (refine wpList_store_blk rfl 23 (.tmp 8) (.tmp 33) rfl _ 64 (vlR n m d F x 8) rfl rfl 23 _ (B3) Try.size23 ?_; try simp only [Act.put]; go_wp2_with fail))
      have qB0 : Blk (W4.setRow (w.heap.size + 1 + 1 + 1) (bcells 64 (vlR n m d F x 8))) (w.heap.size) 64 23 (m) := (B0.rowOther (by omega))
      have qB1 : Blk (W4.setRow (w.heap.size + 1 + 1 + 1) (bcells 64 (vlR n m d F x 8))) (w.heap.size + 1) 512 34 (fl 64 F) := (B1.rowOther (by omega))
      have qB2 : Blk (W4.setRow (w.heap.size + 1 + 1 + 1) (bcells 64 (vlR n m d F x 8))) (w.heap.size + 1 + 1) 64 23 (x) := (B2.rowOther (by omega))
      have qB3 : Blk (W4.setRow (w.heap.size + 1 + 1 + 1) (bcells 64 (vlR n m d F x 8))) (w.heap.size + 1 + 1 + 1) 64 23 (vlR n m d F x 8) := (B3.row (vlR n m d F x 8))
      have qhb : Below w.heap.size w (W4.setRow (w.heap.size + 1 + 1 + 1) (bcells 64 (vlR n m d F x 8))) := (below_row hb (by omega) _)
      obtain ⟨W5, hwo⟩ : ∃ v : World, v = (W4.setRow (w.heap.size + 1 + 1 + 1) (bcells 64 (vlR n m d F x 8))) := ⟨_, rfl⟩
      rw [← hwo] at qB0 qB1 qB2 qB3 qhb ⊢
      clear hwo
      clear B0 B1 B2 B3 hb
      have B0 := qB0
      have B1 := qB1
      have B2 := qB2
      have B3 := qB3
      have hb := qhb
      clear qB0 qB1 qB2 qB3 qhb
      try simp only [Act.put, List.setIfInBounds_toArray, List.set_cons_zero, List.set_cons_succ]
      refine bodyPost_ret (results_bt rfl _ _ _ 64 23 5 _ rfl B3 Try.underlying23 Try.size23) rfl ⟨by first | (rw [HV.out]; rfl) | rw [HV.out], hb⟩
  · have HV := Lib.hid (vsV_1 (x := x) hc)
    go_upto_region 5 with (first | (refine wpList_load_any rfl 23 (.tmp 5) rfl _ rfl 64 23 _ B0 _ Try.underlying23 rfl Try.size23 ?_) | (refine wpList_load_any rfl 34 (.tmp 6) rfl _ rfl 512 34 _ B1 _ Try.underlying34 rfl Try.size34 ?_) | (refine wpList_build_sks rfl 127 _ [F] rfl 34 Try.underlying127 Try.elem34 (by simp) (by simp) rfl ?_; intro wa hps hba) | (go_at_call 95; refine (l03Code_any _ m hm [F] (by simp [hF]) (by simp) _ _ hps).mono ?_; rintro e W2 ⟨rfl, hbb⟩; rw [hc]))
    have hBB : Below W1.heap.size W1 W2 := hba.trans (hbb.mono hba.size)
    replace B0 := B0.below hBB B0.lt
    replace B1 := B1.below hBB B1.lt
    replace B2 := B2.below hBB B2.lt
    replace B3 := B3.below hBB B3.lt
    replace hb := hb.trans (hBB.mono hb.size)
    clear hBB hba hbb hps
    clear hc
    have lt_B0 := B0.lt
    have lt_B1 := B1.lt
    have lt_B2 := B2.lt
    have lt_B3 := B3.lt
    go_wp2_with (first | rw [← zero64] | (refine wpList_store_blk rfl 23 (.tmp 8) (.tmp 27) rfl _ 64 (fun _ => 0) rfl rfl 23 _ (B3) Try.size23 ?_; try simp only [Act.put]; go_wp2_with fail))
    have qB0 : Blk (W2.setRow (w.heap.size + 1 + 1 + 1) (bcells 64 (fun _ => 0))) (w.heap.size) 64 23 (m) := (B0.rowOther (by omega))
    have qB1 : Blk (W2.setRow (w.heap.size + 1 + 1 + 1) (bcells 64 (fun _ => 0))) (w.heap.size + 1) 512 34 (fl 64 F) := (B1.rowOther (by omega))
    have qB2 : Blk (W2.setRow (w.heap.size + 1 + 1 + 1) (bcells 64 (fun _ => 0))) (w.heap.size + 1 + 1) 64 23 (x) := (B2.rowOther (by omega))
    have qB3 : Blk (W2.setRow (w.heap.size + 1 + 1 + 1) (bcells 64 (fun _ => 0))) (w.heap.size + 1 + 1 + 1) 64 23 (fun _ => 0) := (B3.row (fun _ => 0))
    have qhb : Below w.heap.size w (W2.setRow (w.heap.size + 1 + 1 + 1) (bcells 64 (fun _ => 0))) := (below_row hb (by omega) _)
    obtain ⟨W3, hwo⟩ : ∃ v : World, v = (W2.setRow (w.heap.size + 1 + 1 + 1) (bcells 64 (fun _ => 0))) := ⟨_, rfl⟩
    rw [← hwo] at qB0 qB1 qB2 qB3 qhb ⊢
    clear hwo
    clear B0 B1 B2 B3 hb
    have B0 := qB0
    have B1 := qB1
    have B2 := qB2
    have B3 := qB3
    have hb := qhb
    clear qB0 qB1 qB2 qB3 qhb
    try simp only [Act.put, List.setIfInBounds_toArray, List.set_cons_zero, List.set_cons_succ]
    refine bodyPost_ret (results_bt rfl _ _ _ 64 23 5 _ rfl B3 Try.underlying23 Try.size23) rfl ⟨by first | (rw [HV.out]; rfl) | rw [HV.out], hb⟩
set_option maxRecDepth 100000 in
set_option maxHeartbeats 1600000 in
theorem impl_ValueOfSkew_any (p : Int) (m : Nat → Nat) (F : Nat → Nat → Nat) (x : Nat → Nat) (hm : byte m) (hF : ∀ i, byte (F i)) (hx : byte x) (w : World) :
    Calls Try.prog 40 #[.int .i64 p, .agg (bcells 64 m), .agg (bcells 512 (fl 64 F)), .agg (bcells 64 x)] w fun e w' => e = .returned (.tuple #[.agg (bcells 64 (vsV p m F x).1), .int .i64 (vsV p m F x).2]) ∧ Below w.heap.size w w' := by
  go_enter Try.func40, Try.ntmps40
  go_upto_region 1 with (fail)
  rw [← zero64]
  obtain ⟨W1, hwo⟩ : ∃ v : World, v = ((((w.alloc (.cells (bcells 64 (m)) 23)).alloc (.cells (bcells 512 (fl 64 F)) 34)).alloc (.cells (bcells 64 (x)) 23)).alloc (.cells (bcells 64 (fun _ => 0)) 23)) := ⟨_, rfl⟩
  have B0 : Blk W1 (w.heap.size) 64 23 (m) := by subst hwo; have := ((((Blk.new w 64 23 (m)).alloc (.cells (bcells 512 (fl 64 F)) 34)).alloc (.cells (bcells 64 (x)) 23)).alloc (.cells (bcells 64 (fun _ => 0)) 23)); simpa using this
  have B1 : Blk W1 (w.heap.size + 1) 512 34 (fl 64 F) := by subst hwo; have := (((Blk.new (w.alloc (.cells (bcells 64 (m)) 23)) 512 34 (fl 64 F)).alloc (.cells (bcells 64 (x)) 23)).alloc (.cells (bcells 64 (fun _ => 0)) 23)); simpa using this
  have B2 : Blk W1 (w.heap.size + 1 + 1) 64 23 (x) := by subst hwo; have := ((Blk.new ((w.alloc (.cells (bcells 64 (m)) 23)).alloc (.cells (bcells 512 (fl 64 F)) 34)) 64 23 (x)).alloc (.cells (bcells 64 (fun _ => 0)) 23)); simpa using this
  have B3 : Blk W1 (w.heap.size + 1 + 1 + 1) 64 23 (fun _ => 0) := by subst hwo; have := (Blk.new (((w.alloc (.cells (bcells 64 (m)) 23)).alloc (.cells (bcells 512 (fl 64 F)) 34)).alloc (.cells (bcells 64 (x)) 23)) 64 23 (fun _ => 0)); simpa using this
  have hb : Below w.heap.size w W1 := by subst hwo; exact (((((Below.refl _ _).alloc (Nat.le_refl _) _).alloc (by simp) _).alloc (by simp; omega) _).alloc (by simp; omega) _)
  rw [← hwo]
  clear hwo
  rcases ckS_two p m [F] with hc | hc
  · obtain ⟨n, rfl, hpr, lm, ⟨d, hmon, hd1, hd4⟩, hl⟩ := ckS_fld hc
    have hd := hmon.1
    have lF : ∀ i, i < 8 → ∀ j, j < 64 → F i j < n := fun i hi => (hl F (by simp) i hi).1
    cases hr : rsB (n : Int) m x with
    | false =>
      have HV := Lib.hid (vsV_2 hc hr)
      have HRS := Lib.hid (fun W => isResidue_any (n : Int) m x hm hx W)
      rw [hr] at HRS
      have lt_B0 := B0.lt
      have lt_B1 := B1.lt
      have lt_B2 := B2.lt
      have lt_B3 := B3.lt
      go_upto_region 2 with (first | rw [← zero64] | rw [← fdC_zero] | (refine wpList_load_any rfl 23 (.tmp 5) rfl _ rfl 64 23 _ (B0) _ Try.underlying23 rfl Try.size23 ?_) | (refine wpList_build_of rfl 83 _ rfl (fdC (n : Int) m).toArray (by rw [Array.toList_map]; exact built_fd (n : Int) m) ?_) | (refine wpList_store_rowv rfl 83 (.tmp 10) (.tmp 14) rfl _ rfl (fdC (n : Int) m).toArray rfl 83 _ ((Row.new W1 83 (fdC 0 (fun _ => 0)).toArray)) 65 Try.size83 (by simp [fdC_len]) (by simp [fdC_len]) (fdC_all _ _) ?_; try simp only [Act.put]))
      have lt_B0 := B0.lt
      have lt_B1 := B1.lt
      have lt_B2 := B2.lt
      have lt_B3 := B3.lt
      have lhb := hb.size
      have qB0 : Blk ((W1.alloc (.cells (fdC 0 (fun _ => 0)).toArray 83)).setRow (W1.heap.size) (fdC (n : Int) m).toArray) (w.heap.size) 64 23 (m) := ((B0.alloc (.cells (fdC 0 (fun _ => 0)).toArray 83)).rowOther (by omega))
      have qB1 : Blk ((W1.alloc (.cells (fdC 0 (fun _ => 0)).toArray 83)).setRow (W1.heap.size) (fdC (n : Int) m).toArray) (w.heap.size + 1) 512 34 (fl 64 F) := ((B1.alloc (.cells (fdC 0 (fun _ => 0)).toArray 83)).rowOther (by omega))
      have qB2 : Blk ((W1.alloc (.cells (fdC 0 (fun _ => 0)).toArray 83)).setRow (W1.heap.size) (fdC (n : Int) m).toArray) (w.heap.size + 1 + 1) 64 23 (x) := ((B2.alloc (.cells (fdC 0 (fun _ => 0)).toArray 83)).rowOther (by omega))
      have qB3 : Blk ((W1.alloc (.cells (fdC 0 (fun _ => 0)).toArray 83)).setRow (W1.heap.size) (fdC (n : Int) m).toArray) (w.heap.size + 1 + 1 + 1) 64 23 (fun _ => 0) := ((B3.alloc (.cells (fdC 0 (fun _ => 0)).toArray 83)).rowOther (by omega))
      have qB4 : Row ((W1.alloc (.cells (fdC 0 (fun _ => 0)).toArray 83)).setRow (W1.heap.size) (fdC (n : Int) m).toArray) (W1.heap.size) 83 (fdC (n : Int) m).toArray := ((Row.new W1 83 (fdC 0 (fun _ => 0)).toArray).row (fdC (n : Int) m).toArray)
      have qhb : Below w.heap.size w ((W1.alloc (.cells (fdC 0 (fun _ => 0)).toArray 83)).setRow (W1.heap.size) (fdC (n : Int) m).toArray) := (below_row (hb.alloc (by have := hb.size; simp; omega) (.cells (fdC 0 (fun _ => 0)).toArray 83)) (by omega) _)
      obtain ⟨W2, hwo⟩ : ∃ v : World, v = ((W1.alloc (.cells (fdC 0 (fun _ => 0)).toArray 83)).setRow (W1.heap.size) (fdC (n : Int) m).toArray) := ⟨_, rfl⟩
      rw [← hwo] at qB0 qB1 qB2 qB3 qB4 qhb ⊢
      clear hwo
      clear B0 B1 B2 B3 hb
      have B0 := qB0
      have B1 := qB1
      have B2 := qB2
      have B3 := qB3
      have B4 := qB4
      have hb := qhb
      clear qB0 qB1 qB2 qB3 qB4 qhb
      obtain ⟨N1, hNN⟩ : ∃ n : Nat, n = W1.heap.size := ⟨_, rfl⟩
      rw [← hNN] at lt_B0 lt_B1 lt_B2 lt_B3 lhb B4 ⊢
      clear hNN
      have zN1_0 := lt_B0
      have zN1_1 := lt_B1
      have zN1_2 := lt_B2
      have zN1_3 := lt_B3
      have zN1 := lhb
      clear lt_B0 lt_B1 lt_B2 lt_B3 lhb
      try simp only [Act.put, List.setIfInBounds_toArray, List.set_cons_zero, List.set_cons_succ]
      go_upto_region 3 with (first | (refine wpList_load_any rfl 23 (.tmp 5) rfl _ rfl 64 23 _ B0 _ Try.underlying23 rfl Try.size23 ?_) | (refine wpList_load_any rfl 34 (.tmp 6) rfl _ rfl 512 34 _ B1 _ Try.underlying34 rfl Try.size34 ?_) | (refine wpList_build_sks rfl 127 _ [F] rfl 34 Try.underlying127 Try.elem34 (by simp) (by simp) rfl ?_; intro wa hps hba) | (go_at_call 94; refine (checkSkews_any _ m hm [F] (by simp [hF]) (by simp) _ _ hps).mono ?_; rintro e W3 ⟨rfl, hbb⟩; rw [hc]))
      have hBB : Below W2.heap.size W2 W3 := hba.trans (hbb.mono hba.size)
      replace B0 := B0.below hBB B0.lt
      replace B1 := B1.below hBB B1.lt
      replace B2 := B2.below hBB B2.lt
      replace B3 := B3.below hBB B3.lt
      replace B4 := B4.below hBB B4.lt
      replace hb := hb.trans (hBB.mono hb.size)
      clear hBB hba hbb hps
      clear hc hl lF hmon hr
      go_upto_region 4 with (first | (refine wpList_load_rowv_g rfl 83 (.tmp 10) rfl _ rfl 83 (fdC (n : Int) m).toArray (B4) _ Try.underlying83 rfl 65 Try.size83 (by simp [fdC_len]) ?_) | (refine wpList_load_any_g rfl 23 (.tmp 7) rfl _ rfl 64 23 _ (B2) _ Try.underlying23 rfl Try.size23 ?_) | (go_at_call 104; refine (HRS.out _).mono ?_; rintro e W4 ⟨rfl, hW4⟩; replace B0 := B0.below hW4 B0.lt; replace B1 := B1.below hW4 B1.lt; replace B2 := B2.below hW4 B2.lt; replace B3 := B3.below hW4 B3.lt; replace B4 := B4.below hW4 B4.lt; replace hb := (hb).trans (hW4.mono (hb).size)))
      have lt_B0 := B0.lt
      have lt_B1 := B1.lt
      have lt_B2 := B2.lt
      have lt_B3 := B3.lt
      have lt_B4 := B4.lt
      go_wp2_with (first | rw [← zero64] | (refine wpList_store_blk rfl 23 (.tmp 8) (.tmp 28) rfl _ 64 (fun _ => 0) rfl rfl 23 _ (B3) Try.size23 ?_; try simp only [Act.put]; go_wp2_with fail))
      have qB0 : Blk (W4.setRow (w.heap.size + 1 + 1 + 1) (bcells 64 (fun _ => 0))) (w.heap.size) 64 23 (m) := (B0.rowOther (by omega))
      have qB1 : Blk (W4.setRow (w.heap.size + 1 + 1 + 1) (bcells 64 (fun _ => 0))) (w.heap.size + 1) 512 34 (fl 64 F) := (B1.rowOther (by omega))
      have qB2 : Blk (W4.setRow (w.heap.size + 1 + 1 + 1) (bcells 64 (fun _ => 0))) (w.heap.size + 1 + 1) 64 23 (x) := (B2.rowOther (by omega))
      have qB3 : Blk (W4.setRow (w.heap.size + 1 + 1 + 1) (bcells 64 (fun _ => 0))) (w.heap.size + 1 + 1 + 1) 64 23 (fun _ => 0) := (B3.row (fun _ => 0))
      have qB4 : Row (W4.setRow (w.heap.size + 1 + 1 + 1) (bcells 64 (fun _ => 0))) (N1) 83 (fdC (n : Int) m).toArray := (B4.rowOther (by omega))
      have qhb : Below w.heap.size w (W4.setRow (w.heap.size + 1 + 1 + 1) (bcells 64 (fun _ => 0))) := (below_row hb (by omega) _)
      obtain ⟨W5, hwo⟩ : ∃ v : World, v = (W4.setRow (w.heap.size + 1 + 1 + 1) (bcells 64 (fun _ => 0))) := ⟨_, rfl⟩
      rw [← hwo] at qB0 qB1 qB2 qB3 qB4 qhb ⊢
      clear hwo
      clear B0 B1 B2 B3 B4 hb
      have B0 := qB0
      have B1 := qB1
      have B2 := qB2
      have B3 := qB3
      have B4 := qB4
      have hb := qhb
      clear qB0 qB1 qB2 qB3 qB4 qhb
      try simp only [Act.put, List.setIfInBounds_toArray, List.set_cons_zero, List.set_cons_succ]
      refine bodyPost_ret (results_bt rfl _ _ _ 64 23 5 _ rfl B3 Try.underlying23 Try.size23) rfl ⟨by first | (rw [HV.out]; rfl) | rw [HV.out], hb⟩
    | true =>
      have HV := Lib.hid (vsV_0 hc hd hr)
      have HRS := Lib.hid (fun W => isResidue_any (n : Int) m x hm hx W)
      rw [hr] at HRS
      have HVA := Lib.hid (fun W => skValue_any n m F x W hpr lm d hd hd1 (by omega) lF (rsB_rsd hr) (ckS_irr hc hmon))
      have lt_B0 := B0.lt
      have lt_B1 := B1.lt
      have lt_B2 := B2.lt
      have lt_B3 := B3.lt
      go_upto_region 2 with (first | rw [← zero64] | rw [← fdC_zero] | (refine wpList_load_any rfl 23 (.tmp 5) rfl _ rfl 64 23 _ (B0) _ Try.underlying23 rfl Try.size23 ?_) | (refine wpList_build_of rfl 83 _ rfl (fdC (n : Int) m).toArray (by rw [Array.toList_map]; exact built_fd (n : Int) m) ?_) | (refine wpList_store_rowv rfl 83 (.tmp 10) (.tmp 14) rfl _ rfl (fdC (n : Int) m).toArray rfl 83 _ ((Row.new W1 83 (fdC 0 (fun _ => 0)).toArray)) 65 Try.size83 (by simp [fdC_len]) (by simp [fdC_len]) (fdC_all _ _) ?_; try simp only [Act.put]))
      have lt_B0 := B0.lt
      have lt_B1 := B1.lt
      have lt_B2 := B2.lt
      have lt_B3 := B3.lt
      have lhb := hb.size
      have qB0 : Blk ((W1.alloc (.cells (fdC 0 (fun _ => 0)).toArray 83)).setRow (W1.heap.size) (fdC (n : Int) m).toArray) (w.heap.size) 64 23 (m) := ((B0.alloc (.cells (fdC 0 (fun _ => 0)).toArray 83)).rowOther (by omega))
      have qB1 : Blk ((W1.alloc (.cells (fdC 0 (fun _ => 0)).toArray 83)).setRow (W1.heap.size) (fdC (n : Int) m).toArray) (w.heap.size + 1) 512 34 (fl 64 F) := ((B1.alloc (.cells (fdC 0 (fun _ => 0)).toArray 83)).rowOther (by omega))
      have qB2 : Blk ((W1.alloc (.cells (fdC 0 (fun _ => 0)).toArray 83)).setRow (W1.heap.size) (fdC (n : Int) m).toArray) (w.heap.size + 1 + 1) 64 23 (x) := ((B2.alloc (.cells (fdC 0 (fun _ => 0)).toArray 83)).rowOther (by omega))
      have qB3 : Blk ((W1.alloc (.cells (fdC 0 (fun _ => 0)).toArray 83)).setRow (W1.heap.size) (fdC (n : Int) m).toArray) (w.heap.size + 1 + 1 + 1) 64 23 (fun _ => 0) := ((B3.alloc (.cells (fdC 0 (fun _ => 0)).toArray 83)).rowOther (by omega))
      have qB4 : Row ((W1.alloc (.cells (fdC 0 (fun _ => 0)).toArray 83)).setRow (W1.heap.size) (fdC (n : Int) m).toArray) (W1.heap.size) 83 (fdC (n : Int) m).toArray := ((Row.new W1 83 (fdC 0 (fun _ => 0)).toArray).row (fdC (n : Int) m).toArray)
      have qhb : Below w.heap.size w ((W1.alloc (.cells (fdC 0 (fun _ => 0)).toArray 83)).setRow (W1.heap.size) (fdC (n : Int) m).toArray) := (below_row (hb.alloc (by have := hb.size; simp; omega) (.cells (fdC 0 (fun _ => 0)).toArray 83)) (by omega) _)
      obtain ⟨W2, hwo⟩ : ∃ v : World, v = ((W1.alloc (.cells (fdC 0 (fun _ => 0)).toArray 83)).setRow (W1.heap.size) (fdC (n : Int) m).toArray) := ⟨_, rfl⟩
      rw [← hwo] at qB0 qB1 qB2 qB3 qB4 qhb ⊢
      clear hwo
      clear B0 B1 B2 B3 hb
      have B0 := qB0
      have B1 := qB1
      have B2 := qB2
      have B3 := qB3
      have B4 := qB4
      have hb := qhb
      clear qB0 qB1 qB2 qB3 qB4 qhb
      obtain ⟨N1, hNN⟩ : ∃ n : Nat, n = W1.heap.size := ⟨_, rfl⟩
      rw [← hNN] at lt_B0 lt_B1 lt_B2 lt_B3 lhb B4 ⊢
      clear hNN
      have zN1_0 := lt_B0
      have zN1_1 := lt_B1
      have zN1_2 := lt_B2
      have zN1_3 := lt_B3
      have zN1 := lhb
      clear lt_B0 lt_B1 lt_B2 lt_B3 lhb
      try simp only [Act.put, List.setIfInBounds_toArray, List.set_cons_zero, List.set_cons_succ]
      go_upto_region 3 with (first | (refine wpList_load_any rfl 23 (.tmp 5) rfl _ rfl 64 23 _ B0 _ Try.underlying23 rfl Try.size23 ?_) | (refine wpList_load_any rfl 34 (.tmp 6) rfl _ rfl 512 34 _ B1 _ Try.underlying34 rfl Try.size34 ?_) | (refine wpList_build_sks rfl 127 _ [F] rfl 34 Try.underlying127 Try.elem34 (by simp) (by simp) rfl ?_; intro wa hps hba) | (go_at_call 94; refine (checkSkews_any _ m hm [F] (by simp [hF]) (by simp) _ _ hps).mono ?_; rintro e W3 ⟨rfl, hbb⟩; rw [hc]))
      have hBB : Below W2.heap.size W2 W3 := hba.trans (hbb.mono hba.size)
      replace B0 := B0.below hBB B0.lt
      replace B1 := B1.below hBB B1.lt
      replace B2 := B2.below hBB B2.lt
      replace B3 := B3.below hBB B3.lt
      replace B4 := B4.below hBB B4.lt
      replace hb := hb.trans (hBB.mono hb.size)
      clear hBB hba hbb hps
      clear hc hl lF hmon hr
      go_upto_region 5 with (first | (refine wpList_load_rowv_g rfl 83 (.tmp 10) rfl _ rfl 83 (fdC (n : Int) m).toArray (B4) _ Try.underlying83 rfl 65 Try.size83 (by simp [fdC_len]) ?_) | (refine wpList_load_any_g rfl 23 (.tmp 7) rfl _ rfl 64 23 _ (B2) _ Try.underlying23 rfl Try.size23 ?_) | (go_at_call 104; refine (HRS.out _).mono ?_; rintro e W4 ⟨rfl, hW4⟩; replace B0 := B0.below hW4 B0.lt; replace B1 := B1.below hW4 B1.lt; replace B2 := B2.below hW4 B2.lt; replace B3 := B3.below hW4 B3.lt; replace B4 := B4.below hW4 B4.lt; replace hb := (hb).trans (hW4.mono (hb).size)))
      have lt_B0 := B0.lt
      have lt_B1 := B1.lt
      have lt_B2 := B2.lt
      have lt_B3 := B3.lt
      have lt_B4 := B4.lt
      go_wp2_with (first | rw [← zero64] | (refine wpList_load_any rfl 34 (.tmp 6) rfl _ rfl 512 34 _ (B1) _ Try.underlying34 rfl Try.size34 ?_) | (refine wpList_load_rowv rfl 83 (.tmp 10) rfl _ rfl 83 (fdC (n : Int) m).toArray (B4) _ Try.underlying83 rfl 65 Try.size83 (by simp [fdC_len]) ?_) | (refine wpList_load_any rfl 23 (.tmp 7) rfl _ rfl 64 23 _ (B2) _ Try.underlying23 rfl Try.size23 ?_) | (go_at_call 105; refine (HVA.out _).mono ?_; rintro e W5 ⟨rfl, hW5⟩; replace B0 := B0.below hW5 B0.lt; replace B1 := B1.below hW5 B1.lt; replace B2 := B2.below hW5 B2.lt; replace B3 := B3.below hW5 B3.lt; replace B4 := B4.below hW5 B4.lt; replace hb := (hb).trans (hW5.mono (hb).size)) | (refine wpList_store_blk rfl 23 (.tmp 8) (.tmp 32) rfl _ 64 (vlR n m d F x 8) rfl rfl 23 _ (B3) Try.size23 ?_; try simp only [Act.put]; go_wp2_with fail))
      have qB0 : Blk (W5.setRow (w.heap.size + 1 + 1 + 1) (bcells 64 (vlR n m d F x 8))) (w.heap.size) 64 23 (m) := (B0.rowOther (by omega))
      have qB1 : Blk (W5.setRow (w.heap.size + 1 + 1 + 1) (bcells 64 (vlR n m d F x 8))) (w.heap.size + 1) 512 34 (fl 64 F) := (B1.rowOther (by omega))
      have qB2 : Blk (W5.setRow (w.heap.size + 1 + 1 + 1) (bcells 64 (vlR n m d F x 8))) (w.heap.size + 1 + 1) 64 23 (x) := (B2.rowOther (by omega))
      have qB3 : Blk (W5.setRow (w.heap.size + 1 + 1 + 1) (bcells 64 (vlR n m d F x 8))) (w.heap.size + 1 + 1 + 1) 64 23 (vlR n m d F x 8) := (B3.row (vlR n m d F x 8))
      have qB4 : Row (W5.setRow (w.heap.size + 1 + 1 + 1) (bcells 64 (vlR n m d F x 8))) (N1) 83 (fdC (n : Int) m).toArray := (B4.rowOther (by omega))
      have qhb : Below w.heap.size w (W5.setRow (w.heap.size + 1 + 1 + 1) (bcells 64 (vlR n m d F x 8))) := (below_row hb (by omega) _)
      obtain ⟨W6, hwo⟩ : ∃ v : World, v = (W5.setRow (w.heap.size + 1 + 1 + 1) (bcells 64 (vlR n m d F x 8))) := ⟨_, rfl⟩
      rw [← hwo] at qB0 qB1 qB2 qB3 qB4 qhb ⊢
      clear hwo
      clear B0 B1 B2 B3 B4 hb
      have B0 := qB0
      have B1 := qB1
      have B2 := qB2
      have B3 := qB3
      have B4 := qB4
      have hb := qhb
      clear qB0 qB1 qB2 qB3 qB4 qhb
      try simp only [Act.put, List.setIfInBounds_toArray, List.set_cons_zero, List.set_cons_succ]
      refine bodyPost_ret (results_bt rfl _ _ _ 64 23 5 _ rfl B3 Try.underlying23 Try.size23) rfl ⟨by first | (rw [HV.out]; rfl) | rw [HV.out], hb⟩
  · have HV := Lib.hid (vsV_1 (x := x) hc)
    have lt_B0 := B0.lt
    have lt_B1 := B1.lt
    have lt_B2 := B2.lt
    have lt_B3 := B3.lt
    go_upto_region 2 with (first | rw [← zero64] | rw [← fdC_zero] | (refine wpList_load_any rfl 23 (.tmp 5) rfl _ rfl 64 23 _ (B0) _ Try.underlying23 rfl Try.size23 ?_) | (refine wpList_build_of rfl 83 _ rfl (fdC p m).toArray (by rw [Array.toList_map]; exact built_fd p m) ?_) | (refine wpList_store_rowv rfl 83 (.tmp 10) (.tmp 14) rfl _ rfl (fdC p m).toArray rfl 83 _ ((Row.new W1 83 (fdC 0 (fun _ => 0)).toArray)) 65 Try.size83 (by simp [fdC_len]) (by simp [fdC_len]) (fdC_all _ _) ?_; try simp only [Act.put]))
    have lt_B0 := B0.lt
    have lt_B1 := B1.lt
    have lt_B2 := B2.lt
    have lt_B3 := B3.lt
    have lhb := hb.size
    have qB0 : Blk ((W1.alloc (.cells (fdC 0 (fun _ => 0)).toArray 83)).setRow (W1.heap.size) (fdC p m).toArray) (w.heap.size) 64 23 (m) := ((B0.alloc (.cells (fdC 0 (fun _ => 0)).toArray 83)).rowOther (by omega))
    have qB1 : Blk ((W1.alloc (.cells (fdC 0 (fun _ => 0)).toArray 83)).setRow (W1.heap.size) (fdC p m).toArray) (w.heap.size + 1) 512 34 (fl 64 F) := ((B1.alloc (.cells (fdC 0 (fun _ => 0)).toArray 83)).rowOther (by omega))
    have qB2 : Blk ((W1.alloc (.cells (fdC 0 (fun _ => 0)).toArray 83)).setRow (W1.heap.size) (fdC p m).toArray) (w.heap.size + 1 + 1) 64 23 (x) := ((B2.alloc (.cells (fdC 0 (fun _ => 0)).toArray 83)).rowOther (by omega))
    have qB3 : Blk ((W1.alloc (.cells (fdC 0 (fun _ => 0)).toArray 83)).setRow (W1.heap.size) (fdC p m).toArray) (w.heap.size + 1 + 1 + 1) 64 23 (fun _ => 0) := ((B3.alloc (.cells (fdC 0 (fun _ => 0)).toArray 83)).rowOther (by omega))
    have qB4 : Row ((W1.alloc (.cells (fdC 0 (fun _ => 0)).toArray 83)).setRow (W1.heap.size) (fdC p m).toArray) (W1.heap.size) 83 (fdC p m).toArray := ((Row.new W1 83 (fdC 0 (fun _ => 0)).toArray).row (fdC p m).toArray)
    have qhb : Below w.heap.size w ((W1.alloc (.cells (fdC 0 (fun _ => 0)).toArray 83)).setRow (W1.heap.size) (fdC p m).toArray) := (below_row (hb.alloc (by have := hb.size; simp; omega) (.cells (fdC 0 (fun _ => 0)).toArray 83)) (by omega) _)
    obtain ⟨W2, hwo⟩ : ∃ v : World, v = ((W1.alloc (.cells (fdC 0 (fun _ => 0)).toArray 83)).setRow (W1.heap.size) (fdC p m).toArray) := ⟨_, rfl⟩
    rw [← hwo] at qB0 qB1 qB2 qB3 qB4 qhb ⊢
    clear hwo
    clear B0 B1 B2 B3 hb
    have B0 := qB0
    have B1 := qB1
    have B2 := qB2
    have B3 := qB3
    have B4 := qB4
    have hb := qhb
    clear qB0 qB1 qB2 qB3 qB4 qhb
    obtain ⟨N1, hNN⟩ : ∃ n : Nat, n = W1.heap.size := ⟨_, rfl⟩
    rw [← hNN] at lt_B0 lt_B1 lt_B2 lt_B3 lhb B4 ⊢
    clear hNN
    have zN1_0 := lt_B0
    have zN1_1 := lt_B1
    have zN1_2 := lt_B2
    have zN1_3 := lt_B3
    have zN1 := lhb
    clear lt_B0 lt_B1 lt_B2 lt_B3 lhb
    try simp only [Act.put, List.setIfInBounds_toArray, List.set_cons_zero, List.set_cons_succ]
    go_upto_region 4 with (first | (refine wpList_load_any rfl 23 (.tmp 5) rfl _ rfl 64 23 _ B0 _ Try.underlying23 rfl Try.size23 ?_) | (refine wpList_load_any rfl 34 (.tmp 6) rfl _ rfl 512 34 _ B1 _ Try.underlying34 rfl Try.size34 ?_) | (refine wpList_build_sks rfl 127 _ [F] rfl 34 Try.underlying127 Try.elem34 (by simp) (by simp) rfl ?_; intro wa hps hba) | (go_at_call 94; refine (checkSkews_any _ m hm [F] (by simp [hF]) (by simp) _ _ hps).mono ?_; rintro e W3 ⟨rfl, hbb⟩; rw [hc]))
    have hBB : Below W2.heap.size W2 W3 := hba.trans (hbb.mono hba.size)
    replace B0 := B0.below hBB B0.lt
    replace B1 := B1.below hBB B1.lt
    replace B2 := B2.below hBB B2.lt
    replace B3 := B3.below hBB B3.lt
    replace B4 := B4.below hBB B4.lt
    replace hb := hb.trans (hBB.mono hb.size)
    clear hBB hba hbb hps
    clear hc
    have lt_B0 := B0.lt
    have lt_B1 := B1.lt
    have lt_B2 := B2.lt
    have lt_B3 := B3.lt
    have lt_B4 := B4.lt
    go_wp2_with (first | rw [← zero64] | (refine wpList_store_blk rfl 23 (.tmp 8) (.tmp 28) rfl _ 64 (fun _ => 0) rfl rfl 23 _ (B3) Try.size23 ?_; try simp only [Act.put]; go_wp2_with fail))
    have qB0 : Blk (W3.setRow (w.heap.size + 1 + 1 + 1) (bcells 64 (fun _ => 0))) (w.heap.size) 64 23 (m) := (B0.rowOther (by omega))
    have qB1 : Blk (W3.setRow (w.heap.size + 1 + 1 + 1) (bcells 64 (fun _ => 0))) (w.heap.size + 1) 512 34 (fl 64 F) := (B1.rowOther (by omega))
    have qB2 : Blk (W3.setRow (w.heap.size + 1 + 1 + 1) (bcells 64 (fun _ => 0))) (w.heap.size + 1 + 1) 64 23 (x) := (B2.rowOther (by omega))
    have qB3 : Blk (W3.setRow (w.heap.size + 1 + 1 + 1) (bcells 64 (fun _ => 0))) (w.heap.size + 1 + 1 + 1) 64 23 (fun _ => 0) := (B3.row (fun _ => 0))
    have qB4 : Row (W3.setRow (w.heap.size + 1 + 1 + 1) (bcells 64 (fun _ => 0))) (N1) 83 (fdC p m).toArray := (B4.rowOther (by omega))
    have qhb : Below w.heap.size w (W3.setRow (w.heap.size + 1 + 1 + 1) (bcells 64 (fun _ => 0))) := (below_row hb (by omega) _)
    obtain ⟨W4, hwo⟩ : ∃ v : World, v = (W3.setRow (w.heap.size + 1 + 1 + 1) (bcells 64 (fun _ => 0))) := ⟨_, rfl⟩
    rw [← hwo] at qB0 qB1 qB2 qB3 qB4 qhb ⊢
    clear hwo
    clear B0 B1 B2 B3 B4 hb
    have B0 := qB0
    have B1 := qB1
    have B2 := qB2
    have B3 := qB3
    have B4 := qB4
    have hb := qhb
    clear qB0 qB1 qB2 qB3 qB4 qhb
    try simp only [Act.put, List.setIfInBounds_toArray, List.set_cons_zero, List.set_cons_succ]
    refine bodyPost_ret (results_bt rfl _ _ _ 64 23 5 _ rfl B3 Try.underlying23 Try.size23) rfl ⟨by first | (rw [HV.out]; rfl) | rw [HV.out], hb⟩
end Go.Proofs.Ytbjpkmbhbpcbgaa
end
section
namespace Go.Proofs.Ytbjpkmbhbpcbgaa
open Go Go.RowKit
set_option linter.unusedVariables false
set_option linter.unusedSimpArgs false
set_option maxRecDepth 100000 in
set_option maxHeartbeats 1600000 in
theorem FnExactValueOfSkew_walk (p : Int) (m : Nat → Nat) (F : Nat → Nat → Nat) (x : Nat → Nat) (hm : byte m) (hF : ∀ i, byte (F i)) (hx : byte x) (w : World) :
    Calls Try.prog 9 #[.int .i64 p, .agg (bcells 64 m), .agg (bcells 512 (fl 64 F)), .agg (bcells 64 x)] w fun e w' => e = .returned (.bool true) ∧ Below w.heap.size w w' := by
  go_enter Try.func9, Try.ntmps9
  go_upto_region 1 with (fail)
  obtain ⟨W1, hwo⟩ : ∃ v : World, v = (((w.alloc (.cells (bcells 64 (m)) 22)).alloc (.cells (bcells 512 (fl 64 F)) 31)).alloc (.cells (bcells 64 (x)) 22)) := ⟨_, rfl⟩
  have B0 : Blk W1 (w.heap.size) 64 22 (m) := by subst hwo; have := (((Blk.new w 64 22 (m)).alloc (.cells (bcells 512 (fl 64 F)) 31)).alloc (.cells (bcells 64 (x)) 22)); simpa using this
  have B1 : Blk W1 (w.heap.size + 1) 512 31 (fl 64 F) := by subst hwo; have := ((Blk.new (w.alloc (.cells (bcells 64 (m)) 22)) 512 31 (fl 64 F)).alloc (.cells (bcells 64 (x)) 22)); simpa using this
  have B2 : Blk W1 (w.heap.size + 1 + 1) 64 22 (x) := by subst hwo; have := (Blk.new ((w.alloc (.cells (bcells 64 (m)) 22)).alloc (.cells (bcells 512 (fl 64 F)) 31)) 64 22 (x)); simpa using this
  have hb : Below w.heap.size w W1 := by subst hwo; exact ((((Below.refl _ _).alloc (Nat.le_refl _) _).alloc (by simp) _).alloc (by simp; omega) _)
  rw [← hwo]
  clear hwo
  have hne1 : (((vsV p m F x).2) != ((vsV p m F x).2)) = false := by simp
  have lt_B0 : (w.heap.size) < W1.heap.size := B0.lt
  have lt_B1 : (w.heap.size + 1) < W1.heap.size := B1.lt
  have lt_B2 : (w.heap.size + 1 + 1) < W1.heap.size := B2.lt
  have hbase : w.heap.size ≤ W1.heap.size := hb.size
  refine wp_region_steps0 Try.mixed (by kernel_rfl) (by kernel_rfl) (fun v => by (simp only [frL, Act.put, List.setIfInBounds_toArray, List.set_cons_zero, List.set_cons_succ, Nat.reduceAdd, Nat.zero_add]; exact rfl))
    (fun L v W2 => Below w.heap.size w W2 ∧ W1.heap.size ≤ W2.heap.size ∧ Blk W2 (w.heap.size) 64 22 (m) ∧ Blk W2 (w.heap.size + 1) 512 31 (fl 64 F) ∧ Blk W2 (w.heap.size + 1 + 1) 64 22 (x) ∧ (L 0 = true → v 0 = (.int .i64 p)) ∧ (L 1 = true → v 1 = (.agg (bcells 64 (m)))) ∧ (L 2 = true → v 2 = (.agg (bcells 64 (m)))) ∧ (L 3 = true → v 3 = (.agg (bcells 512 (fl 64 F)))) ∧ (L 4 = true → v 4 = (.agg (bcells 512 (fl 64 F)))) ∧ (L 5 = true → v 5 = (.agg (bcells 64 (x)))) ∧ (L 6 = true → v 6 = (.agg (bcells 64 (x)))) ∧ (L 7 = true → v 7 = (.tuple #[(.agg (bcells 64 ((vsV p m F x).1))), (.int .i64 ((vsV p m F x).2))])) ∧ (L 8 = true → v 8 = (.tuple #[(.agg (bcells 64 ((vsV p m F x).1))), (.int .i64 ((vsV p m F x).2))])) ∧ (L 9 = true → v 9 = (.agg (bcells 64 ((vsV p m F x).1)))) ∧ (L 10 = true → v 10 = (.int .i64 ((vsV p m F x).2))) ∧ (L 11 = true → AF (v 11) W2 W1.heap.size 64 23) ∧ (L 12 = true → PF (v 11) W2 W1.heap.size 64 23 ((vsV p m F x).1)) ∧ (L 13 = true → v 13 = (.int .i64 ((vsV p m F x).2)))) ?_ ?_ ?_
  · intro v hv0
    exact ⟨hb.drew, Nat.le_refl _, B0.drew, B1.drew, B2.drew, (fun h => by cases h), (fun h => by cases h), (fun h => by cases h), (fun h => by cases h), (fun h => by cases h), (fun h => by cases h), (fun h => by cases h), (fun h => by cases h), (fun h => by cases h), (fun h => by cases h), (fun h => by cases h), (fun h => by cases h), (fun h => by cases h), (fun h => by cases h)⟩
  · refine (.cons rfl ?_ (.cons rfl ?_ (.cons rfl ?_ (.cons rfl ?_ (.cons rfl ?_ (.cons rfl ?_ (.cons rfl ?_ (.cons rfl ?_ (.cons rfl ?_ (.cons rfl ?_ (.cons rfl ?_ (.cons rfl ?_ (.cons rfl ?_ (.cons rfl ?_ (.nil _)))))))))))))))
    · intro L v W2 hd hn ⟨hB, hz, s0, s1, s2, h0, h1, h2, h3, h4, h5, h6, h7, h8, h9, h10, h11, h12, h13⟩ K hK
      go_wp2_with fail
      exact hK _ (.int .i64 p) _ (by simp only [Act.put, List.setIfInBounds_toArray, List.set_cons_zero, List.set_cons_succ ]) ⟨hB, hz, s0, s1, s2, (fun _ => rfl), h1, h2, h3, h4, h5, h6, h7, h8, h9, h10, h11, h12, h13⟩
    · intro L v W2 hd hn ⟨hB, hz, s0, s1, s2, h0, h1, h2, h3, h4, h5, h6, h7, h8, h9, h10, h11, h12, h13⟩ K hK
      refine wp_load_any 22 _ rfl _ rfl 64 22 _ s0 _ Try.underlying22 rfl Try.size22 ?_
      exact hK _ _ _ rfl ⟨hB, hz, s0, s1, s2, h0, (fun _ => rfl), h2, h3, h4, h5, h6, h7, h8, h9, h10, h11, h12, h13⟩
    · intro L v W2 hd hn ⟨hB, hz, s0, s1, s2, h0, h1, h2, h3, h4, h5, h6, h7, h8, h9, h10, h11, h12, h13⟩ K hK
      have e1 := h1 (hd ⟨1, .data⟩ (by simp) rfl)
      go_wp2_with (go_at_call 24; refine (toPoly_any m hm _).mono ?_; rintro e wy ⟨rfl, hy⟩)
      exact hK _ (.agg (bcells 64 (m))) _ (by simp only [Act.put, List.setIfInBounds_toArray, List.set_cons_zero, List.set_cons_succ, e1]) ⟨hB.trans (hy.mono hB.size), (Nat.le_trans hz hy.size), (s0).below hy (s0).lt, (s1).below hy (s1).lt, (s2).below hy (s2).lt, h0, h1, (fun _ => rfl), h3, h4, h5, h6, h7, h8, h9, h10, (fun h => (h11 h).below hy), (fun h => (h12 h).below hy), h13⟩
    · intro L v W2 hd hn ⟨hB, hz, s0, s1, s2, h0, h1, h2, h3, h4, h5, h6, h7, h8, h9, h10, h11, h12, h13⟩ K hK
      refine wp_load_any 31 _ rfl _ rfl 512 31 _ s1 _ Try.underlying31 rfl Try.size31 ?_
      exact hK _ _ _ rfl ⟨hB, hz, s0, s1, s2, h0, h1, h2, (fun _ => rfl), h4, h5, h6, h7, h8, h9, h10, h11, h12, h13⟩
    · intro L v W2 hd hn ⟨hB, hz, s0, s1, s2, h0, h1, h2, h3, h4, h5, h6, h7, h8, h9, h10, h11, h12, h13⟩ K hK
      have e3 := h3 (hd ⟨3, .data⟩ (by simp) rfl)
      go_wp2_with (go_at_call 30; refine (toSkew_any F hF _).mono ?_; rintro e wy ⟨rfl, hy⟩)
      exact hK _ (.agg (bcells 512 (fl 64 F))) _ (by simp only [Act.put, List.setIfInBounds_toArray, List.set_cons_zero, List.set_cons_succ, e3]) ⟨hB.trans (hy.mono hB.size), (Nat.le_trans hz hy.size), (s0).below hy (s0).lt, (s1).below hy (s1).lt, (s2).below hy (s2).lt, h0, h1, h2, h3, (fun _ => rfl), h5, h6, h7, h8, h9, h10, (fun h => (h11 h).below hy), (fun h => (h12 h).below hy), h13⟩
    · intro L v W2 hd hn ⟨hB, hz, s0, s1, s2, h0, h1, h2, h3, h4, h5, h6, h7, h8, h9, h10, h11, h12, h13⟩ K hK
      refine wp_load_any 22 _ rfl _ rfl 64 22 _ s2 _ Try.underlying22 rfl Try.size22 ?_
      exact hK _ _ _ rfl ⟨hB, hz, s0, s1, s2, h0, h1, h2, h3, h4, (fun _ => rfl), h6, h7, h8, h9, h10, h11, h12, h13⟩
    · intro L v W2 hd hn ⟨hB, hz, s0, s1, s2, h0, h1, h2, h3, h4, h5, h6, h7, h8, h9, h10, h11, h12, h13⟩ K hK
      have e5 := h5 (hd ⟨5, .data⟩ (by simp) rfl)
      go_wp2_with (go_at_call 24; refine (toPoly_any x hx _).mono ?_; rintro e wy ⟨rfl, hy⟩)
      exact hK _ (.agg (bcells 64 (x))) _ (by simp only [Act.put, List.setIfInBounds_toArray, List.set_cons_zero, List.set_cons_succ, e5]) ⟨hB.trans (hy.mono hB.size), (Nat.le_trans hz hy.size), (s0).below hy (s0).lt, (s1).below hy (s1).lt, (s2).below hy (s2).lt, h0, h1, h2, h3, h4, h5, (fun _ => rfl), h7, h8, h9, h10, (fun h => (h11 h).below hy), (fun h => (h12 h).below hy), h13⟩
    · intro L v W2 hd hn ⟨hB, hz, s0, s1, s2, h0, h1, h2, h3, h4, h5, h6, h7, h8, h9, h10, h11, h12, h13⟩ K hK
      have e0 := h0 (hd ⟨0, .data⟩ (by simp) rfl)
      have e2 := h2 (hd ⟨2, .data⟩ (by simp) rfl)
      have e4 := h4 (hd ⟨4, .data⟩ (by simp) rfl)
      have e6 := h6 (hd ⟨6, .data⟩ (by simp) rfl)
      go_wp2_with (go_at_call 39; refine (spec_ValueOfSkew_any p m F x hm hF hx _).mono ?_; rintro e wy ⟨rfl, hy⟩)
      exact hK _ (.tuple #[(.agg (bcells 64 ((vsV p m F x).1))), (.int .i64 ((vsV p m F x).2))]) _ (by simp only [Act.put, List.setIfInBounds_toArray, List.set_cons_zero, List.set_cons_succ, e0, e2, e4, e6]) ⟨hB.trans (hy.mono hB.size), (Nat.le_trans hz hy.size), (s0).below hy (s0).lt, (s1).below hy (s1).lt, (s2).below hy (s2).lt, h0, h1, h2, h3, h4, h5, h6, (fun _ => rfl), h8, h9, h10, (fun h => (h11 h).below hy), (fun h => (h12 h).below hy), h13⟩
    · intro L v W2 hd hn ⟨hB, hz, s0, s1, s2, h0, h1, h2, h3, h4, h5, h6, h7, h8, h9, h10, h11, h12, h13⟩ K hK
      have e7 := h7 (hd ⟨7, .data⟩ (by simp) rfl)
      go_wp2_with fail
      exact hK _ (.tuple #[(.agg (bcells 64 ((vsV p m F x).1))), (.int .i64 ((vsV p m F x).2))]) _ (by simp only [Act.put, List.setIfInBounds_toArray, List.set_cons_zero, List.set_cons_succ, e7]) ⟨hB, hz, s0, s1, s2, h0, h1, h2, h3, h4, h5, h6, h7, (fun _ => rfl), h9, h10, h11, h12, h13⟩
    · intro L v W2 hd hn ⟨hB, hz, s0, s1, s2, h0, h1, h2, h3, h4, h5, h6, h7, h8, h9, h10, h11, h12, h13⟩ K hK
      have e8 := h8 (hd ⟨8, .data⟩ (by simp) rfl)
      go_wp2_with fail
      exact hK _ (.agg (bcells 64 ((vsV p m F x).1))) _ (by simp only [Act.put, List.setIfInBounds_toArray, List.set_cons_zero, List.set_cons_succ, e8]) ⟨hB, hz, s0, s1, s2, h0, h1, h2, h3, h4, h5, h6, h7, h8, (fun _ => rfl), h10, h11, h12, h13⟩
    · intro L v W2 hd hn ⟨hB, hz, s0, s1, s2, h0, h1, h2, h3, h4, h5, h6, h7, h8, h9, h10, h11, h12, h13⟩ K hK
      have e8 := h8 (hd ⟨8, .data⟩ (by simp) rfl)
      go_wp2_with fail
      exact hK _ (.int .i64 ((vsV p m F x).2)) _ (by simp only [Act.put, List.setIfInBounds_toArray, List.set_cons_zero, List.set_cons_succ, e8]) ⟨hB, hz, s0, s1, s2, h0, h1, h2, h3, h4, h5, h6, h7, h8, h9, (fun _ => rfl), h11, h12, h13⟩
    · intro L v W2 hd hn ⟨hB, hz, s0, s1, s2, h0, h1, h2, h3, h4, h5, h6, h7, h8, h9, h10, h11, h12, h13⟩ K hK
      go_wp2_with fail
      rw [← zero64]
      exact hK _ (.pointer (some ⟨W2.heap.size, 0, none⟩)) _ (by simp only [Act.put, List.setIfInBounds_toArray, List.set_cons_zero, List.set_cons_succ ]) ⟨hB.alloc hB.size _, (by simp; omega), (s0).alloc _, (s1).alloc _, (s2).alloc _, h0, h1, h2, h3, h4, h5, h6, h7, h8, h9, h10, (fun _ => (PF.new W2 64 23 _ hz).af), (fun h => absurd rfl (hn 12 _ rfl h ⟨11, .data⟩ (by simp) rfl)), h13⟩
    · intro L v W2 hd hn ⟨hB, hz, s0, s1, s2, h0, h1, h2, h3, h4, h5, h6, h7, h8, h9, h10, h11, h12, h13⟩ K hK
      have e9 := h9 (hd ⟨9, .data⟩ (by simp) rfl)
      obtain ⟨gz, b, ea, hN, hk⟩ := (h11 (hd ⟨11, .data⟩ (by simp) rfl)).out
      refine wp_store_blk 23 _ _ rfl b 64 ((vsV p m F x).1) ea e9 23 gz hk Try.size23 ?_
      exact hK _ undef _ rfl ⟨below_row hB (Nat.le_trans hbase hN) _, (by simpa [World.setRow] using hz), (s0).rowOther (by omega), (s1).rowOther (by omega), (s2).rowOther (by omega), h0, h1, h2, h3, h4, h5, h6, h7, h8, h9, h10, (fun h => (h11 h).row hk), (fun _ => by rw [show updV v 12 undef 11 = v 11 from rfl, ea]; exact PF.row hk hN _), h13⟩
    · intro L v W2 hd hn ⟨hB, hz, s0, s1, s2, h0, h1, h2, h3, h4, h5, h6, h7, h8, h9, h10, h11, h12, h13⟩ K hK
      have e10 := h10 (hd ⟨10, .data⟩ (by simp) rfl)
      go_wp2_with fail
      exact hK _ (.int .i64 ((vsV p m F x).2)) _ (by simp only [Act.put, List.setIfInBounds_toArray, List.set_cons_zero, List.set_cons_succ, e10]) ⟨hB, hz, s0, s1, s2, h0, h1, h2, h3, h4, h5, h6, h7, h8, h9, h10, h11, h12, (fun _ => rfl)⟩
  · intro L v W2 hL ⟨hB, hz, s0, s1, s2, h0, h1, h2, h3, h4, h5, h6, h7, h8, h9, h10, h11, h12, h13⟩
    have e0 := h0 (hL 0 (by decide))
    have e1 := h1 (hL 1 (by decide))
    have e2 := h2 (hL 2 (by decide))
    have e3 := h3 (hL 3 (by decide))
    have e4 := h4 (hL 4 (by decide))
    have e5 := h5 (hL 5 (by decide))
    have e6 := h6 (hL 6 (by decide))
    have e7 := h7 (hL 7 (by decide))
    have e8 := h8 (hL 8 (by decide))
    have e9 := h9 (hL 9 (by decide))
    have e10 := h10 (hL 10 (by decide))
    obtain ⟨k1_11, e11, hNk1_11, hk1_11⟩ := (h12 (hL 12 (by decide))).out
    have e13 := h13 (hL 13 (by decide))
    clear hL h0 h1 h2 h3 h4 h5 h6 h7 h8 h9 h10 h11 h12 h13
    simp only [Exit.then, e0, e1, e2, e3, e4, e5, e6, e7, e8, e9, e10, e11, e13]
    clear e0 e1 e2 e3 e4 e5 e6 e7 e8 e9 e10 e11 e13
    clear B0
    have B0 := s0
    clear s0
    clear B1
    have B1 := s1
    clear s1
    clear B2
    have B2 := s2
    clear s2
    clear hb
    have hb := hB
    clear hB
    have B3 := hk1_11
    clear hk1_11
    have zk1_11_0 : w.heap.size < k1_11 := by omega
    have zk1_11_1 : w.heap.size + 1 < k1_11 := by omega
    have zk1_11_2 : w.heap.size + 1 + 1 < k1_11 := by omega
    clear hbase hz lt_B0 lt_B1 lt_B2
    go_upto_region 2 with (fail)
    have lt_B0 : (w.heap.size) < W2.heap.size := B0.lt
    have lt_B1 : (w.heap.size + 1) < W2.heap.size := B1.lt
    have lt_B2 : (w.heap.size + 1 + 1) < W2.heap.size := B2.lt
    have lt_B3 : (k1_11) < W2.heap.size := B3.lt
    have hbase : w.heap.size ≤ W2.heap.size := hb.size
    refine wp_region_steps0 Try.mixed (by kernel_rfl) (by kernel_rfl) (fun v => by (simp only [frL, Act.put, List.setIfInBounds_toArray, List.set_cons_zero, List.set_cons_succ, Nat.reduceAdd, Nat.zero_add]; exact rfl))
      (fun L v W3 => Below w.heap.size w W3 ∧ W2.heap.size ≤ W3.heap.size ∧ Blk W3 (w.heap.size) 64 22 (m) ∧ Blk W3 (w.heap.size + 1) 512 31 (fl 64 F) ∧ Blk W3 (w.heap.size + 1 + 1) 64 22 (x) ∧ Blk W3 (k1_11) 64 23 ((vsV p m F x).1) ∧ (L 0 = true → v 0 = (.int .i64 p)) ∧ (L 1 = true → v 1 = (.agg (bcells 64 (m)))) ∧ (L 2 = true → v 2 = (.agg (bcells 64 (m)))) ∧ (L 3 = true → v 3 = (.agg (bcells 512 (fl 64 F)))) ∧ (L 4 = true → v 4 = (.agg (bcells 512 (fl 64 F)))) ∧ (L 5 = true → v 5 = (.agg (bcells 64 (x)))) ∧ (L 6 = true → v 6 = (.agg (bcells 64 (x)))) ∧ (L 7 = true → v 7 = (.tuple #[(.agg (bcells 64 ((vsV p m F x).1))), (.int .i64 ((vsV p m F x).2))])) ∧ (L 8 = true → v 8 = (.tuple #[(.agg (bcells 64 ((vsV p m F x).1))), (.int .i64 ((vsV p m F x).2))])) ∧ (L 9 = true → v 9 = (.agg (bcells 64 ((vsV p m F x).1)))) ∧ (L 10 = true → v 10 = (.int .i64 ((vsV p m F x).2))) ∧ (L 11 = true → AF (v 11) W3 W2.heap.size 64 23) ∧ (L 12 = true → PF (v 11) W3 W2.heap.size 64 23 ((vsV p m F x).1)) ∧ (L 13 = true → v 13 = (.int .i64 ((vsV p m F x).2)))) ?_ ?_ ?_
    · intro v hv0
      exact ⟨hb.drew, Nat.le_refl _, B0.drew, B1.drew, B2.drew, B3.drew, (fun h => by cases h), (fun h => by cases h), (fun h => by cases h), (fun h => by cases h), (fun h => by cases h), (fun h => by cases h), (fun h => by cases h), (fun h => by cases h), (fun h => by cases h), (fun h => by cases h), (fun h => by cases h), (fun h => by cases h), (fun h => by cases h), (fun h => by cases h)⟩
    · refine (.cons rfl ?_ (.cons rfl ?_ (.cons rfl ?_ (.cons rfl ?_ (.cons rfl ?_ (.cons rfl ?_ (.cons rfl ?_ (.cons rfl ?_ (.cons rfl ?_ (.cons rfl ?_ (.cons rfl ?_ (.cons rfl ?_ (.cons rfl ?_ (.cons rfl ?_ (.nil _)))))))))))))))
      · intro L v W3 hd hn ⟨hB, hz, s0, s1, s2, s3, h0, h1, h2, h3, h4, h5, h6, h7, h8, h9, h10, h11, h12, h13⟩ K hK
        go_wp2_with fail
        exact hK _ (.int .i64 p) _ (by simp only [Act.put, List.setIfInBounds_toArray, List.set_cons_zero, List.set_cons_succ ]) ⟨hB, hz, s0, s1, s2, s3, (fun _ => rfl), h1, h2, h3, h4, h5, h6, h7, h8, h9, h10, h11, h12, h13⟩
      · intro L v W3 hd hn ⟨hB, hz, s0, s1, s2, s3, h0, h1, h2, h3, h4, h5, h6, h7, h8, h9, h10, h11, h12, h13⟩ K hK
        refine wp_load_any 22 _ rfl _ rfl 64 22 _ s0 _ Try.underlying22 rfl Try.size22 ?_
        exact hK _ _ _ rfl ⟨hB, hz, s0, s1, s2, s3, h0, (fun _ => rfl), h2, h3, h4, h5, h6, h7, h8, h9, h10, h11, h12, h13⟩
      · intro L v W3 hd hn ⟨hB, hz, s0, s1, s2, s3, h0, h1, h2, h3, h4, h5, h6, h7, h8, h9, h10, h11, h12, h13⟩ K hK
        have e1 := h1 (hd ⟨1, .data⟩ (by simp) rfl)
        go_wp2_with (go_at_call 24; refine (toPoly_any m hm _).mono ?_; rintro e wy ⟨rfl, hy⟩)
        exact hK _ (.agg (bcells 64 (m))) _ (by simp only [Act.put, List.setIfInBounds_toArray, List.set_cons_zero, List.set_cons_succ, e1]) ⟨hB.trans (hy.mono hB.size), (Nat.le_trans hz hy.size), (s0).below hy (s0).lt, (s1).below hy (s1).lt, (s2).below hy (s2).lt, (s3).below hy (s3).lt, h0, h1, (fun _ => rfl), h3, h4, h5, h6, h7, h8, h9, h10, (fun h => (h11 h).below hy), (fun h => (h12 h).below hy), h13⟩
      · intro L v W3 hd hn ⟨hB, hz, s0, s1, s2, s3, h0, h1, h2, h3, h4, h5, h6, h7, h8, h9, h10, h11, h12, h13⟩ K hK
        refine wp_load_any 31 _ rfl _ rfl 512 31 _ s1 _ Try.underlying31 rfl Try.size31 ?_
        exact hK _ _ _ rfl ⟨hB, hz, s0, s1, s2, s3, h0, h1, h2, (fun _ => rfl), h4, h5, h6, h7, h8, h9, h10, h11, h12, h13⟩
      · intro L v W3 hd hn ⟨hB, hz, s0, s1, s2, s3, h0, h1, h2, h3, h4, h5, h6, h7, h8, h9, h10, h11, h12, h13⟩ K hK
        have e3 := h3 (hd ⟨3, .data⟩ (by simp) rfl)
        go_wp2_with (go_at_call 30; refine (toSkew_any F hF _).mono ?_; rintro e wy ⟨rfl, hy⟩)
        exact hK _ (.agg (bcells 512 (fl 64 F))) _ (by simp only [Act.put, List.setIfInBounds_toArray, List.set_cons_zero, List.set_cons_succ, e3]) ⟨hB.trans (hy.mono hB.size), (Nat.le_trans hz hy.size), (s0).below hy (s0).lt, (s1).below hy (s1).lt, (s2).below hy (s2).lt, (s3).below hy (s3).lt, h0, h1, h2, h3, (fun _ => rfl), h5, h6, h7, h8, h9, h10, (fun h => (h11 h).below hy), (fun h => (h12 h).below hy), h13⟩
      · intro L v W3 hd hn ⟨hB, hz, s0, s1, s2, s3, h0, h1, h2, h3, h4, h5, h6, h7, h8, h9, h10, h11, h12, h13⟩ K hK
        refine wp_load_any 22 _ rfl _ rfl 64 22 _ s2 _ Try.underlying22 rfl Try.size22 ?_
        exact hK _ _ _ rfl ⟨hB, hz, s0, s1, s2, s3, h0, h1, h2, h3, h4, (fun _ => rfl), h6, h7, h8, h9, h10, h11, h12, h13⟩
      · intro L v W3 hd hn ⟨hB, hz, s0, s1, s2, s3, h0, h1, h2, h3, h4, h5, h6, h7, h8, h9, h10, h11, h12, h13⟩ K hK
        have e5 := h5 (hd ⟨5, .data⟩ (by simp) rfl)
        go_wp2_with (go_at_call 24; refine (toPoly_any x hx _).mono ?_; rintro e wy ⟨rfl, hy⟩)
        exact hK _ (.agg (bcells 64 (x))) _ (by simp only [Act.put, List.setIfInBounds_toArray, List.set_cons_zero, List.set_cons_succ, e5]) ⟨hB.trans (hy.mono hB.size), (Nat.le_trans hz hy.size), (s0).below hy (s0).lt, (s1).below hy (s1).lt, (s2).below hy (s2).lt, (s3).below hy (s3).lt, h0, h1, h2, h3, h4, h5, (fun _ => rfl), h7, h8, h9, h10, (fun h => (h11 h).below hy), (fun h => (h12 h).below hy), h13⟩
      · intro L v W3 hd hn ⟨hB, hz, s0, s1, s2, s3, h0, h1, h2, h3, h4, h5, h6, h7, h8, h9, h10, h11, h12, h13⟩ K hK
        have e0 := h0 (hd ⟨0, .data⟩ (by simp) rfl)
        have e2 := h2 (hd ⟨2, .data⟩ (by simp) rfl)
        have e4 := h4 (hd ⟨4, .data⟩ (by simp) rfl)
        have e6 := h6 (hd ⟨6, .data⟩ (by simp) rfl)
        go_wp2_with (go_at_call 40; refine (impl_ValueOfSkew_any p m F x hm hF hx _).mono ?_; rintro e wy ⟨rfl, hy⟩)
        exact hK _ (.tuple #[(.agg (bcells 64 ((vsV p m F x).1))), (.int .i64 ((vsV p m F x).2))]) _ (by simp only [Act.put, List.setIfInBounds_toArray, List.set_cons_zero, List.set_cons_succ, e0, e2, e4, e6]) ⟨hB.trans (hy.mono hB.size), (Nat.le_trans hz hy.size), (s0).below hy (s0).lt, (s1).below hy (s1).lt, (s2).below hy (s2).lt, (s3).below hy (s3).lt, h0, h1, h2, h3, h4, h5, h6, (fun _ => rfl), h8, h9, h10, (fun h => (h11 h).below hy), (fun h => (h12 h).below hy), h13⟩
      · intro L v W3 hd hn ⟨hB, hz, s0, s1, s2, s3, h0, h1, h2, h3, h4, h5, h6, h7, h8, h9, h10, h11, h12, h13⟩ K hK
        have e7 := h7 (hd ⟨7, .data⟩ (by simp) rfl)
        go_wp2_with fail
        exact hK _ (.tuple #[(.agg (bcells 64 ((vsV p m F x).1))), (.int .i64 ((vsV p m F x).2))]) _ (by simp only [Act.put, List.setIfInBounds_toArray, List.set_cons_zero, List.set_cons_succ, e7]) ⟨hB, hz, s0, s1, s2, s3, h0, h1, h2, h3, h4, h5, h6, h7, (fun _ => rfl), h9, h10, h11, h12, h13⟩
      · intro L v W3 hd hn ⟨hB, hz, s0, s1, s2, s3, h0, h1, h2, h3, h4, h5, h6, h7, h8, h9, h10, h11, h12, h13⟩ K hK
        have e8 := h8 (hd ⟨8, .data⟩ (by simp) rfl)
        go_wp2_with fail
        exact hK _ (.agg (bcells 64 ((vsV p m F x).1))) _ (by simp only [Act.put, List.setIfInBounds_toArray, List.set_cons_zero, List.set_cons_succ, e8]) ⟨hB, hz, s0, s1, s2, s3, h0, h1, h2, h3, h4, h5, h6, h7, h8, (fun _ => rfl), h10, h11, h12, h13⟩
      · intro L v W3 hd hn ⟨hB, hz, s0, s1, s2, s3, h0, h1, h2, h3, h4, h5, h6, h7, h8, h9, h10, h11, h12, h13⟩ K hK
        have e8 := h8 (hd ⟨8, .data⟩ (by simp) rfl)
        go_wp2_with fail
        exact hK _ (.int .i64 ((vsV p m F x).2)) _ (by simp only [Act.put, List.setIfInBounds_toArray, List.set_cons_zero, List.set_cons_succ, e8]) ⟨hB, hz, s0, s1, s2, s3, h0, h1, h2, h3, h4, h5, h6, h7, h8, h9, (fun _ => rfl), h11, h12, h13⟩
      · intro L v W3 hd hn ⟨hB, hz, s0, s1, s2, s3, h0, h1, h2, h3, h4, h5, h6, h7, h8, h9, h10, h11, h12, h13⟩ K hK
        go_wp2_with fail
        rw [← zero64]
        exact hK _ (.pointer (some ⟨W3.heap.size, 0, none⟩)) _ (by simp only [Act.put, List.setIfInBounds_toArray, List.set_cons_zero, List.set_cons_succ ]) ⟨hB.alloc hB.size _, (by simp; omega), (s0).alloc _, (s1).alloc _, (s2).alloc _, (s3).alloc _, h0, h1, h2, h3, h4, h5, h6, h7, h8, h9, h10, (fun _ => (PF.new W3 64 23 _ hz).af), (fun h => absurd rfl (hn 12 _ rfl h ⟨11, .data⟩ (by simp) rfl)), h13⟩
      · intro L v W3 hd hn ⟨hB, hz, s0, s1, s2, s3, h0, h1, h2, h3, h4, h5, h6, h7, h8, h9, h10, h11, h12, h13⟩ K hK
        have e9 := h9 (hd ⟨9, .data⟩ (by simp) rfl)
        obtain ⟨gz, b, ea, hN, hk⟩ := (h11 (hd ⟨11, .data⟩ (by simp) rfl)).out
        refine wp_store_blk 23 _ _ rfl b 64 ((vsV p m F x).1) ea e9 23 gz hk Try.size23 ?_
        exact hK _ undef _ rfl ⟨below_row hB (Nat.le_trans hbase hN) _, (by simpa [World.setRow] using hz), (s0).rowOther (by omega), (s1).rowOther (by omega), (s2).rowOther (by omega), (s3).rowOther (by omega), h0, h1, h2, h3, h4, h5, h6, h7, h8, h9, h10, (fun h => (h11 h).row hk), (fun _ => by rw [show updV v 12 undef 11 = v 11 from rfl, ea]; exact PF.row hk hN _), h13⟩
      · intro L v W3 hd hn ⟨hB, hz, s0, s1, s2, s3, h0, h1, h2, h3, h4, h5, h6, h7, h8, h9, h10, h11, h12, h13⟩ K hK
        have e10 := h10 (hd ⟨10, .data⟩ (by simp) rfl)
        go_wp2_with fail
        exact hK _ (.int .i64 ((vsV p m F x).2)) _ (by simp only [Act.put, List.setIfInBounds_toArray, List.set_cons_zero, List.set_cons_succ, e10]) ⟨hB, hz, s0, s1, s2, s3, h0, h1, h2, h3, h4, h5, h6, h7, h8, h9, h10, h11, h12, (fun _ => rfl)⟩
    · intro L v W3 hL ⟨hB, hz, s0, s1, s2, s3, h0, h1, h2, h3, h4, h5, h6, h7, h8, h9, h10, h11, h12, h13⟩
      have e0 := h0 (hL 0 (by decide))
      have e1 := h1 (hL 1 (by decide))
      have e2 := h2 (hL 2 (by decide))
      have e3 := h3 (hL 3 (by decide))
      have e4 := h4 (hL 4 (by decide))
      have e5 := h5 (hL 5 (by decide))
      have e6 := h6 (hL 6 (by decide))
      have e7 := h7 (hL 7 (by decide))
      have e8 := h8 (hL 8 (by decide))
      have e9 := h9 (hL 9 (by decide))
      have e10 := h10 (hL 10 (by decide))
      obtain ⟨k2_11, e11, hNk2_11, hk2_11⟩ := (h12 (hL 12 (by decide))).out
      have e13 := h13 (hL 13 (by decide))
      clear hL h0 h1 h2 h3 h4 h5 h6 h7 h8 h9 h10 h11 h12 h13
      simp only [Exit.then, e0, e1, e2, e3, e4, e5, e6, e7, e8, e9, e10, e11, e13]
      clear e0 e1 e2 e3 e4 e5 e6 e7 e8 e9 e10 e11 e13
      clear B0
      have B0 := s0
      clear s0
      clear B1
      have B1 := s1
      clear s1
      clear B2
      have B2 := s2
      clear s2
      clear B3
      have B3 := s3
      clear s3
      clear hb
      have hb := hB
      clear hB
      have B4 := hk2_11
      clear hk2_11
      have zk2_11_0 : w.heap.size < k2_11 := by omega
      have zk2_11_1 : w.heap.size + 1 < k2_11 := by omega
      have zk2_11_2 : w.heap.size + 1 + 1 < k2_11 := by omega
      have zk2_11_3 : k1_11 < k2_11 := by omega
      clear hbase hz lt_B0 lt_B1 lt_B2 lt_B3
      go_upto_region 3 with (fail)
      go_wp2_with (first | (refine wpList_load_any rfl 23 (.tmp 11) rfl _ rfl 64 23 _ (B4) _ Try.underlying23 rfl Try.size23 ?_) | (refine wpList_load_any rfl 23 (.tmp 9) rfl _ rfl 64 23 _ (B3) _ Try.underlying23 rfl Try.size23 ?_) | (go_at_call 26; refine (eqPoly_same _ _ (fun _ _ => rfl) _).mono ?_; rintro e W4 ⟨rfl, hW4⟩; replace B0 := B0.below hW4 B0.lt; replace B1 := B1.below hW4 B1.lt; replace B2 := B2.below hW4 B2.lt; replace B3 := B3.below hW4 B3.lt; replace B4 := B4.below hW4 B4.lt; replace hb := (hb).trans (hW4.mono (hb).size)))
      go_ret
      exact ⟨rfl, hb⟩
end Go.Proofs.Ytbjpkmbhbpcbgaa
end
