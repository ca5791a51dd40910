/-
  What the rows of this claim rest on: arrays of bytes, walks of the functions, plain mathematics.
-/
import Derived.Test.YtobcdekochenfaaZp2
import Derived.WalkKit
import Derived.WalkSpells
import Derived.WalkLawsBesides
import Derived.Lib.Hide
import Derived.Laws.Rows
import Derived.Laws.CopyOwn
import Derived.Deep.QuietTactic
import Derived.Deep.WholeRow
import Derived.Deep.Draws
import Derived.Deep.MidRow
import Derived.Deep.CutRange
import Derived.Deep.DeepCutAuto
import Derived.Deep.RegionHeld3
import Derived.BigQuiet
import Derived.BigRegion
import Derived.Test.YtobcdekochenfaaRows
import Derived.Great.BuildSlice
import Derived.Maps.OwnOps
import Derived.DeepKeys4
import Derived.Carry
import Derived.Test.YtobcdekochenfaaProg
import Derived.Laws.Tables
import Derived.Laws.StructEq
import Derived.ScopeJumps
section
namespace Go.Proofs.Ytobcdekochenfaa
open Rg
def zS : Nat → Int := fun _ => 0
section
variable {p : Int} {m : Nat → Int}
theorem mz_mono (c : Int) (j : Nat) (m : Nat → Int) (k : Nat) : mz (fun i => if i = j then c else 0) m k = if j ≤ k then c * m (k - j) else 0 := by
 unfold mz
 by_cases h : j ≤ k
 · rw [if_pos h]
   have h1 : cs (k + 1) (fun i => (if i = j then c else 0) * m (k - i)) = cs (j + 1 + (k - j)) (fun i => (if i = j then c else 0) * m (k - i)) := by rw [show j + 1 + (k - j) = k + 1 by omega]
   have more : ∀ d, cs (j + 1 + d) (fun i => (if i = j then c else 0) * m (k - i)) = cs (j + 1) (fun i => (if i = j then c else 0) * m (k - i)) := by
    intro d
    induction d with
    | zero => rfl
    | succ d ih => rw [← Nat.add_assoc, cs_s, ih, if_neg (by omega), Int.zero_mul, Int.add_zero]
   rw [h1, more, cs_s, cs_zero j (fun i hi => by rw [if_neg (by omega), Int.zero_mul]), if_pos rfl]
   omega
 · rw [if_neg h]
   exact cs_zero _ (fun i hi => by show (if i = j then c else 0) * _ = 0; rw [if_neg (by omega), Int.zero_mul])
end
end Go.Proofs.Ytobcdekochenfaa
set_option linter.unusedVariables false
namespace Go.Proofs.Ytobcdekochenfaa
attribute [local irreducible] deg invN
theorem mz_zS (f : Nat → Int) : mz f zS = zS := by
 funext k; exact cs_zero _ (fun i _ => Int.mul_zero _)
end Go.Proofs.Ytobcdekochenfaa
set_option linter.unusedVariables false
set_option linter.unusedVariables false
namespace Go.Proofs.Ytobcdekochenfaa
attribute [local irreducible] deg invN quoP resP
theorem lz_congr {f g : Nat → Nat} (h : ∀ k, k < 64 → f k = g k) : lz f = lz g := by
 funext k; unfold lz
 by_cases hk : k < 64
 · rw [cut_in _ hk, cut_in _ hk, h k hk]
 · rw [zcz _ (by omega), zcz _ (by omega)]
end Go.Proofs.Ytobcdekochenfaa
set_option linter.unusedVariables false
set_option linter.unusedVariables false
set_option linter.unusedVariables false
set_option linter.unusedVariables false
set_option linter.unusedVariables false
end
section
set_option linter.unusedVariables false
namespace Go.Proofs.Ytobcdekochenfaa
/-- numbers: powers come again -/
def cpN (p a : Nat) : Nat → Nat
 | 0 => 1
 | j + 1 => cpN p a j * a % p
theorem cpN_mod (p a : Nat) : ∀ j, cpN p a j % p = a ^ j % p
 | 0 => rfl
 | j + 1 => by
  show cpN p a j * a % p % p = _
  rw [Nat.mod_mod, Nat.mul_mod, cpN_mod p a j, ← Nat.mul_mod, Nat.pow_succ]
theorem cpN_lt {p a : Nat} (hp : 2 ≤ p) : ∀ j, cpN p a j < p
 | 0 => by show 1 < p; omega
 | j + 1 => Nat.mod_lt _ (by omega)
theorem fermat {p a : Nat} (hp : p = 2 ∨ p = 3 ∨ p = 5 ∨ p = 7) (h1 : 0 < a) (h2 : a < p) : a ^ (p - 1) % p = 1 := by
 rcases hp with rfl | rfl | rfl | rfl
 · obtain rfl : a = 1 := by omega
   rfl
 · have : a = 1 ∨ a = 2 := by omega
   rcases this with rfl | rfl <;> rfl
 · have : a = 1 ∨ a = 2 ∨ a = 3 ∨ a = 4 := by omega
   rcases this with rfl | rfl | rfl | rfl <;> rfl
 · have : a = 1 ∨ a = 2 ∨ a = 3 ∨ a = 4 ∨ a = 5 ∨ a = 6 := by omega
   rcases this with rfl | rfl | rfl | rfl | rfl | rfl <;> rfl
theorem pow_red {p a k : Nat} (hp : p = 2 ∨ p = 3 ∨ p = 5 ∨ p = 7) (h1 : 0 < a) (h2 : a < p) : a ^ (k % (p - 1)) % p = a ^ k % p := by
 have e := Nat.div_add_mod k (p - 1)
 have h3 : ∀ t, a ^ ((p - 1) * t) % p = 1 := by
  intro t
  rw [Nat.pow_mul, Nat.pow_mod, fermat hp h1 h2, Nat.one_pow]
  exact Nat.mod_eq_of_lt (by omega)
 have e2 : a ^ k % p = a ^ ((p - 1) * (k / (p - 1)) + k % (p - 1)) % p := by rw [e]
 rw [e2, Nat.pow_add, Nat.mul_mod, h3, Nat.one_mul, Nat.mod_mod]
theorem lz_const {f : Nat → Nat} (h : deg f = 0) : lz f = fun k => if k = 0 then (f 0 : Int) else 0 := by
 funext k
 rcases deg_spec f with ⟨h1, _⟩ | ⟨j, _, h1, _, h2⟩
 · omega
 · have : j = 0 := by omega
   subst this
   unfold lz cut
   by_cases hk : k = 0
   · subst hk; rfl
   · rw [if_neg hk]
     split
     · rw [h2 k (by omega) (by assumption)]; rfl
     · rfl
theorem pwz_const (a : Nat) : ∀ k, pwz (fun i => if i = 0 then (a : Int) else 0) k = fun i => if i = 0 then ((a ^ k : Nat) : Int) else 0
 | 0 => by
  funext i
  show oneS i = _
  unfold oneS; rw [Nat.pow_zero]; rfl
 | k + 1 => by
  show mz (pwz _ k) _ = _
  rw [pwz_const a k, mz_comm]
  funext i
  rw [mz_mono (a : Int) 0 _ i, if_pos (Nat.zero_le _), Nat.sub_zero]
  by_cases h : i = 0
  · rw [if_pos h, if_pos h, Nat.pow_succ]; push_cast; rw [Int.mul_comm]
  · rw [if_neg h, if_neg h, Int.mul_zero]
theorem const_same {p k : Nat} {f : Nat → Nat} (hp : p = 2 ∨ p = 3 ∨ p = 5 ∨ p = 7) (hf : ∀ i, i < 64 → f i < p) (hd : deg f = 0) (hk2 : k < 2 ^ 64) : ∀ i, i < 64 → (if i = 0 then cpN p (f 0) (k % (p - 1)) else 0) = pgR (prd p) 64 k oneP f i := by
 have hf0 : 0 < f 0 := by
  rcases deg_spec f with ⟨h1, _⟩ | ⟨j, _, h1, h3, h2⟩
  · omega
  · have : j = 0 := by omega
    subst this; omega
 refine cg_same (f := fun i => if i = 0 then cpN p (f 0) (k % (p - 1)) else 0) (fun i _ => by
  show (if i = 0 then cpN p (f 0) (k % (p - 1)) else 0) < p
  have := cpN_lt (p := p) (a := f 0) (by omega) (k % (p - 1))
  split <;> omega) (pgR_lt (fun x y i _ => prd_lt (by omega) i) 64 k oneP f (fun i _ => by unfold oneP; split <;> omega)) (cg_trans ?_ (cg_symm (pgR_mulT (by omega) k hk2 (by rw [hd]; omega))))
 rw [lz_const hd, pwz_const]
 intro i
 show (p : Int) ∣ ((if i < 64 then (if i = 0 then cpN p (f 0) (k % (p - 1)) else 0) else 0 : Nat) : Int) - (if i = 0 then ((f 0 ^ k : Nat) : Int) else 0)
 by_cases hi : i = 0
 · rw [if_pos (by omega), if_pos hi, if_pos hi]
   have h1 := cpN_mod p (f 0) (k % (p - 1))
   rw [pow_red hp hf0 (hf 0 (by omega))] at h1
   have : ((cpN p (f 0) (k % (p - 1)) : Nat) : Int) % (p : Int) = ((f 0 ^ k : Nat) : Int) % (p : Int) := by exact_mod_cast h1
   exact Int.dvd_of_emod_eq_zero (by rw [Int.sub_emod, this, Int.sub_self, Int.zero_emod])
 · rw [if_neg hi, if_neg hi]
   split <;> exact ⟨0, by simp⟩
theorem zero_same {p k : Nat} {f : Nat → Nat} (hp : 2 ≤ p) (hd : deg f < 0) (hk : 1 ≤ k) (hk2 : k < 2 ^ 64) : ∀ i, i < 64 → (0 : Nat) = pgR (prd p) 64 k oneP f i := by
 refine cg_same (f := fun _ => 0) (fun i _ => by show 0 < p; omega) (pgR_lt (fun x y i _ => prd_lt (by omega) i) 64 k oneP f (fun i _ => by unfold oneP; split <;> omega)) (cg_trans ?_ (cg_symm (pgR_mulT (by omega) k hk2 (by have h1 : deg f * (k : Int) ≤ 0 := Int.mul_nonpos_of_nonpos_of_nonneg (by omega) (by omega); omega))))
 have h0 : lz f = zS := by
  have := lz_congr (deg_neg_iff.1 hd)
  rw [this]; funext i; unfold lz cut zS; simp
 obtain ⟨j, rfl⟩ : ∃ j, k = j + 1 := ⟨k - 1, by omega⟩
 rw [h0]
 show cg p _ (mz _ zS)
 rw [mz_zS]
 intro i; unfold lz cut zS; exact ⟨0, by simp⟩
end Go.Proofs.Ytobcdekochenfaa
end
section
namespace Go.Proofs.Ytobcdekochenfaa
open Go Go.RowKit
set_option linter.unusedVariables false
set_option linter.unusedSimpArgs false
attribute [local irreducible] deg invN dS qS stp quoP resP oneP addK pgR prd exP cpN
theorem lit_c (c : Nat) : (#[.int .u8 (c : Int), .int .u8 0, .int .u8 0, .int .u8 0, .int .u8 0, .int .u8 0, .int .u8 0, .int .u8 0, .int .u8 0, .int .u8 0, .int .u8 0, .int .u8 0, .int .u8 0, .int .u8 0, .int .u8 0, .int .u8 0, .int .u8 0, .int .u8 0, .int .u8 0, .int .u8 0, .int .u8 0, .int .u8 0, .int .u8 0, .int .u8 0, .int .u8 0, .int .u8 0, .int .u8 0, .int .u8 0, .int .u8 0, .int .u8 0, .int .u8 0, .int .u8 0, .int .u8 0, .int .u8 0, .int .u8 0, .int .u8 0, .int .u8 0, .int .u8 0, .int .u8 0, .int .u8 0, .int .u8 0, .int .u8 0, .int .u8 0, .int .u8 0, .int .u8 0, .int .u8 0, .int .u8 0, .int .u8 0, .int .u8 0, .int .u8 0, .int .u8 0, .int .u8 0, .int .u8 0, .int .u8 0, .int .u8 0, .int .u8 0, .int .u8 0, .int .u8 0, .int .u8 0, .int .u8 0, .int .u8 0, .int .u8 0, .int .u8 0, .int .u8 0] : Array Value) = zb 64 fun k => if k = 0 then c else 0 := by unfold zb bl; kernel_rfl
/-- both answers -/
def pqV (p : Int) (f : Nat → Nat) (k : Int) : (Nat → Nat) × Int := if codeL p [f] = 0 then (if 0 ≤ k ∧ k ≤ 1000000000000 then (if deg f * k ≤ 63 then (pgR (prd p.toNat) 64 k.toNat oneP f, 0) else (fun _ => 0, 3)) else (fun _ => 0, 2)) else (fun _ => 0, 1)
theorem pqV_1 {p k : Int} {f : Nat → Nat} (h : codeL p [f] = 1) : pqV p f k = (fun _ => 0, 1) := by unfold pqV; rw [if_neg (by omega)]
theorem pqV_2 {p k : Int} {f : Nat → Nat} (h : codeL p [f] = 0) (h2 : ¬ (0 ≤ k ∧ k ≤ 1000000000000)) : pqV p f k = (fun _ => 0, 2) := by unfold pqV; rw [if_pos h, if_neg h2]
theorem pqV_3 {p k : Int} {f : Nat → Nat} (h : codeL p [f] = 0) (h2 : 0 ≤ k ∧ k ≤ 1000000000000) (h3 : ¬ deg f * k ≤ 63) : pqV p f k = (fun _ => 0, 3) := by unfold pqV; rw [if_pos h, if_pos h2, if_neg h3]
theorem pqV_0 {n k : Nat} {f : Nat → Nat} (h : codeL (n : Int) [f] = 0) (h2 : 0 ≤ (k : Int) ∧ (k : Int) ≤ 1000000000000) (h3 : deg f * (k : Int) ≤ 63) : pqV (n : Int) f (k : Int) = (pgR (prd n) 64 k oneP f, 0) := by
 unfold pqV; rw [if_pos h, if_pos h2, if_pos h3]; rfl
set_option maxRecDepth 100000 in
set_option maxHeartbeats 1600000 in
theorem impl_PowerOf_any (p : Int) (f : Nat → Nat) (k : Int) (hf : byte f) (w : World) :
 Calls Try.prog 30 #[.int .i64 p, .agg (zb 64 f), .int .i64 k] w fun e w' => e = .returned (.tuple #[.agg (zb 64 (pqV p f k).1), .int .i64 (pqV p f k).2]) ∧ Below w.heap.size w w' := by
 go_enter Try.func30, Try.ntmps30
 go_upto_region 1 with (fail)
 rw [← z64]
 obtain ⟨W1, hwo⟩ : ∃ v : World, v = ((w.alloc (.cells (zb 64 (f)) 23)).alloc (.cells (zb 64 (fun _ => 0)) 23)) := ⟨_, rfl⟩
 have B0 : Blk W1 (w.heap.size) 64 23 (f) := by subst hwo; have := ((Blk.new w 64 23 (f)).alloc (.cells (zb 64 (fun _ => 0)) 23)); simpa using this
 have B1 : Blk W1 (w.heap.size + 1) 64 23 (fun _ => 0) := by subst hwo; have := (Blk.new (w.alloc (.cells (zb 64 (f)) 23)) 64 23 (fun _ => 0)); simpa using this
 have hb : Below w.heap.size w W1 := by subst hwo; exact (((Below.refl _ _).alloc (Nat.le_refl _) _).alloc (by simp) _)
 rw [← hwo]
 clear hwo
 go_upto_region 2 with (first | (refine zla (.tmp 4) B0 Try.underlying23 Try.size23 ?_) | (refine wpList_build_polys rfl 57 _ [f] rfl 23 rfl Try.underlying57 Try.elem23 (by simp) (by simp) rfl ?_; intro wa hwa hps hba; clear hwa) | (go_at_call 86; refine (checkPolys_any p [f] (by simp [hf]) _ _ hps (by simp)).mono ?_; rintro e W2 ⟨rfl, hbb⟩))
 have hBB : Below W1.heap.size W1 W2 := hba.trans (hbb.mono hba.size)
 replace B0 := B0.zw hBB
 replace B1 := B1.zw hBB
 replace hb := hb.trans (hBB.mono hb.size)
 clear hBB hba hbb hps
 rcases codeL_two p [f] with hc | hc
 · obtain ⟨n, hn, n2, n7⟩ := okP_nat (codeL_zero hc).1
   subst hn
   have lf := lt_of_code hc (f := f) (by simp)
   have hpr := prime_of hc
   by_cases hr : 0 ≤ k ∧ k ≤ 1000000000000
   · obtain ⟨k, rfl⟩ : ∃ j : Nat, k = (j : Int) := ⟨k.toNat, by omega⟩
     have hr1 := hr.1; have hr2 := hr.2
     obtain ⟨fb1, fb2⟩ := zdb f
     have mb1 : -1000000000000 ≤ deg f * (k : Int) := by
      have h := Int.mul_le_mul_of_nonneg_right fb1 hr1
      omega
     have mb2 : deg f * (k : Int) ≤ 63000000000000 := by
      have h := Int.mul_le_mul_of_nonneg_right fb2 hr1
      omega
     by_cases hlim : deg f * (k : Int) ≤ 63
     · have HV := Lib.hid (pqV_0 hc hr hlim)
       have HPO := Lib.hid (fun W => powerOf_any n f k W n2 n7 lf hr2)
       rw [hc]
       clear hc hr
       go_upto_region 6 with (fail)
       go_upto_region 8 with (first | (refine zla (.tmp 4) B0 Try.underlying23 Try.size23 ?_) | (go_at_call 82; refine (degree_any f _).mono ?_; rintro e W3 ⟨rfl, hW3⟩; replace B0 := B0.zw hW3; replace B1 := B1.zw hW3; replace hb := (hb).trans (hW3.mono (hb).size)))
       have lt_B0 := B0.lt
       have lt_B1 := B1.lt
       go_wp2_with (first | rw [← z64] | (refine zla (.tmp 4) B0 Try.underlying23 Try.size23 ?_) | (go_at_call 87; refine (HPO.out _).mono ?_; rintro e W4 ⟨rfl, hW4⟩; replace B0 := B0.zw hW4; replace B1 := B1.zw hW4; replace hb := (hb).trans (hW4.mono (hb).size)) | (refine zsr (.tmp 6) (.tmp 33) (pgR (prd n) 64 k oneP f) B1 Try.size23 ?_; try simp only [Act.put]; go_wp2_with fail))
       obtain ⟨W5, hwo, hzQ⟩ : ∃ v : World, v = (W4.setRow (w.heap.size + 1) (zb 64 (pgR (prd n) 64 k oneP f))) ∧ Blk v (w.heap.size) 64 23 (f) ∧ Blk v (w.heap.size + 1) 64 23 (pgR (prd n) 64 k oneP f) ∧ Below w.heap.size w v := ⟨_, rfl, (B0.rowOther (by omega)), (B1.row (pgR (prd n) 64 k oneP f)), (zr hb (by omega) _)⟩
       rw [← hwo]
       clear hwo B0 B1 hb
       obtain ⟨B0, B1, hb⟩ := hzQ
       try simp only [Act.put, pA, pB, pC]
       refine bodyPost_ret (results_bt rfl _ _ _ 64 23 5 _ rfl B1 Try.underlying23 Try.size23) rfl ⟨by first | (rw [HV.out]; rfl) | rw [HV.out], hb⟩
     · have HV := Lib.hid (pqV_3 hc hr hlim)
       have hlim2 : 63 < deg f * (k : Int) := by omega
       rw [hc]
       clear hc hr
       go_upto_region 6 with (fail)
       go_upto_region 7 with (first | (refine zla (.tmp 4) B0 Try.underlying23 Try.size23 ?_) | (go_at_call 82; refine (degree_any f _).mono ?_; rintro e W3 ⟨rfl, hW3⟩; replace B0 := B0.zw hW3; replace B1 := B1.zw hW3; replace hb := (hb).trans (hW3.mono (hb).size)))
       have lt_B0 := B0.lt
       have lt_B1 := B1.lt
       go_wp2_with (first | rw [← z64] | (refine zsr (.tmp 6) (.tmp 29) (fun _ => 0) B1 Try.size23 ?_; try simp only [Act.put]; go_wp2_with fail))
       obtain ⟨W4, hwo, hzQ⟩ : ∃ v : World, v = (W3.setRow (w.heap.size + 1) (zb 64 (fun _ => 0))) ∧ Blk v (w.heap.size) 64 23 (f) ∧ Blk v (w.heap.size + 1) 64 23 (fun _ => 0) ∧ Below w.heap.size w v := ⟨_, rfl, (B0.rowOther (by omega)), (B1.row (fun _ => 0)), (zr hb (by omega) _)⟩
       rw [← hwo]
       clear hwo B0 B1 hb
       obtain ⟨B0, B1, hb⟩ := hzQ
       try simp only [Act.put, pA, pB, pC]
       refine bodyPost_ret (results_bt rfl _ _ _ 64 23 5 _ rfl B1 Try.underlying23 Try.size23) rfl ⟨by first | (rw [HV.out]; rfl) | rw [HV.out], hb⟩
   · have HV := Lib.hid (pqV_2 hc hr)
     rw [hc]
     clear hc
     by_cases h1 : k < 0
     · clear hr
       go_upto_region 5 with (fail)
       have lt_B0 := B0.lt
       have lt_B1 := B1.lt
       go_wp2_with (first | rw [← z64] | (refine zsr (.tmp 6) (.tmp 23) (fun _ => 0) B1 Try.size23 ?_; try simp only [Act.put]; go_wp2_with fail))
       obtain ⟨W3, hwo, hzQ⟩ : ∃ v : World, v = (W2.setRow (w.heap.size + 1) (zb 64 (fun _ => 0))) ∧ Blk v (w.heap.size) 64 23 (f) ∧ Blk v (w.heap.size + 1) 64 23 (fun _ => 0) ∧ Below w.heap.size w v := ⟨_, rfl, (B0.rowOther (by omega)), (B1.row (fun _ => 0)), (zr hb (by omega) _)⟩
       rw [← hwo]
       clear hwo B0 B1 hb
       obtain ⟨B0, B1, hb⟩ := hzQ
       try simp only [Act.put, pA, pB, pC]
       refine bodyPost_ret (results_bt rfl _ _ _ 64 23 5 _ rfl B1 Try.underlying23 Try.size23) rfl ⟨by first | (rw [HV.out]; rfl) | rw [HV.out], hb⟩
     · have h2 : 1000000000000 < k := by omega
       clear hr
       go_upto_region 5 with (fail)
       have lt_B0 := B0.lt
       have lt_B1 := B1.lt
       go_wp2_with (first | rw [← z64] | (refine zsr (.tmp 6) (.tmp 23) (fun _ => 0) B1 Try.size23 ?_; try simp only [Act.put]; go_wp2_with fail))
       obtain ⟨W3, hwo, hzQ⟩ : ∃ v : World, v = (W2.setRow (w.heap.size + 1) (zb 64 (fun _ => 0))) ∧ Blk v (w.heap.size) 64 23 (f) ∧ Blk v (w.heap.size + 1) 64 23 (fun _ => 0) ∧ Below w.heap.size w v := ⟨_, rfl, (B0.rowOther (by omega)), (B1.row (fun _ => 0)), (zr hb (by omega) _)⟩
       rw [← hwo]
       clear hwo B0 B1 hb
       obtain ⟨B0, B1, hb⟩ := hzQ
       try simp only [Act.put, pA, pB, pC]
       refine bodyPost_ret (results_bt rfl _ _ _ 64 23 5 _ rfl B1 Try.underlying23 Try.size23) rfl ⟨by first | (rw [HV.out]; rfl) | rw [HV.out], hb⟩
 · have HV := Lib.hid (pqV_1 (k := k) hc)
   rw [hc]
   clear hc
   go_upto_region 3 with (fail)
   have lt_B0 := B0.lt
   have lt_B1 := B1.lt
   go_wp2_with (first | rw [← z64] | (refine zsr (.tmp 6) (.tmp 15) (fun _ => 0) B1 Try.size23 ?_; try simp only [Act.put]; go_wp2_with fail))
   obtain ⟨W3, hwo, hzQ⟩ : ∃ v : World, v = (W2.setRow (w.heap.size + 1) (zb 64 (fun _ => 0))) ∧ Blk v (w.heap.size) 64 23 (f) ∧ Blk v (w.heap.size + 1) 64 23 (fun _ => 0) ∧ Below w.heap.size w v := ⟨_, rfl, (B0.rowOther (by omega)), (B1.row (fun _ => 0)), (zr hb (by omega) _)⟩
   rw [← hwo]
   clear hwo B0 B1 hb
   obtain ⟨B0, B1, hb⟩ := hzQ
   try simp only [Act.put, pA, pB, pC]
   refine bodyPost_ret (results_bt rfl _ _ _ 64 23 5 _ rfl B1 Try.underlying23 Try.size23) rfl ⟨by first | (rw [HV.out]; rfl) | rw [HV.out], hb⟩
set_option maxRecDepth 100000 in
set_option maxHeartbeats 1600000 in
theorem spec_PowerOf_any (p : Int) (f : Nat → Nat) (k : Int) (hf : byte f) (w : World) :
 Calls Try.prog 29 #[.int .i64 p, .agg (zb 64 f), .int .i64 k] w fun e w' => e = .returned (.tuple #[.agg (zb 64 (pqV p f k).1), .int .i64 (pqV p f k).2]) ∧ Below w.heap.size w w' := by
 go_enter Try.func29, Try.ntmps29
 go_upto_region 1 with (fail)
 rw [← z64]
 obtain ⟨W1, hwo⟩ : ∃ v : World, v = ((w.alloc (.cells (zb 64 (f)) 23)).alloc (.cells (zb 64 (fun _ => 0)) 23)) := ⟨_, rfl⟩
 have B0 : Blk W1 (w.heap.size) 64 23 (f) := by subst hwo; have := ((Blk.new w 64 23 (f)).alloc (.cells (zb 64 (fun _ => 0)) 23)); simpa using this
 have B1 : Blk W1 (w.heap.size + 1) 64 23 (fun _ => 0) := by subst hwo; have := (Blk.new (w.alloc (.cells (zb 64 (f)) 23)) 64 23 (fun _ => 0)); simpa using this
 have hb : Below w.heap.size w W1 := by subst hwo; exact (((Below.refl _ _).alloc (Nat.le_refl _) _).alloc (by simp) _)
 rw [← hwo]
 clear hwo
 go_upto_region 2 with (first | (refine zla (.tmp 4) B0 Try.underlying23 Try.size23 ?_) | (refine wpList_build_polys rfl 57 _ [f] rfl 23 rfl Try.underlying57 Try.elem23 (by simp) (by simp) rfl ?_; intro wa hwa hps hba; clear hwa) | (go_at_call 84; refine (l01Code_any p [f] (by simp [hf]) _ _ hps (by simp)).mono ?_; rintro e W2 ⟨rfl, hbb⟩))
 have hBB : Below W1.heap.size W1 W2 := hba.trans (hbb.mono hba.size)
 replace B0 := B0.zw hBB
 replace B1 := B1.zw hBB
 replace hb := hb.trans (hBB.mono hb.size)
 clear hBB hba hbb hps
 rcases codeL_two p [f] with hc | hc
 · obtain ⟨n, hn, n2, n7⟩ := okP_nat (codeL_zero hc).1
   subst hn
   have lf := lt_of_code hc (f := f) (by simp)
   have hpr := prime_of hc
   by_cases hr : 0 ≤ k ∧ k ≤ 1000000000000
   · obtain ⟨k, rfl⟩ : ∃ j : Nat, k = (j : Int) := ⟨k.toNat, by omega⟩
     have hr1 := hr.1; have hr2 := hr.2
     obtain ⟨fb1, fb2⟩ := zdb f
     have mb1 : -1000000000000 ≤ deg f * (k : Int) := by
      have h := Int.mul_le_mul_of_nonneg_right fb1 hr1
      omega
     have mb2 : deg f * (k : Int) ≤ 63000000000000 := by
      have h := Int.mul_le_mul_of_nonneg_right fb2 hr1
      omega
     by_cases hlim : deg f * (k : Int) ≤ 63
     · have HV2 := Lib.hid (show (pqV (n : Int) f (k : Int)).2 = 0 by rw [pqV_0 hc hr hlim])
       have HV := Lib.hid (pqV_0 hc hr hlim)
       have hk64 : k < 2 ^ 64 := by have h6 : (1000000000000 : Nat) < 2 ^ 64 := (by decide); omega
       rw [hc]
       clear hc hr
       go_upto_region 4 with (fail)
       go_upto_region 5 with (first | (refine zla (.tmp 4) B0 Try.underlying23 Try.size23 ?_) | (go_at_call 74; refine (l01Deg_any f _).mono ?_; rintro e W3 ⟨rfl, hW3⟩; replace B0 := B0.zw hW3; replace B1 := B1.zw hW3; replace hb := (hb).trans (hW3.mono (hb).size)))
       by_cases hk0 : k = 0
       · subst hk0
         have HE := Lib.hid (show zb 64 (pqV (n : Int) f ((0 : Nat) : Int)).1 = zb 64 oneP by rw [HV.out, pgR_z])
         go_upto_region 8 with (first | (go_at_call 85; refine (l01In_yes _ _ _ (by omega) _).mono ?_; rintro e wS ⟨rfl, rfl⟩))
         have lt_B0 := B0.lt
         have lt_B1 := B1.lt
         go_wp2_with (first | rw [← z64] | (go_at_call 80; refine (l01One_any _).mono ?_; rintro e W4 ⟨rfl, hW4⟩; replace B0 := B0.zw hW4; replace B1 := B1.zw hW4; replace hb := (hb).trans (hW4.mono (hb).size)) | (refine zsr (.tmp 6) (.tmp 33) (oneP) B1 Try.size23 ?_; try simp only [Act.put]; go_wp2_with fail))
         obtain ⟨W5, hwo, hzQ⟩ : ∃ v : World, v = (W4.setRow (w.heap.size + 1) (zb 64 (oneP))) ∧ Blk v (w.heap.size) 64 23 (f) ∧ Blk v (w.heap.size + 1) 64 23 (oneP) ∧ Below w.heap.size w v := ⟨_, rfl, (B0.rowOther (by omega)), (B1.row (oneP)), (zr hb (by omega) _)⟩
         rw [← hwo]
         clear hwo B0 B1 hb
         obtain ⟨B0, B1, hb⟩ := hzQ
         try simp only [Act.put, pA, pB, pC]
         refine bodyPost_ret (results_bt rfl _ _ _ 64 23 5 _ rfl B1 Try.underlying23 Try.size23) rfl ⟨by first | (rw [HE.out, HV2.out]; rfl) | rw [HE.out, HV2.out], hb⟩
       · have hkz : ¬ (k : Int) = 0 := by omega
         have hkp : 0 < (k : Int) := by omega
         have hkn : ((k : Int) == 0) = false := by simp; omega
         go_upto_region 9 with (first | (go_at_call 85; refine (l01In_any _ _ _ _).mono ?_; rintro e wS ⟨rfl, rfl⟩; rw [show decide ((0 : Int) ≤ (k : Int) ∧ (k : Int) ≤ 1000000000000) = true by simp; omega]))
         clear hkn
         by_cases hneg : deg f < 0
         · have HE := Lib.hid (show zb 64 (pqV (n : Int) f (k : Int)).1 = zb 64 (fun _ => 0) by rw [HV.out]; exact (zbc (zero_same n2 hneg (by omega) hk64)).symm)
           go_upto_region 10 with (fail)
           have lt_B0 := B0.lt
           have lt_B1 := B1.lt
           go_wp2_with (first | rw [← z64] | (refine zsr (.tmp 6) (.tmp 37) (fun _ => 0) B1 Try.size23 ?_; try simp only [Act.put]; go_wp2_with fail))
           obtain ⟨W4, hwo, hzQ⟩ : ∃ v : World, v = (W3.setRow (w.heap.size + 1) (zb 64 (fun _ => 0))) ∧ Blk v (w.heap.size) 64 23 (f) ∧ Blk v (w.heap.size + 1) 64 23 (fun _ => 0) ∧ Below w.heap.size w v := ⟨_, rfl, (B0.rowOther (by omega)), (B1.row (fun _ => 0)), (zr hb (by omega) _)⟩
           rw [← hwo]
           clear hwo B0 B1 hb
           obtain ⟨B0, B1, hb⟩ := hzQ
           try simp only [Act.put, pA, pB, pC]
           refine bodyPost_ret (results_bt rfl _ _ _ 64 23 5 _ rfl B1 Try.underlying23 Try.size23) rfl ⟨by first | (rw [HE.out, HV2.out]; rfl) | rw [HE.out, HV2.out], hb⟩
         · by_cases hd0 : deg f = 0
           · obtain ⟨KK, hKK⟩ : ∃ KK, KK = k % (n - 1) := ⟨_, rfl⟩
             obtain ⟨C, hC⟩ : ∃ C, C = f 0 := ⟨_, rfl⟩
             have hCl := lf 0 (by omega)
             rw [← hC] at hCl
             have HE := Lib.hid (show zb 64 (pqV (n : Int) f (k : Int)).1 = zb 64 (fun i => if i = 0 then cpN n C KK else 0) by rw [HV.out, hKK, hC]; exact (zbc (const_same hpr lf hd0 hk64)).symm)
             have hKi : (k : Int).tmod ((n : Int) - 1) = (KK : Int) := by
              rw [hKK, Int.tmod_eq_emod_of_nonneg (by omega), show (n : Int) - 1 = ((n - 1 : Nat) : Int) by omega]; rfl
             have hn1 : ¬ (n : Int) - 1 = 0 := by omega
             have HCC := Lib.hid (show Blk W3 (w.heap.size) 64 23 (f) from B0)
             have hd1 : (deg f == 0) = true := by simp [hd0]
             have hdn : ¬ deg f < 0 := by omega
             have hKK7 : KK ≤ 7 := by
              rw [hKK]; have := Nat.mod_lt k (show 0 < n - 1 by omega); omega
             have HC := Lib.hid hC
             have HLT := Lib.hid (fun j => cpN_lt (p := n) (a := C) n2 j)
             have HCS := Lib.hid (show ∀ j, cpN n C (j + 1) = cpN n C j * C % n from fun j => by rw [cpN])
             have HC0 := Lib.hid (show cpN n C 0 = 1 by rw [cpN])
             clear hC hKK HCC hkz hd0 hneg
             go_upto_region 13 with (fail)
             clear hd1
             go_wp2_with fail
             go_loopw [10, 11] (fun s i wr => ∃ q j : Nat, Hid (q + j = KK) ∧ s = .int .i64 ((cpN n C j : Nat) : Int) ∧ i = .int .i64 (q : Int) ∧ Below w.heap.size w wr ∧ Blk wr (w.heap.size) 64 23 (f) ∧ Blk wr (w.heap.size + 1) 64 23 (fun _ => 0)) (fun _ i _ => (intOf i).toNat)
             case atStart => exact ⟨KK, 0, Lib.hid (by omega), by rw [HC0.out]; rfl, rfl, hb, B0, B1⟩
             case round =>
              clear hb B0 B1
              obtain ⟨q, j, hqj, rfl, rfl, hb, B0, B1⟩ := hrel
              by_cases hq0 : q = 0
              · subst hq0
                have ej : j = KK := by have := hqj.out; omega
                have hlt := HLT.out j
                obtain ⟨hv, hhv⟩ : ∃ hv, hv = cpN n C j := ⟨_, rfl⟩
                rw [← ej, ← hhv] at HE
                rw [← hhv] at hlt ⊢
                clear hhv ej hqj
                go_upto_region 17 with (fail)
                have lt_B0 := B0.lt
                have lt_B1 := B1.lt
                go_wp2_with (first | rw [lit_c hv] | rw [← z64] | (refine zbo rfl 23 _ rfl (zb 64 fun k => if k = 0 then hv else 0) (by rw [Array.toList_map]; exact built_c hv) ?_) | (refine zsr (.tmp 6) (.tmp 58) (fun k => if k = 0 then hv else 0) B1 Try.size23 ?_; try simp only [Act.put]; go_wp2_with fail))
                obtain ⟨W4, hwo, hzQ⟩ : ∃ v : World, v = (wr.setRow (w.heap.size + 1) (zb 64 (fun k => if k = 0 then hv else 0))) ∧ Blk v (w.heap.size) 64 23 (f) ∧ Blk v (w.heap.size + 1) 64 23 (fun k => if k = 0 then hv else 0) ∧ Below w.heap.size w v := ⟨_, rfl, (B0.rowOther (by omega)), (B1.row (fun k => if k = 0 then hv else 0)), (zr hb (by omega) _)⟩
                rw [← hwo]
                clear hwo B0 B1 hb
                obtain ⟨B0, B1, hb⟩ := hzQ
                try simp only [Act.put, pA, pB, pC]
                refine bodyPost_ret (results_bt rfl _ _ _ 64 23 5 _ rfl B1 Try.underlying23 Try.size23) rfl ⟨by first | (rw [HE.out, HV2.out]; rfl) | rw [HE.out, HV2.out], hb⟩
              · obtain ⟨q, rfl⟩ : ∃ t, q = t + 1 := ⟨q - 1, by omega⟩
                have hqi : 0 < ((q + 1 : Nat) : Int) := by omega
                have hq7 : q ≤ 7 := by have := hqj.out; omega
                have hlt := HLT.out j
                have HSJ := Lib.hid (HCS.out j)
                obtain ⟨A, hA⟩ : ∃ A, A = cpN n C j := ⟨_, rfl⟩
                rw [← hA] at hlt HSJ ⊢
                have HA := Lib.hid hA
                have hm1 : (0 : Int) ≤ (A : Int) * (C : Int) := Int.mul_nonneg (by omega) (by omega)
                have hm2 : (A : Int) * (C : Int) ≤ 49 := by
                 have := Int.mul_le_mul (show (A : Int) ≤ 7 by omega) (show (C : Int) ≤ 7 by omega) (by omega) (by omega)
                 omega
                obtain ⟨V, hV⟩ : ∃ V, V = A * C % n := ⟨_, rfl⟩
                have hVi : ((A : Int) * (C : Int)).tmod (n : Int) = (V : Int) := by rw [hV, Int.tmod_eq_emod_of_nonneg hm1]; push_cast; rfl
                have HVV := Lib.hid hV
                have hnz : ¬ (n : Int) = 0 := by omega
                clear hA hV
                have cc := B0.cell (i := 0) (by omega)
                rw [← HC.out] at cc
                go_wp2_with fail
                go_roundw
                case rel => exact ⟨q, j + 1, Lib.hid (by have := hqj.out; omega), by rw [HSJ.out, ← HVV.out], by go_num, hb, B0, B1⟩
                case measure => simp [intOf] <;> omega
           · obtain ⟨d, hd⟩ : ∃ d : Nat, deg f = (d : Int) := ⟨(deg f).toNat, by omega⟩
             have hdk : d * k ≤ 63 := by rw [hd] at hlim; exact_mod_cast hlim
             have hd1 : 1 ≤ d := by omega
             have hk63 : k ≤ 63 := by
              have := Nat.mul_le_mul_right k hd1
              omega
             have HE := Lib.hid (show zb 64 (pqV (n : Int) f (k : Int)).1 = zb 64 (exP n f k) by rw [HV.out]; exact (zbc (exP_same n2 hd hdk hk64)).symm)
             have HEX := Lib.hid (fun j (hj : d * j ≤ 63) => exP_ok n2 hd j hj)
             have HXS := Lib.hid (show ∀ j, exP n f (j + 1) = prd n (exP n f j) f from fun j => by rw [exP])
             have HX0 := Lib.hid (show exP n f 0 = oneP by rw [exP])
             have HDD := Lib.hid hd
             have HDK := Lib.hid hdk
             have hg1 : ¬ 63 < (k : Int) := by omega
             have hg2 : ¬ 63 < deg f * (k : Int) := by omega
             have hd2 : (deg f == 0) = false := by simp; omega
             clear hd hdk hkz
             go_upto_region 20 with (fail)
             clear hd2 hg1 hg2
             have lt_B0 := B0.lt
             have lt_B1 := B1.lt
             go_upto_region 99 with (first | rw [← z64] | (go_at_call 80; refine (l01One_any _).mono ?_; rintro e W4 ⟨rfl, hW4⟩; replace B0 := B0.zw hW4; replace B1 := B1.zw hW4; replace hb := (hb).trans (hW4.mono (hb).size)) | (refine wpList_store_blk rfl 23 (.tmp 12) (.tmp 69) rfl _ 64 (oneP) rfl rfl 23 _ ((Blk.new W4 64 23 (fun _ => 0))) Try.size23 ?_; try simp only [Act.put]))
             have lt_B0 := B0.lt
             have lt_B1 := B1.lt
             have lhb := hb.size
             obtain ⟨W5, hwo, hzQ⟩ : ∃ v : World, v = ((W4.alloc (.cells (zb 64 (fun _ => 0)) 23)).setRow (W4.heap.size) (zb 64 (oneP))) ∧ Blk v (w.heap.size) 64 23 (f) ∧ Blk v (w.heap.size + 1) 64 23 (fun _ => 0) ∧ Blk v (W4.heap.size) 64 23 (oneP) ∧ Below w.heap.size w v := ⟨_, rfl, ((B0.alloc (.cells (zb 64 (fun _ => 0)) 23)).rowOther (by omega)), ((B1.alloc (.cells (zb 64 (fun _ => 0)) 23)).rowOther (by omega)), ((Blk.new W4 64 23 (fun _ => 0)).row (oneP)), (zr (hb.alloc (by have := hb.size; simp; omega) (.cells (zb 64 (fun _ => 0)) 23)) (by omega) _)⟩
             rw [← hwo]
             clear hwo B0 B1 hb
             obtain ⟨B0, B1, B2, hb⟩ := hzQ
             obtain ⟨N1, hNN⟩ : ∃ n : Nat, n = W4.heap.size := ⟨_, rfl⟩
             rw [← hNN] at lt_B0 lt_B1 lhb B2 ⊢
             clear hNN
             have zN1_0 := lt_B0
             have zN1_1 := lt_B1
             have zN1 := lhb
             clear lt_B0 lt_B1 lhb
             try simp only [Act.put, pA, pB, pC]
             obtain ⟨K0, hK0⟩ : ∃ K0, K0 = k := ⟨_, rfl⟩
             rw [← hK0] at HE HDK hk63
             have HK0 := Lib.hid hK0
             clear hK0
             go_loopw [2] (fun i wr => ∃ q j : Nat, Hid (q + j = K0) ∧ i = .int .i64 (q : Int) ∧ Below w.heap.size w wr ∧ Blk wr (w.heap.size) 64 23 (f) ∧ Blk wr (w.heap.size + 1) 64 23 (fun _ => 0) ∧ Blk wr (N1) 64 23 (exP n f j)) (fun i _ => (intOf i).toNat)
             case atStart => exact ⟨k, 0, Lib.hid (by have := HK0.out; omega), rfl, hb, B0, B1, by rw [HX0.out]; exact B2⟩
             case round =>
              clear hb B0 B1 B2 hkp
              obtain ⟨q, j, hqj, rfl, hb, B0, B1, B2⟩ := hrel
              by_cases hq0 : q = 0
              · subst hq0
                have ej : j = K0 := by have := hqj.out; omega
                rw [ej] at B2
                clear hqj ej
                go_upto_region 25 with (fail)
                have lt_B0 := B0.lt
                have lt_B1 := B1.lt
                have lt_B2 := B2.lt
                go_wp2_with (first | rw [← z64] | (refine zla (.tmp 12) B2 Try.underlying23 Try.size23 ?_) | (refine zsr (.tmp 6) (.tmp 82) (exP n f K0) B1 Try.size23 ?_; try simp only [Act.put]; go_wp2_with fail))
                obtain ⟨W6, hwo, hzQ⟩ : ∃ v : World, v = (wr.setRow (w.heap.size + 1) (zb 64 (exP n f K0))) ∧ Blk v (w.heap.size) 64 23 (f) ∧ Blk v (w.heap.size + 1) 64 23 (exP n f K0) ∧ Blk v (N1) 64 23 (exP n f K0) ∧ Below w.heap.size w v := ⟨_, rfl, (B0.rowOther (by omega)), (B1.row (exP n f K0)), (B2.rowOther (by omega)), (zr hb (by omega) _)⟩
                rw [← hwo]
                clear hwo B0 B1 B2 hb
                obtain ⟨B0, B1, B2, hb⟩ := hzQ
                try simp only [Act.put, pA, pB, pC]
                refine bodyPost_ret (results_bt rfl _ _ _ 64 23 5 _ rfl B1 Try.underlying23 Try.size23) rfl ⟨by rw [← HK0.out]; first | (rw [HE.out]; rw [← HK0.out] at HV2; rw [HV2.out]; rfl) | (rw [HE.out]; rw [← HK0.out] at HV2; rw [HV2.out]), hb⟩
              · obtain ⟨q, rfl⟩ : ∃ t, q = t + 1 := ⟨q - 1, by omega⟩
                have hqi : 0 < ((q + 1 : Nat) : Int) := by omega
                have hq63 : q ≤ 63 := by have := hqj.out; omega
                have hdj : d * (j + 1) ≤ 63 := by
                 have h1 := Nat.mul_le_mul_left d (show j + 1 ≤ K0 by have := hqj.out; omega)
                 have := HDK.out
                 omega
                rw [Nat.mul_succ] at hdj
                obtain ⟨s1, s2, _⟩ := HEX.out j (by omega)
                have HTM := Lib.hid (fun W => l01Times_any n (exP n f j) f W n2 n7 s1 lf)
                have HTV := Lib.hid (show tmV n (exP n f j) f = (exP n f (j + 1), true) by
                 rw [HXS.out]
                 exact if_pos (by have := HDD.out; omega))
                clear s1 s2 hdj
                go_upto_region 23 with (fail)
                have lt_B0 := B0.lt
                have lt_B1 := B1.lt
                have lt_B2 := B2.lt
                go_upto_region 24 with (first | rw [← z64] | (refine zla (.tmp 12) B2 Try.underlying23 Try.size23 ?_) | (refine zla (.tmp 4) B0 Try.underlying23 Try.size23 ?_) | (go_at_call 76; refine (HTM.out _).mono ?_; rintro e W6 ⟨rfl, hW6⟩; replace B0 := B0.zw hW6; replace B1 := B1.zw hW6; replace B2 := B2.zw hW6; replace hb := (hb).trans (hW6.mono (hb).size); rw [HTV.out]) | (refine wpList_store_blk rfl 23 (.tmp 13) (.tmp 79) rfl _ 64 (exP n f (j + 1)) rfl rfl 23 _ ((Blk.new W6 64 23 (fun _ => 0))) Try.size23 ?_; try simp only [Act.put]; go_upto_region 24 with (fail)))
                have lt_B0 := B0.lt
                have lt_B1 := B1.lt
                have lt_B2 := B2.lt
                have lhb := hb.size
                obtain ⟨W7, hwo, hzQ⟩ : ∃ v : World, v = ((W6.alloc (.cells (zb 64 (fun _ => 0)) 23)).setRow (W6.heap.size) (zb 64 (exP n f (j + 1)))) ∧ Blk v (w.heap.size) 64 23 (f) ∧ Blk v (w.heap.size + 1) 64 23 (fun _ => 0) ∧ Blk v (N1) 64 23 (exP n f j) ∧ Blk v (W6.heap.size) 64 23 (exP n f (j + 1)) ∧ Below w.heap.size w v := ⟨_, rfl, ((B0.alloc (.cells (zb 64 (fun _ => 0)) 23)).rowOther (by omega)), ((B1.alloc (.cells (zb 64 (fun _ => 0)) 23)).rowOther (by omega)), ((B2.alloc (.cells (zb 64 (fun _ => 0)) 23)).rowOther (by omega)), ((Blk.new W6 64 23 (fun _ => 0)).row (exP n f (j + 1))), (zr (hb.alloc (by have := hb.size; simp; omega) (.cells (zb 64 (fun _ => 0)) 23)) (by omega) _)⟩
                rw [← hwo]
                clear hwo B0 B1 B2 hb
                obtain ⟨B0, B1, B2, B3, hb⟩ := hzQ
                obtain ⟨N2, hNN⟩ : ∃ n : Nat, n = W6.heap.size := ⟨_, rfl⟩
                rw [← hNN] at lt_B0 lt_B1 lt_B2 lhb B3 ⊢
                clear hNN
                have zN2_0 := lt_B0
                have zN2_1 := lt_B1
                have zN2_2 := lt_B2
                have zN2 := lhb
                clear lt_B0 lt_B1 lt_B2 lhb
                try simp only [Act.put, pA, pB, pC]
                have lt_B0 := B0.lt
                have lt_B1 := B1.lt
                have lt_B2 := B2.lt
                have lt_B3 := B3.lt
                go_upto_region 22 with (first | rw [← z64] | (refine zla (.tmp 13) B3 Try.underlying23 Try.size23 ?_) | (refine zsr (.tmp 12) (.tmp 81) (exP n f (j + 1)) B2 Try.size23 ?_; try simp only [Act.put]))
                obtain ⟨W8, hwo, hzQ⟩ : ∃ v : World, v = (W7.setRow (N1) (zb 64 (exP n f (j + 1)))) ∧ Blk v (w.heap.size) 64 23 (f) ∧ Blk v (w.heap.size + 1) 64 23 (fun _ => 0) ∧ Blk v (N1) 64 23 (exP n f (j + 1)) ∧ Blk v (N2) 64 23 (exP n f (j + 1)) ∧ Below w.heap.size w v := ⟨_, rfl, (B0.rowOther (by omega)), (B1.rowOther (by omega)), (B2.row (exP n f (j + 1))), (B3.rowOther (by omega)), (zr hb (by omega) _)⟩
                rw [← hwo]
                clear hwo B0 B1 B2 B3 hb
                obtain ⟨B0, B1, B2, B3, hb⟩ := hzQ
                try simp only [Act.put, pA, pB, pC]
                go_wp2_with fail
                go_roundw
                case rel => exact ⟨q, j + 1, Lib.hid (by have := hqj.out; omega), by go_num, hb, B0, B1, B2⟩
                case measure => simp [intOf] <;> omega
     · have HV := Lib.hid (pqV_3 hc hr hlim)
       have hlim2 : 63 < deg f * (k : Int) := by omega
       have hk0 : k ≠ 0 := by
        intro h; subst h
        rw [show ((0 : Nat) : Int) = 0 from rfl, Int.mul_zero] at hlim; omega
       have hkp : 0 < (k : Int) := by omega
       have hkz : ¬ (k : Int) = 0 := by omega
       have hkn : ((k : Int) == 0) = false := by simp; omega
       have hdp : 0 < deg f := by
        apply Classical.byContradiction
        intro h
        have := Int.mul_nonpos_of_nonpos_of_nonneg (show deg f ≤ 0 by omega) hr1
        omega
       have hd2 : (deg f == 0) = false := by simp; omega
       have hdn : ¬ deg f < 0 := by omega
       rw [hc]
       clear hc hr hlim
       go_upto_region 4 with (fail)
       go_upto_region 5 with (first | (refine zla (.tmp 4) B0 Try.underlying23 Try.size23 ?_) | (go_at_call 74; refine (l01Deg_any f _).mono ?_; rintro e W3 ⟨rfl, hW3⟩; replace B0 := B0.zw hW3; replace B1 := B1.zw hW3; replace hb := (hb).trans (hW3.mono (hb).size)))
       by_cases hbig : 63 < (k : Int)
       · skip
         go_upto_region 19 with (first | (go_at_call 85; refine (l01In_any _ _ _ _).mono ?_; rintro e wS ⟨rfl, rfl⟩; rw [show decide ((0 : Int) ≤ (k : Int) ∧ (k : Int) ≤ 1000000000000) = true by simp; omega]))
         have lt_B0 := B0.lt
         have lt_B1 := B1.lt
         go_wp2_with (first | rw [← z64] | (refine zsr (.tmp 6) (.tmp 68) (fun _ => 0) B1 Try.size23 ?_; try simp only [Act.put]; go_wp2_with fail))
         obtain ⟨W4, hwo, hzQ⟩ : ∃ v : World, v = (W3.setRow (w.heap.size + 1) (zb 64 (fun _ => 0))) ∧ Blk v (w.heap.size) 64 23 (f) ∧ Blk v (w.heap.size + 1) 64 23 (fun _ => 0) ∧ Below w.heap.size w v := ⟨_, rfl, (B0.rowOther (by omega)), (B1.row (fun _ => 0)), (zr hb (by omega) _)⟩
         rw [← hwo]
         clear hwo B0 B1 hb
         obtain ⟨B0, B1, hb⟩ := hzQ
         try simp only [Act.put, pA, pB, pC]
         refine bodyPost_ret (results_bt rfl _ _ _ 64 23 5 _ rfl B1 Try.underlying23 Try.size23) rfl ⟨by first | (rw [HV.out]; rfl) | rw [HV.out], hb⟩
       · skip
         go_upto_region 19 with (first | (go_at_call 85; refine (l01In_any _ _ _ _).mono ?_; rintro e wS ⟨rfl, rfl⟩; rw [show decide ((0 : Int) ≤ (k : Int) ∧ (k : Int) ≤ 1000000000000) = true by simp; omega]))
         have lt_B0 := B0.lt
         have lt_B1 := B1.lt
         go_wp2_with (first | rw [← z64] | (refine zsr (.tmp 6) (.tmp 68) (fun _ => 0) B1 Try.size23 ?_; try simp only [Act.put]; go_wp2_with fail))
         obtain ⟨W4, hwo, hzQ⟩ : ∃ v : World, v = (W3.setRow (w.heap.size + 1) (zb 64 (fun _ => 0))) ∧ Blk v (w.heap.size) 64 23 (f) ∧ Blk v (w.heap.size + 1) 64 23 (fun _ => 0) ∧ Below w.heap.size w v := ⟨_, rfl, (B0.rowOther (by omega)), (B1.row (fun _ => 0)), (zr hb (by omega) _)⟩
         rw [← hwo]
         clear hwo B0 B1 hb
         obtain ⟨B0, B1, hb⟩ := hzQ
         try simp only [Act.put, pA, pB, pC]
         refine bodyPost_ret (results_bt rfl _ _ _ 64 23 5 _ rfl B1 Try.underlying23 Try.size23) rfl ⟨by first | (rw [HV.out]; rfl) | rw [HV.out], hb⟩
   · have HV := Lib.hid (pqV_2 hc hr)
     rw [hc]
     clear hc
     go_upto_region 4 with (fail)
     go_upto_region 5 with (first | (refine zla (.tmp 4) B0 Try.underlying23 Try.size23 ?_) | (go_at_call 74; refine (l01Deg_any f _).mono ?_; rintro e W3 ⟨rfl, hW3⟩; replace B0 := B0.zw hW3; replace B1 := B1.zw hW3; replace hb := (hb).trans (hW3.mono (hb).size)))
     go_upto_region 6 with (first | (go_at_call 85; refine (l01In_any _ _ _ _).mono ?_; rintro e wS ⟨rfl, rfl⟩; rw [show decide ((0 : Int) ≤ k ∧ k ≤ 1000000000000) = false by simp; omega]))
     have lt_B0 := B0.lt
     have lt_B1 := B1.lt
     go_wp2_with (first | rw [← z64] | (refine zsr (.tmp 6) (.tmp 29) (fun _ => 0) B1 Try.size23 ?_; try simp only [Act.put]; go_wp2_with fail))
     obtain ⟨W4, hwo, hzQ⟩ : ∃ v : World, v = (W3.setRow (w.heap.size + 1) (zb 64 (fun _ => 0))) ∧ Blk v (w.heap.size) 64 23 (f) ∧ Blk v (w.heap.size + 1) 64 23 (fun _ => 0) ∧ Below w.heap.size w v := ⟨_, rfl, (B0.rowOther (by omega)), (B1.row (fun _ => 0)), (zr hb (by omega) _)⟩
     rw [← hwo]
     clear hwo B0 B1 hb
     obtain ⟨B0, B1, hb⟩ := hzQ
     try simp only [Act.put, pA, pB, pC]
     refine bodyPost_ret (results_bt rfl _ _ _ 64 23 5 _ rfl B1 Try.underlying23 Try.size23) rfl ⟨by first | (rw [HV.out]; rfl) | rw [HV.out], hb⟩
 · have HV := Lib.hid (pqV_1 (k := k) hc)
   rw [hc]
   clear hc
   go_upto_region 3 with (fail)
   have lt_B0 := B0.lt
   have lt_B1 := B1.lt
   go_wp2_with (first | rw [← z64] | (refine zsr (.tmp 6) (.tmp 21) (fun _ => 0) B1 Try.size23 ?_; try simp only [Act.put]; go_wp2_with fail))
   obtain ⟨W3, hwo, hzQ⟩ : ∃ v : World, v = (W2.setRow (w.heap.size + 1) (zb 64 (fun _ => 0))) ∧ Blk v (w.heap.size) 64 23 (f) ∧ Blk v (w.heap.size + 1) 64 23 (fun _ => 0) ∧ Below w.heap.size w v := ⟨_, rfl, (B0.rowOther (by omega)), (B1.row (fun _ => 0)), (zr hb (by omega) _)⟩
   rw [← hwo]
   clear hwo B0 B1 hb
   obtain ⟨B0, B1, hb⟩ := hzQ
   try simp only [Act.put, pA, pB, pC]
   refine bodyPost_ret (results_bt rfl _ _ _ 64 23 5 _ rfl B1 Try.underlying23 Try.size23) rfl ⟨by first | (rw [HV.out]; rfl) | rw [HV.out], hb⟩
end Go.Proofs.Ytobcdekochenfaa
end
section
namespace Go.Proofs.Ytobcdekochenfaa
open Go.RowKit
set_option linter.unusedVariables false
set_option linter.unusedSimpArgs false
set_option maxRecDepth 100000 in
set_option maxHeartbeats 1600000 in
theorem FnExactPowerOf_walk (p : Int) (f : Nat → Nat) (k : Int) (hf : byte f) (w : World) :
 Calls Try.prog 7 #[.int .i64 p, .agg (zb 64 f), .int .i64 k] w fun e w' => e = .returned (.bool true) ∧ Below w.heap.size w w' := by
 go_enter Try.func7, Try.ntmps7
 go_upto_region 1 with (fail)
 obtain ⟨wo, hwo⟩ : ∃ wo : World, wo = (w.alloc (.cells (zb 64 f) 22)) := ⟨_, rfl⟩
 have bf : Blk wo (w.heap.size) 64 22 f := by subst hwo; have := (Blk.new w 64 22 f); simpa using this
 have hb : Below w.heap.size w wo := by subst hwo; exact ((Below.refl _ _).alloc (Nat.le_refl _) _)
 rw [← hwo]
 clear hwo
 have ha : Below wo.heap.size wo wo := Below.refl _ _
 go_upto_region 2 with (first | refine zlb rfl 22 _ rfl _ rfl 64 22 _ (bf.below (by assumption) bf.lt) 5 Try.underlying22 Try.size22 ?_ | (go_at_call 25; refine (acc (toPoly_any _ hf _) (by assumption)).mono ?_; rintro e w1z ⟨rfl, hz, ha⟩) | (go_at_call 29; refine (acc (spec_PowerOf_any p f k hf _) (by assumption)).mono ?_; rintro e w1z ⟨rfl, hz, ha⟩) | refine wpList_store_new rfl 23 _ _ rfl _ 23 64 ((pqV p f k).1) rfl rfl rfl Try.size23 ?_)
 have hb8 := Blk.new w1z 64 23 ((pqV p f k).1)
 have hS1 := ha.trans ((zal w1z (.cells (zb 64 ((pqV p f k).1)) 23)).mono ha.size)
 clear ha
 obtain ⟨w1, hwx⟩ : ∃ v : World, v = w1z.alloc (.cells (zb 64 ((pqV p f k).1)) 23) := ⟨_, rfl⟩
 rw [← hwx] at hb8 hS1 ⊢
 clear hwx
 obtain ⟨b8, hbi⟩ : ∃ b : Nat, b = w1z.heap.size := ⟨_, rfl⟩
 rw [← hbi] at hb8 ⊢
 clear hbi
 replace bf := bf.zw hS1
 have ha : Below w1.heap.size w1 w1 := Below.refl _ _
 go_upto_region 3 with (first | refine zlb rfl 22 _ rfl _ rfl 64 22 _ (bf.below (by assumption) bf.lt) 5 Try.underlying22 Try.size22 ?_ | (go_at_call 25; refine (acc (toPoly_any _ hf _) (by assumption)).mono ?_; rintro e w2z ⟨rfl, hz, ha⟩) | (go_at_call 30; refine (acc (impl_PowerOf_any p f k hf _) (by assumption)).mono ?_; rintro e w2z ⟨rfl, hz, ha⟩) | refine wpList_store_new rfl 23 _ _ rfl _ 23 64 ((pqV p f k).1) rfl rfl rfl Try.size23 ?_)
 have hq8 := Blk.new w2z 64 23 ((pqV p f k).1)
 have hS2 := ha.trans ((zal w2z (.cells (zb 64 ((pqV p f k).1)) 23)).mono ha.size)
 clear ha
 obtain ⟨w2, hwx⟩ : ∃ v : World, v = w2z.alloc (.cells (zb 64 ((pqV p f k).1)) 23) := ⟨_, rfl⟩
 rw [← hwx] at hq8 hS2 ⊢
 clear hwx
 obtain ⟨q8, hbi⟩ : ∃ b : Nat, b = w2z.heap.size := ⟨_, rfl⟩
 rw [← hbi] at hq8 ⊢
 clear hbi
 replace hb8 := hb8.zw hS2
 have ha : Below w2.heap.size w2 w2 := Below.refl _ _
 have hne : (((pqV p f k).2) != ((pqV p f k).2)) = false := by simp
 go_wp2_with (first | refine zlb rfl 23 _ rfl _ rfl 64 23 _ (hq8.below (by assumption) hq8.lt) 5 Try.underlying23 Try.size23 ?_ | refine zlb rfl 23 _ rfl _ rfl 64 23 _ (hb8.below (by assumption) hb8.lt) 5 Try.underlying23 Try.size23 ?_ | (go_at_call 21; refine (acc (eqPoly_same _ _ (fun _ _ => rfl) _) (by assumption)).mono ?_; rintro e w3 ⟨rfl, h3, ha⟩))
 go_ret
 exact ⟨rfl, hb.trans ((hS1.trans ((hS2.trans (ha.mono hS2.size)).mono hS1.size)).mono hb.size)⟩
end Go.Proofs.Ytobcdekochenfaa
end
