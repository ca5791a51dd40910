/-
  What the rows of this claim rest on: arrays of bytes, walks of the functions, plain mathematics.
-/
import Derived.Test.YtobcdekochenfaaZp2
import Derived.WalkKit
import Derived.WalkSpells
import Derived.WalkLawsBesides
import Derived.Lib.Hide
import Derived.Laws.Rows
import Derived.Laws.CopyOwn
import Derived.Deep.QuietTactic
import Derived.Deep.WholeRow
import Derived.Deep.Draws
import Derived.Deep.MidRow
import Derived.Deep.CutRange
import Derived.Deep.DeepCutAuto
import Derived.Deep.RegionHeld3
import Derived.BigQuiet
import Derived.BigRegion
import Derived.Test.YtobcdekochenfaaRows
import Derived.Great.BuildSlice
import Derived.Laws.Tables
import Derived.Laws.StructEq
import Derived.ScopeJumps
import Derived.Deep.CutBlock
import Derived.OwnWalk
import Derived.RangeFuncNested
import Derived.RangeFuncBound
import Derived.RangeFuncCalls
import Derived.RangeFuncLeaves
import Derived.Shelf.Abstract
import Derived.Shelf.RegionOpen
import Derived.OwnWalkIn
import Derived.TacticsInMore
import Derived.LoopNIn
import Derived.LoopIn
import Derived.Maps.OwnOps
import Derived.DeepKeys4
import Derived.Carry
import Derived.Test.YtobcdekochenfaaProg
section
namespace Go.Proofs.Ytobcdekochenfaa
open Go.RowKit
set_option linter.unusedVariables false
theorem invF {p c : Nat} (hp : p = 2 ∨ p = 3 ∨ p = 5 ∨ p = 7) (h1 : 0 < c) (h2 : c < p) : 1 ≤ invN p c ∧ invN p c < p ∧ invN p c * c % p = 1 ∧ ∀ k, 1 ≤ k → k < invN p c → k * c % p ≠ 1 := by
 have hc : c = 1 ∨ c = 2 ∨ c = 3 ∨ c = 4 ∨ c = 5 ∨ c = 6 := by omega
 suffices h : 1 ≤ invN p c ∧ invN p c < p ∧ invN p c * c % p = 1 ∧ ∀ k, k < 7 → (k < 1 ∨ invN p c ≤ k ∨ k * c % p ≠ 1) by
  obtain ⟨a, b, d, e⟩ := h
  refine ⟨a, b, d, fun k k1 k2 => ?_⟩
  rcases e k (by omega) with h | h | h
  · omega
  · omega
  · exact h
 rcases hp with rfl | rfl | rfl | rfl <;> rcases hc with rfl | rfl | rfl | rfl | rfl | rfl <;> first | omega | decide
attribute [local irreducible] invN
end Go.Proofs.Ytobcdekochenfaa
end
section
namespace Go.Proofs.Ytobcdekochenfaa
attribute [local irreducible] deg invN
theorem deg_top {f : Nat → Nat} {m : Nat} (h : deg f = (m : Int)) : m < 64 ∧ 0 < f m ∧ ∀ k, m < k → k < 64 → f k = 0 := by
 rcases deg_spec f with ⟨e, _⟩ | ⟨d, hd, e, hne, hz⟩
 · omega
 · have : d = m := by omega
   subst this
   exact ⟨hd, by omega, hz⟩
end Go.Proofs.Ytobcdekochenfaa
end
section
namespace Go.Proofs.Ytobcdekochenfaa
open Go Go.RowKit
section
variable {P : Program} {Q : Exit → Act → World → Prop}
theorem wp_region_psi0 {ops : Array Oper} {id : Nat} {a0 : Act} {w : World} (hm : P.follows .mixedOrders = true) (hd : dstsOkL ops.toList = true) (he : edgesOk ops = true)
 (Ψ : (Nat → Bool) → (Nat → Value) → World → Prop) (h0 : ∀ v, (∀ i, v i = ((ops[i]?.bind (·.dst)).map fun t => a0.tmps.getD t undef).getD undef) → Ψ (fun _ => false) v w.drew)
 (hstep : ∀ i o, ops[i]? = some o → StepOk P ops Q a0 Ψ i o)
 (hend : ∀ L v w, (∀ i, i < ops.size → L i = true) → Ψ L v w → Q .normal (fr a0 ops v) w) : (Code.region id ops true).wp P Q a0 w := by
 refine wp_region_any hm ?_
 have hfr : fr a0 ops (fun i => ((ops[i]?.bind (·.dst)).map fun t => a0.tmps.getD t undef).getD undef) = a0 := by
  refine frL_start _ _ _ _ fun i o ho => ?_
  have ho' : ops[i]? = some o := by simpa using ho
  simp [ho']
 have key := wpAny_inv (P := P) (Q := Q) hd he hstep hend ops.size (Array.replicate ops.size false) (fun i => ((ops[i]?.bind (·.dst)).map fun t => a0.tmps.getD t undef).getD undef) w.drew (by simp) (by simp) (by
  have e : (fun j => (Array.replicate ops.size false).getD j false) = fun _ => false := by
   funext j; simp [Array.getD]
  rw [e]; exact h0 _ (fun _ => rfl)) (by
  intro j p _ hj
  simp [Array.getD] at hj)
 rw [hfr] at key
 exact key
theorem zq {os : List Oper} {id : Nat} {a0 : Act} {w : World} (hm : P.follows .mixedOrders = true) (hd : dstsOkL os = true) (he : edgesOk os.toArray = true)
 {F : (Nat → Value) → Act} (hF : ∀ v, frL a0 os 0 v = F v)
 (Ψ : (Nat → Bool) → (Nat → Value) → World → Prop) (h0 : ∀ v, (∀ i, v i = ((os[i]?.bind (·.dst)).map fun t => a0.tmps.getD t undef).getD undef) → Ψ (fun _ => false) v w.drew)
 (hstep : Steps P os.toArray Q F Ψ os 0)
 (hend : ∀ L v w, (∀ i, i < os.length → L i = true) → Ψ L v w → Q .normal (F v) w) : (Code.region id os.toArray true).wp P Q a0 w := by
 refine wp_region_psi0 hm (by simpa using hd) he Ψ (fun v hv => h0 v (by simpa using hv)) (fun i o ho => ?_) (fun L v w hL hΨ => ?_)
 · obtain ⟨hg, hs⟩ := steps_of _ _ hstep i o (by simpa using ho)
   rw [Nat.zero_add] at hs
   intro L v w h1 h2 h3 K hK
   have hw : Region.wanted o (yielded os.toArray (fr a0 os.toArray v).tmps) = true := by simp [Region.wanted, hg]
   rw [if_pos hw]
   have hf : fr a0 os.toArray v = F v := hF v
   rw [hf] at hK ⊢
   exact hs L v w h1 h2 h3 K hK
 · have hf : fr a0 os.toArray v = F v := hF v
   rw [hf]
   exact hend L v w (by simpa using hL) hΨ
end
end Go.Proofs.Ytobcdekochenfaa
end
section
namespace Go.Proofs.Ytobcdekochenfaa
open Go Go.RowKit
section
variable {P : Program}
theorem zlg {ops : Array Oper} {rest : List Oper} {o : Oper} {a : Act} {w : World} {Q : Exit → Act → World → Prop} (hw : Region.wanted o (yielded ops a.tmps) = true) (ty : TypeId) (x : Operand) (ho : o.op = .load ty x)
 (b : Nat) (hx : a.eval x = .pointer (some ⟨b, 0, none⟩)) (n : Nat) (t : TypeId) (f : Nat → Nat) (hb : Blk w b n t f) (d : TypeDesc)
 (hu : P.underlying ty = some d) (hd : (match d with | .struct _ | .array _ _ => true | _ => false) = true) (hi : (P.info? ty).map (·.size) = some n)
 (h : wpList P ops Q rest (a.put o.dst (.agg (zb n f))) w) : wpList P ops Q (o :: rest) a w := by
 unfold wpList
 rw [if_pos hw]
 exact Or.inl (wp_load_any ty x ho b hx n t f hb d hu hd hi h)
end
end Go.Proofs.Ytobcdekochenfaa
end
section
namespace Go.Proofs.Ytobcdekochenfaa
attribute [local irreducible] deg invN
theorem cs_but {p : Int} {t : Nat → Int} {j : Nat} : ∀ n, j < n → (∀ i, i < n → i ≠ j → p ∣ t i) → p ∣ cs n t - t j
 | 0, h, _ => by omega
 | n + 1, hj, h => by
  rw [cs_s]
  by_cases e : j = n
  · subst e
    have := cs_dvd (p := p) j (fun i hi => h i (by omega) (by omega))
    rwa [show cs j t + t j - t j = cs j t by omega]
  · have h1 := cs_but n (by omega) (fun i hi hne => h i (by omega) hne)
    rw [show cs n t + t n - t j = (cs n t - t j) + t n by omega]
    exact Int.dvd_add h1 (h n (by omega) (fun e' => e e'.symm))
theorem dvd_unit {p x y v : Int} (hv : p ∣ y * v - 1) (h : p ∣ x * y) : p ∣ x := by
 obtain ⟨a, ha⟩ := hv
 obtain ⟨b, hb⟩ := h
 refine ⟨b * v - x * a, ?_⟩
 have h1 : x * (y * v - 1) = x * (p * a) := by rw [ha]
 rw [Int.mul_sub, ← Int.mul_assoc, hb, Int.mul_one] at h1
 have h2 : p * b * v = p * (b * v) := Int.mul_assoc _ _ _
 have h3 : x * (p * a) = p * (x * a) := by rw [← Int.mul_assoc, Int.mul_comm x p, Int.mul_assoc]
 rw [Int.mul_sub]
 omega
end Go.Proofs.Ytobcdekochenfaa
end
section
set_option linter.unusedVariables false
namespace Go.Proofs.Ytobcdekochenfaa
attribute [local irreducible] deg invN
theorem lz_above {b : Nat → Nat} {m : Nat} (hb : deg b = (m : Int)) {k : Nat} (hk : m < k) : lz b k = 0 := by
 unfold lz
 by_cases h : k < 64
 · rw [cut_in b h, zero_above (f := b) (k := k) (by omega) h]; rfl
 · rw [zcz b (by omega)]; rfl
end Go.Proofs.Ytobcdekochenfaa
set_option linter.unusedVariables false
set_option linter.unusedVariables false
set_option linter.unusedVariables false
set_option linter.unusedVariables false
set_option linter.unusedVariables false
set_option linter.unusedVariables false
set_option linter.unusedVariables false
end
section
namespace Go.Proofs.Ytobcdekochenfaa
open Go.RowKit
set_option linter.unusedVariables false
set_option linter.unusedSimpArgs false
attribute [local irreducible] deg invN dS qS stp quoP resP oneP
/-- monic, of a degree in 1..c -/
def monUp (c : Int) (f : Nat → Nat) : Bool := decide (1 ≤ deg f ∧ deg f ≤ c ∧ f (deg f).toNat = 1)
def monB (f : Nat → Nat) : Bool := decide (0 ≤ deg f ∧ f (deg f).toNat = 1)
theorem monUp_no1 {c : Int} {f : Nat → Nat} (h : ¬ 1 ≤ deg f) : monUp c f = false := by unfold monUp; simp; intro h2; omega
theorem monUp_no2 {c : Int} {f : Nat → Nat} (h : ¬ deg f ≤ c) : monUp c f = false := by unfold monUp; simp; intro _ h2; omega
theorem monUp_at {c : Int} {f : Nat → Nat} {m : Nat} (hm : deg f = (m : Int)) (h1 : 1 ≤ m) (h2 : (m : Int) ≤ c) : monUp c f = ((f m : Int) == 1) := by
 unfold monUp
 rw [hm, Int.toNat_natCast, Bool.eq_iff_iff]
 simp
 omega
theorem monB_no {f : Nat → Nat} (h : ¬ 0 ≤ deg f) : monB f = false := by unfold monB; simp; intro h2; omega
theorem monB_at {f : Nat → Nat} {m : Nat} (hm : deg f = (m : Int)) : monB f = ((f m : Int) == 1) := by
 unfold monB
 rw [hm, Int.toNat_natCast, Bool.eq_iff_iff]
 simp
 omega
theorem monUp_B {c : Int} {f : Nat → Nat} : monUp c f = (monB f && decide (1 ≤ deg f ∧ deg f ≤ c)) := by
 unfold monUp monB
 rw [Bool.eq_iff_iff]
 simp
 constructor
 · rintro ⟨a, b, c⟩; exact ⟨⟨by omega, c⟩, a, b⟩
 · rintro ⟨⟨a, b⟩, c, d⟩; exact ⟨c, d, b⟩
theorem mon_up {c : Int} {f : Nat → Nat} (h : monUp c f = true) : ∃ d : Nat, mon f d ∧ 1 ≤ d ∧ (d : Int) ≤ c := by
 unfold monUp at h
 simp at h
 obtain ⟨d, hd⟩ : ∃ d : Nat, deg f = (d : Int) := ⟨(deg f).toNat, by omega⟩
 refine ⟨d, ⟨hd, ?_⟩, by omega, by omega⟩
 have := h.2.2
 rwa [hd, Int.toNat_natCast] at this
set_option maxRecDepth 100000 in
set_option maxHeartbeats 400000 in
theorem isMonicUpTo_any (c : Int) (f : Nat → Nat) (hf : byte f) (w : World) (c1 : 0 ≤ c) (c2 : c ≤ 63) :
 Calls Try.prog 114 #[.int .i64 c, .agg (zb 64 f)] w fun e w' => e = .returned (.bool (monUp c f)) ∧ Below w.heap.size w w' := by
 obtain ⟨fb1, fb2⟩ := zdb f
 go_enter Try.func114, Try.ntmps114
 go_upto_region 1 with (fail)
 obtain ⟨W1, hwo⟩ : ∃ v : World, v = (w.alloc (.cells (zb 64 (f)) 23)) := ⟨_, rfl⟩
 have B0 : Blk W1 (w.heap.size) 64 23 (f) := by subst hwo; have := (Blk.new w 64 23 (f)); simpa using this
 have hb : Below w.heap.size w W1 := by subst hwo; exact ((Below.refl _ _).alloc (Nat.le_refl _) _)
 rw [← hwo]
 clear hwo
 go_upto_region 2 with (first | (refine zla (.tmp 3) B0 Try.underlying23 Try.size23 ?_) | (go_at_call 82; refine (degree_any f _).mono ?_; rintro e W2 ⟨rfl, hW2⟩; replace B0 := B0.zw hW2; replace hb := (hb).trans (hW2.mono (hb).size)))
 by_cases h1 : 1 ≤ deg f
 · by_cases h2 : deg f ≤ c
   · obtain ⟨m, hm⟩ : ∃ m : Nat, deg f = (m : Int) := ⟨(deg f).toNat, by omega⟩
     have HV := Lib.hid (monUp_at (c := c) hm (by omega) (by omega))
     rw [hm]
     have cc := B0.cell (i := m) (by omega)
     have hfm := hf m
     have g1 : (1 : Int) ≤ (m : Int) := by omega
     have g2 : (m : Int) ≤ c := by omega
     have g3 : m < 64 := by omega
     clear hm h1 h2
     go_wp2_with fail
     go_ret
     exact ⟨ret_bool HV.out.symm, hb⟩
   · have HV := Lib.hid (monUp_no2 (c := c) h2)
     have h3 : c < deg f := by omega
     clear h2
     go_wp2_with fail
     go_ret
     exact ⟨ret_bool HV.out.symm, hb⟩
 · have HV := Lib.hid (monUp_no1 (c := c) h1)
   have h3 : deg f < 1 := by omega
   clear h1
   go_wp2_with fail
   go_ret
   exact ⟨ret_bool HV.out.symm, hb⟩
set_option maxRecDepth 100000 in
theorem isModulus_any (f : Nat → Nat) (hf : byte f) (w : World) : Calls Try.prog 136 #[.agg (zb 64 f)] w fun e w' => e = .returned (.bool (monUp 5 f)) ∧ Below w.heap.size w w' := by
 go_enter Try.func136, Try.ntmps136
 go_upto_region 1 with (fail)
 obtain ⟨W1, hwo⟩ : ∃ v : World, v = (w.alloc (.cells (zb 64 (f)) 23)) := ⟨_, rfl⟩
 have B0 : Blk W1 (w.heap.size) 64 23 (f) := by subst hwo; have := (Blk.new w 64 23 (f)); simpa using this
 have hb : Below w.heap.size w W1 := by subst hwo; exact ((Below.refl _ _).alloc (Nat.le_refl _) _)
 rw [← hwo]
 clear hwo
 go_wp2_with (first | (refine zla (.tmp 1) B0 Try.underlying23 Try.size23 ?_) | (go_at_call 114; refine (isMonicUpTo_any 5 f hf _ (by omega) (by omega)).mono ?_; rintro e W2 ⟨rfl, hW2⟩; replace B0 := B0.zw hW2; replace hb := (hb).trans (hW2.mono (hb).size)))
 go_ret
 exact ⟨rfl, hb⟩
set_option maxRecDepth 100000 in
theorem l01Monic_any (f : Nat → Nat) (hf : byte f) (w : World) : Calls Try.prog 108 #[.agg (zb 64 f)] w fun e w' => e = .returned (.bool (monB f)) ∧ Below w.heap.size w w' := by
 obtain ⟨fb1, fb2⟩ := zdb f
 go_enter Try.func108, Try.ntmps108
 go_upto_region 1 with (fail)
 obtain ⟨W1, hwo⟩ : ∃ v : World, v = (w.alloc (.cells (zb 64 (f)) 23)) := ⟨_, rfl⟩
 have B0 : Blk W1 (w.heap.size) 64 23 (f) := by subst hwo; have := (Blk.new w 64 23 (f)); simpa using this
 have hb : Below w.heap.size w W1 := by subst hwo; exact ((Below.refl _ _).alloc (Nat.le_refl _) _)
 rw [← hwo]
 clear hwo
 go_upto_region 2 with (first | (refine zla (.tmp 1) B0 Try.underlying23 Try.size23 ?_) | (go_at_call 74; refine (l01Deg_any f _).mono ?_; rintro e W2 ⟨rfl, hW2⟩; replace B0 := B0.zw hW2; replace hb := (hb).trans (hW2.mono (hb).size)))
 by_cases h1 : 0 ≤ deg f
 · obtain ⟨m, hm⟩ : ∃ m : Nat, deg f = (m : Int) := ⟨(deg f).toNat, by omega⟩
   have HV := Lib.hid (monB_at hm)
   rw [hm]
   have cc := B0.cell (i := m) (by omega)
   have hfm := hf m
   have g3 : m < 64 := by omega
   clear hm h1
   go_wp2_with fail
   go_ret
   exact ⟨ret_bool HV.out.symm, hb⟩
 · have HV := Lib.hid (monB_no h1)
   have h3 : deg f < 0 := by omega
   clear h1
   go_wp2_with fail
   go_ret
   exact ⟨ret_bool HV.out.symm, hb⟩
/-- the code of a modulus and polynomials -/
def modV (p : Int) (m : Nat → Nat) (fs : List (Nat → Nat)) : Int := if codeL p [m] = 0 ∧ codeL p fs = 0 then (if monUp 5 m then 0 else 2) else 1
theorem modV_1 {p : Int} {m : Nat → Nat} {fs : List (Nat → Nat)} (h : codeL p [m] = 1) : modV p m fs = 1 := by
 unfold modV; rw [if_neg (fun h2 => by rw [h] at h2; exact absurd h2.1 (by decide))]
theorem modV_2 {p : Int} {m : Nat → Nat} {fs : List (Nat → Nat)} (h : codeL p fs = 1) : modV p m fs = 1 := by
 unfold modV; rw [if_neg (fun h2 => by rw [h] at h2; exact absurd h2.2 (by decide))]
theorem modV_3 {p : Int} {m : Nat → Nat} {fs : List (Nat → Nat)} (h1 : codeL p [m] = 0) (h2 : codeL p fs = 0) (h : monUp 5 m = false) : modV p m fs = 2 := by
 unfold modV; rw [if_pos ⟨h1, h2⟩, h]; rfl
theorem modV_0 {p : Int} {m : Nat → Nat} {fs : List (Nat → Nat)} (h1 : codeL p [m] = 0) (h2 : codeL p fs = 0) (h : monUp 5 m = true) : modV p m fs = 0 := by
 unfold modV; rw [if_pos ⟨h1, h2⟩, h]; rfl
end Go.Proofs.Ytobcdekochenfaa
end
section
namespace Go.Proofs.Ytobcdekochenfaa
open Go.RowKit
set_option linter.unusedVariables false
set_option linter.unusedSimpArgs false
attribute [local irreducible] deg invN dS qS stp quoP resP oneP
theorem modV_cases {p : Int} {m : Nat → Nat} {fs : List (Nat → Nat)} : (∃ c, modV p m fs = c ∧ c ≠ 0 ∧ (c = 1 ∨ c = 2)) ∨ (modV p m fs = 0 ∧ codeL p [m] = 0 ∧ codeL p fs = 0 ∧ monUp 5 m = true) := by
 rcases codeL_two p [m] with h1 | h1
 · rcases codeL_two p fs with h2 | h2
   · cases h : monUp 5 m with
     | false => exact .inl ⟨2, modV_3 h1 h2 h, by decide, .inr rfl⟩
     | true => exact .inr ⟨modV_0 h1 h2 h, h1, h2, rfl⟩
   · exact .inl ⟨1, modV_2 h2, by decide, .inl rfl⟩
 · exact .inl ⟨1, modV_1 h1, by decide, .inl rfl⟩
end Go.Proofs.Ytobcdekochenfaa
end
section
namespace Go.Proofs.Ytobcdekochenfaa
open Rg
set_option linter.unusedVariables false
set_option linter.unusedSimpArgs false
attribute [local irreducible] deg invN quoP resP prd
/-- the degree of a product -/
theorem prd_deg {p a b : Nat} {f g : Nat → Nat} (hp : p = 2 ∨ p = 3 ∨ p = 5 ∨ p = 7) (hf : ∀ k, k < 64 → f k < p) (hg : ∀ k, k < 64 → g k < p) (ha : deg f = (a : Int)) (hb : deg g = (b : Int)) (hab : a + b ≤ 63) : deg (prd p f g) = ((a + b : Nat) : Int) := by
 have hp0 : 0 < p := by omega
 have up : deg (prd p f g) ≤ ((a + b : Nat) : Int) := deg_le (by omega) (fun k h1 _ => prd_above hp0 (by rw [ha, hb]; omega))
 have h1 := prd_mz p f g (a + b)
 obtain ⟨a1, a2, a3⟩ := deg_top ha
 obtain ⟨b1, b2, b3⟩ := deg_top hb
 have h2 : (p : Int) ∣ mz (lz f) (lz g) (a + b) - lz f a * lz g (a + b - a) := cs_but (t := fun i => lz f i * lz g (a + b - i)) (a + b + 1) (by omega) (fun i hi hne => by
  by_cases h : a < i
  · rw [lz_above ha h, Int.zero_mul]; exact ⟨0, by simp⟩
  · rw [lz_above hb (show b < a + b - i by omega), Int.mul_zero]; exact ⟨0, by simp⟩)
 rw [show a + b - a = b by omega, show lz f a = (f a : Int) by unfold lz; rw [cut_in f a1], show lz g b = (g b : Int) by unfold lz; rw [cut_in g b1]] at h2
 have h3 : prd p f g (a + b) ≠ 0 := by
  intro h
  rw [h] at h1
  have h4 := Int.dvd_add h1 h2
  rw [show ((0 : Nat) : Int) - mz (lz f) (lz g) (a + b) + (mz (lz f) (lz g) (a + b) - (f a : Int) * (g b : Int)) = -((f a : Int) * (g b : Int)) by omega] at h4
  obtain ⟨i1, i2, i3, _⟩ := invF hp b2 (hg b b1)
  have h5 := dvd_unit (v := (invN p (g b) : Int)) (by
   have := mod_dvd p (invN p (g b) * g b)
   rw [i3] at this
   obtain ⟨x, hx⟩ := this
   rw [Int.natCast_mul] at hx
   exact ⟨-x, by rw [Int.mul_neg, Int.mul_comm (g b : Int)]; omega⟩) (Int.dvd_neg.1 h4)
  have := dvd_small h5 (by omega) (by have := hf a a1; omega)
  omega
 rcases deg_spec (prd p f g) with ⟨_, h5⟩ | ⟨j, hj, h4, _, h5⟩
 · exact absurd (h5 _ (by omega)) h3
 · by_cases h : j < a + b
   · exact absurd (h5 _ h (by omega)) h3
   · omega
end Go.Proofs.Ytobcdekochenfaa
end
section
namespace Go.Proofs.Ytobcdekochenfaa
open Go Go.RowKit
set_option linter.unusedVariables false
set_option linter.unusedSimpArgs false
theorem bsS_degm {p d e N : Nat} {m : Nat → Nat} (hp : p = 2 ∨ p = 3 ∨ p = 5 ∨ p = 7) (hm : ∀ k, k < 64 → m k < p) (hN : N ∈ monL p d) (he : deg m = (e : Int)) (he1 : 1 ≤ e) (hde : d + e ≤ 63) : deg (bsS p m oneP N) = ((d + e : Nat) : Int) := by
 have h1 := prd_deg hp (fun k _ => ofN_lt (p := p) (by omega) N k) hm (mon_ofN (by omega) (by omega) hN).1 he hde
 obtain ⟨t6, t0, tz⟩ := deg_top h1
 have e1 : ∀ k, k ≠ 0 → bsS p m oneP N k = prd p (ofN p N) m k := fun k hk => by
  show (prd p (ofN p N) m k + oneP k) % p = _
  rw [show oneP k = 0 by unfold oneP; rw [if_neg hk], Nat.add_zero, Nat.mod_eq_of_lt (prd_lt (by omega) k)]
 have a : deg (bsS p m oneP N) ≤ ((d + e : Nat) : Int) := deg_le (by omega) (fun k hk h6 => by
  rw [e1 k (by omega)]; exact tz k (by omega) h6)
 have b : ¬ deg (bsS p m oneP N) < ((d + e : Nat) : Int) := fun h => by
  have := zero_above h t6
  rw [e1 _ (by omega)] at this
  omega
 omega
end Go.Proofs.Ytobcdekochenfaa
end
section
namespace Go.Proofs.Ytobcdekochenfaa
open Go Go.RowKit Go.Shelf
set_option linter.unusedVariables false
set_option linter.unusedSimpArgs false
theorem bsL_any (p N : Nat) (m : Nat → Nat) (W : World) (p2 : 2 ≤ p) (p7 : p ≤ 7) : Calls Try.prog 79 #[.int .i64 (p : Int), .agg (zb 64 (prd p (ofN p N) m)), .agg (zb 64 (oneP)), .int .i64 1] W fun e w' => e = .returned (.agg (zb 64 (bsS p m oneP N))) ∧ Below W.heap.size W w' := by
 have h := l01Add_any p (prd p (ofN p N) m) oneP 1 W p2 p7 (by omega) (by omega) (fun k _ => prd_lt (by omega) k) (fun i _ => by unfold oneP; split <;> omega)
 rw [addK_one] at h
 exact h
attribute [local irreducible] deg invN quoP resP prd bsS smS exP pgR ofN oneP
end Go.Proofs.Ytobcdekochenfaa
end
section
namespace Go.Proofs.Ytobcdekochenfaa
open Go Go.RowKit
set_option linter.unusedVariables false
set_option linter.unusedSimpArgs false
set_option maxRecDepth 100000 in
set_option maxHeartbeats 800000 in
theorem checkPolys_nil (p : Int) (w : World) :
 Calls Try.prog 86 #[.int .i64 p, .slice none 0 0] w fun e w' => e = .returned (.int .i64 (codeL p [])) ∧ Below w.heap.size w w' := by
 cases hp : okP p with
 | false =>
  go_enter Try.func86, Try.ntmps86
  go_wp2_with (go_at_call 66; refine (isPrime_any _ _).mono ?_; rintro e w' ⟨rfl, rfl⟩)
  go_ret
  exact ⟨ret_int (codeL_p hp).symm, Below.refl _ _⟩
 | true =>
  go_enter Try.func86, Try.ntmps86
  go_wp2_with (go_at_call 66; refine (isPrime_any _ _).mono ?_; rintro e w' ⟨rfl, rfl⟩)
  go_loopw [12] (fun i wr => i = .int .i64 ((0 : Nat) : Int) ∧ Below w.heap.size w wr) (fun _ _ => 0)
  case atStart => exact ⟨rfl, Below.refl _ _⟩
  case round =>
   obtain ⟨rfl, hb⟩ := hrel
   go_wp2_with fail
   go_ret
   exact ⟨ret_int (codeL_ok hp fun j f hj => by simp at hj).symm, hb⟩
set_option maxRecDepth 100000 in
set_option maxHeartbeats 800000 in
theorem checkModulus_nil (p : Int) (m : Nat → Nat) (hmb : byte m) (w : World) :
 Calls Try.prog 81 #[.int .i64 p, .agg (zb 64 m), .slice none 0 0] w fun e w' => e = .returned (.int .i64 (modV p m [])) ∧ Below w.heap.size w w' := by
 obtain ⟨fb1, fb2⟩ := zdb m
 go_enter Try.func81, Try.ntmps81
 go_upto_region 1 with (fail)
 obtain ⟨W1, hwo⟩ : ∃ v : World, v = (w.alloc (.cells (zb 64 (m)) 23)) := ⟨_, rfl⟩
 have B0 : Blk W1 (w.heap.size) 64 23 (m) := by subst hwo; have := (Blk.new w 64 23 (m)); simpa using this
 have hb : Below w.heap.size w W1 := by subst hwo; exact ((Below.refl _ _).alloc (Nat.le_refl _) _)
 rw [← hwo]
 clear hwo
 rcases codeL_two p [m] with hc1 | hc1
 · rcases codeL_two p [] with hc2 | hc2
   · cases hm5 : monUp 5 m with
     | false =>
      have HV := Lib.hid (modV_3 hc1 hc2 hm5)
      go_upto_region 3 with (first | (refine zla (.tmp 4) B0 Try.underlying23 Try.size23 ?_) | (refine wpList_build_polys rfl 57 _ [m] rfl 23 rfl Try.underlying57 Try.elem23 (by simp) (by simp) rfl ?_; intro wa hwa hps hba; clear hwa) | (go_at_call 86; refine (checkPolys_any p [m] (by simp [hmb]) _ _ hps (by simp)).mono ?_; rintro e W2 ⟨rfl, hbb⟩; replace B0 := B0.below (hba.trans (hbb.mono hba.size)) B0.lt; replace hb := hb.trans ((hba.trans (hbb.mono hba.size)).mono hb.size); clear hps; rw [hc1]) | (go_at_call 86; refine (checkPolys_nil p _).mono ?_; rintro e W3 ⟨rfl, hb3⟩; replace B0 := B0.zw hb3; replace hb := hb.trans (hb3.mono hb.size); rw [hc2]))
      clear hba hbb hb3
      go_upto_region 4 with (first | (refine zla (.tmp 4) B0 Try.underlying23 Try.size23 ?_) | (go_at_call 136; refine (isModulus_any m hmb _).mono ?_; rintro e W2 ⟨rfl, hW2⟩; replace B0 := B0.zw hW2; replace hb := (hb).trans (hW2.mono (hb).size); rw [hm5]))
      go_wp2_with fail
      go_ret
      exact ⟨ret_int HV.out.symm, hb⟩
     | true =>
      have HV := Lib.hid (modV_0 hc1 hc2 hm5)
      go_upto_region 3 with (first | (refine zla (.tmp 4) B0 Try.underlying23 Try.size23 ?_) | (refine wpList_build_polys rfl 57 _ [m] rfl 23 rfl Try.underlying57 Try.elem23 (by simp) (by simp) rfl ?_; intro wa hwa hps hba; clear hwa) | (go_at_call 86; refine (checkPolys_any p [m] (by simp [hmb]) _ _ hps (by simp)).mono ?_; rintro e W2 ⟨rfl, hbb⟩; replace B0 := B0.below (hba.trans (hbb.mono hba.size)) B0.lt; replace hb := hb.trans ((hba.trans (hbb.mono hba.size)).mono hb.size); clear hps; rw [hc1]) | (go_at_call 86; refine (checkPolys_nil p _).mono ?_; rintro e W3 ⟨rfl, hb3⟩; replace B0 := B0.zw hb3; replace hb := hb.trans (hb3.mono hb.size); rw [hc2]))
      clear hba hbb hb3
      go_upto_region 5 with (first | (refine zla (.tmp 4) B0 Try.underlying23 Try.size23 ?_) | (go_at_call 136; refine (isModulus_any m hmb _).mono ?_; rintro e W2 ⟨rfl, hW2⟩; replace B0 := B0.zw hW2; replace hb := (hb).trans (hW2.mono (hb).size); rw [hm5]))
      go_wp2_with fail
      go_ret
      exact ⟨ret_int HV.out.symm, hb⟩
   · have HV := Lib.hid (modV_2 (m := m) hc2)
     go_upto_region 2 with (first | (refine zla (.tmp 4) B0 Try.underlying23 Try.size23 ?_) | (refine wpList_build_polys rfl 57 _ [m] rfl 23 rfl Try.underlying57 Try.elem23 (by simp) (by simp) rfl ?_; intro wa hwa hps hba; clear hwa) | (go_at_call 86; refine (checkPolys_any p [m] (by simp [hmb]) _ _ hps (by simp)).mono ?_; rintro e W2 ⟨rfl, hbb⟩; replace B0 := B0.below (hba.trans (hbb.mono hba.size)) B0.lt; replace hb := hb.trans ((hba.trans (hbb.mono hba.size)).mono hb.size); clear hps; rw [hc1]) | (go_at_call 86; refine (checkPolys_nil p _).mono ?_; rintro e W3 ⟨rfl, hb3⟩; replace B0 := B0.zw hb3; replace hb := hb.trans (hb3.mono hb.size); rw [hc2]))
     go_wp2_with fail
     go_ret
     exact ⟨ret_int HV.out.symm, hb⟩
 · have HV := Lib.hid (modV_1 (fs := []) hc1)
   go_upto_region 2 with (first | (refine zla (.tmp 4) B0 Try.underlying23 Try.size23 ?_) | (refine wpList_build_polys rfl 57 _ [m] rfl 23 rfl Try.underlying57 Try.elem23 (by simp) (by simp) rfl ?_; intro wa hwa hps hba; clear hwa) | (go_at_call 86; refine (checkPolys_any p [m] (by simp [hmb]) _ _ hps (by simp)).mono ?_; rintro e W2 ⟨rfl, hbb⟩; replace B0 := B0.below (hba.trans (hbb.mono hba.size)) B0.lt; replace hb := hb.trans ((hba.trans (hbb.mono hba.size)).mono hb.size); clear hps; rw [hc1]))
   go_wp2_with fail
   go_ret
   exact ⟨ret_int HV.out.symm, hb⟩
attribute [local irreducible] deg invN ofN resP
end Go.Proofs.Ytobcdekochenfaa
end
section
namespace Go.Proofs.Ytobcdekochenfaa
open Go Go.RowKit
set_option linter.unusedVariables false
set_option linter.unusedSimpArgs false
/-- the code of a modulus, a degree, and a power -/
def shC (p : Int) (m : Nat → Nat) (d k : Int) : Int := if modV p m [] = 0 then cdW p d k else modV p m []
theorem shC_m {p d k c : Int} {m : Nat → Nat} (h : modV p m [] = c) (h0 : c ≠ 0) : shC p m d k = c := by unfold shC; rw [h, if_neg h0]
theorem shC_d {p d k : Int} {m : Nat → Nat} (h : modV p m [] = 0) : shC p m d k = cdW p d k := by unfold shC; rw [if_pos h]
/-- both answers -/
def shV (p : Int) (m : Nat → Nat) (d k : Int) : (Nat → Nat) × Int := if shC p m d k = 0 then (if (d + deg m) * k ≤ 63 then (smS p.toNat m oneP k.toNat (monL p.toNat d.toNat), 0) else (fun _ => 0, 3)) else (fun _ => 0, shC p m d k)
theorem shV_c {p d k c : Int} {m : Nat → Nat} (h : shC p m d k = c) (h0 : c ≠ 0) : shV p m d k = (fun _ => 0, c) := by unfold shV; rw [h, if_neg h0]
theorem shV_3 {p d k : Int} {m : Nat → Nat} (h : shC p m d k = 0) (h2 : ¬ (d + deg m) * k ≤ 63) : shV p m d k = (fun _ => 0, 3) := by unfold shV; rw [if_pos h, if_neg h2]
theorem shV_0 {p d k : Nat} {m : Nat → Nat} (h : shC (p : Int) m (d : Int) (k : Int) = 0) (h2 : ((d : Int) + deg m) * (k : Int) ≤ 63) : shV (p : Int) m (d : Int) (k : Int) = (smS p m oneP k (monL p d), 0) := by
 unfold shV; rw [if_pos h, if_pos h2, Int.toNat_natCast, Int.toNat_natCast, Int.toNat_natCast]
theorem shC_cases {p d k : Int} {m : Nat → Nat} : (∃ c, shC p m d k = c ∧ c ≠ 0 ∧ (c = 1 ∨ c = 2)) ∨ (shC p m d k = 0 ∧ modV p m [] = 0 ∧ cdW p d k = 0) := by
 rcases modV_cases (p := p) (m := m) (fs := []) with ⟨c, hc, hc0, hc12⟩ | ⟨hc, _⟩
 · left; exact ⟨c, shC_m hc hc0, hc0, hc12⟩
 · rcases cdW_cases (p := p) (d := d) (k := k) with ⟨c, h2, hc0, hc12⟩ | ⟨h2, _⟩
   · left; exact ⟨c, by rw [shC_d hc, h2], hc0, hc12⟩
   · right; exact ⟨by rw [shC_d hc, h2], hc, h2⟩
attribute [local irreducible] deg pwT cdW pqW psV sdB xpB shC shV smS bsS exP prd ofN oneP modV monL
set_option maxRecDepth 100000 in
set_option maxHeartbeats 3200000 in
theorem l08Monic_one (p : Int) (m : Nat → Nat) (hmb : byte m) (d k : Int) (b : Nat) (w : World) (B0 : One w b 2 (.int .i64 k)) :
 Calls Try.prog 73 #[.int .i64 p, .agg (zb 64 m), .int .i64 d, .slice (some ⟨b, 0, none⟩) 1 1] w fun e w' => e = .returned (.int .i64 (shC p m d k)) ∧ Below w.heap.size w w' := by
 obtain ⟨fb1, fb2⟩ := zdb m
 have zx_0 := B0.lt
 go_enter Try.func73, Try.ntmps73
 go_upto_region 1 with (fail)
 obtain ⟨W1, hwo⟩ : ∃ v : World, v = (w.alloc (.cells (zb 64 (m)) 23)) := ⟨_, rfl⟩
 have B1 : Blk W1 (w.heap.size) 64 23 (m) := by subst hwo; have := (Blk.new w 64 23 (m)); simpa using this
 replace B0 : One W1 (b) 2 (.int .i64 k) := by subst hwo; exact (B0.alloc (.cells (zb 64 (m)) 23))
 have hb : Below w.heap.size w W1 := by subst hwo; exact ((Below.refl _ _).alloc (Nat.le_refl _) _)
 rw [← hwo]
 clear hwo
 rcases codeL_two p [m] with hc1 | hc1
 · have hc2 : codeL p [] = 0 := codeL_ok (codeL_zero hc1).1 (fun j f hj => by simp at hj)
   cases hm5 : monUp 5 m with
   | false =>
    have HV := Lib.hid (shC_m (d := d) (k := k) (modV_3 hc1 hc2 hm5) (by decide))
    cases hmo : monB m with
    | false =>
     go_upto_region 3 with (first | (refine zla (.tmp 5) B1 Try.underlying23 Try.size23 ?_) | (refine wpList_build_polys rfl 57 _ [m] rfl 23 rfl Try.underlying57 Try.elem23 (by simp) (by simp) rfl ?_; intro wa hwa hps hba; clear hwa) | (go_at_call 84; refine (l01Code_any p [m] (by simp [hmb]) _ _ hps (by simp)).mono ?_; rintro e W2 ⟨rfl, hbb⟩; rw [hc1]))
     have hBB : Below W1.heap.size W1 W2 := hba.trans (hbb.mono hba.size)
     replace B0 := B0.zw hBB
     replace B1 := B1.zw hBB
     replace hb := hb.trans (hBB.mono hb.size)
     clear hBB hba hbb hps
     go_upto_region 4 with (first | (refine zla (.tmp 5) B1 Try.underlying23 Try.size23 ?_) | (go_at_call 108; refine (l01Monic_any m hmb _).mono ?_; rintro e W3 ⟨rfl, hW3⟩; replace B0 := B0.zw hW3; replace B1 := B1.zw hW3; replace hb := (hb).trans (hW3.mono (hb).size); rw [hmo]))
     go_wp2_with fail
     go_ret
     exact ⟨ret_int HV.out.symm, hb⟩
    | true =>
     have hr : ¬ (1 ≤ deg m ∧ deg m ≤ 5) := by intro h; rw [monUp_B, hmo] at hm5; simp at hm5; omega
     go_upto_region 3 with (first | (refine zla (.tmp 5) B1 Try.underlying23 Try.size23 ?_) | (refine wpList_build_polys rfl 57 _ [m] rfl 23 rfl Try.underlying57 Try.elem23 (by simp) (by simp) rfl ?_; intro wa hwa hps hba; clear hwa) | (go_at_call 84; refine (l01Code_any p [m] (by simp [hmb]) _ _ hps (by simp)).mono ?_; rintro e W2 ⟨rfl, hbb⟩; rw [hc1]))
     have hBB : Below W1.heap.size W1 W2 := hba.trans (hbb.mono hba.size)
     replace B0 := B0.zw hBB
     replace B1 := B1.zw hBB
     replace hb := hb.trans (hBB.mono hb.size)
     clear hBB hba hbb hps
     go_upto_region 4 with (first | (refine zla (.tmp 5) B1 Try.underlying23 Try.size23 ?_) | (go_at_call 108; refine (l01Monic_any m hmb _).mono ?_; rintro e W3 ⟨rfl, hW3⟩; replace B0 := B0.zw hW3; replace B1 := B1.zw hW3; replace hb := (hb).trans (hW3.mono (hb).size); rw [hmo]) | (refine zlg rfl 23 (.tmp 5) rfl _ rfl 64 23 _ (B1) _ Try.underlying23 rfl Try.size23 ?_) | (go_at_call 74; refine (l01Deg_any m _).mono ?_; rintro e W4 ⟨rfl, hW4⟩; replace B0 := B0.zw hW4; replace B1 := B1.zw hW4; replace hb := (hb).trans (hW4.mono (hb).size)) | (go_at_call 85; refine (l01In_no (deg m) 1 5 hr _).mono ?_; rintro e wS ⟨rfl, rfl⟩))
     go_wp2_with fail
     go_ret
     exact ⟨ret_int HV.out.symm, hb⟩
   | true =>
    have HV := Lib.hid (shC_d (d := d) (k := k) (modV_0 hc1 hc2 hm5))
    have hmo : monB m = true := by cases h : monB m with | true => rfl | false => rw [monUp_B, h] at hm5; simp at hm5
    have hr : 1 ≤ deg m ∧ deg m ≤ 5 := by rw [monUp_B, hmo] at hm5; simpa using hm5
    go_upto_region 3 with (first | (refine zla (.tmp 5) B1 Try.underlying23 Try.size23 ?_) | (refine wpList_build_polys rfl 57 _ [m] rfl 23 rfl Try.underlying57 Try.elem23 (by simp) (by simp) rfl ?_; intro wa hwa hps hba; clear hwa) | (go_at_call 84; refine (l01Code_any p [m] (by simp [hmb]) _ _ hps (by simp)).mono ?_; rintro e W2 ⟨rfl, hbb⟩; rw [hc1]))
    have hBB : Below W1.heap.size W1 W2 := hba.trans (hbb.mono hba.size)
    replace B0 := B0.zw hBB
    replace B1 := B1.zw hBB
    replace hb := hb.trans (hBB.mono hb.size)
    clear hBB hba hbb hps
    go_upto_region 5 with (first | (refine zla (.tmp 5) B1 Try.underlying23 Try.size23 ?_) | (go_at_call 108; refine (l01Monic_any m hmb _).mono ?_; rintro e W3 ⟨rfl, hW3⟩; replace B0 := B0.zw hW3; replace B1 := B1.zw hW3; replace hb := (hb).trans (hW3.mono (hb).size); rw [hmo]) | (refine zlg rfl 23 (.tmp 5) rfl _ rfl 64 23 _ (B1) _ Try.underlying23 rfl Try.size23 ?_) | (go_at_call 74; refine (l01Deg_any m _).mono ?_; rintro e W4 ⟨rfl, hW4⟩; replace B0 := B0.zw hW4; replace B1 := B1.zw hW4; replace hb := (hb).trans (hW4.mono (hb).size)) | (go_at_call 85; refine (l01In_yes (deg m) 1 5 hr _).mono ?_; rintro e wS ⟨rfl, rfl⟩))
    go_wp2_with (go_at_call 64; refine (l08Code_one p d k _ _ B0).mono ?_; rintro e wS ⟨rfl, rfl⟩)
    go_ret
    exact ⟨ret_int HV.out.symm, hb⟩
 · have HV := Lib.hid (shC_m (d := d) (k := k) (modV_1 (fs := []) hc1) (by decide))
   go_upto_region 2 with (first | (refine zla (.tmp 5) B1 Try.underlying23 Try.size23 ?_) | (refine wpList_build_polys rfl 57 _ [m] rfl 23 rfl Try.underlying57 Try.elem23 (by simp) (by simp) rfl ?_; intro wa hwa hps hba; clear hwa) | (go_at_call 84; refine (l01Code_any p [m] (by simp [hmb]) _ _ hps (by simp)).mono ?_; rintro e W2 ⟨rfl, hbb⟩; rw [hc1]))
   have hBB : Below W1.heap.size W1 W2 := hba.trans (hbb.mono hba.size)
   replace B0 := B0.zw hBB
   replace B1 := B1.zw hBB
   replace hb := hb.trans (hBB.mono hb.size)
   clear hBB hba hbb hps
   go_wp2_with fail
   go_ret
   exact ⟨ret_int HV.out.symm, hb⟩
set_option maxRecDepth 100000 in
set_option maxHeartbeats 3200000 in
theorem impl_ShiftedSum_any (p : Int) (m : Nat → Nat) (d k : Int) (hm : byte m) (w : World) :
 Calls Try.prog 26 #[.int .i64 p, .agg (zb 64 m), .int .i64 d, .int .i64 k] w fun e w' => e = .returned (.tuple #[.agg (zb 64 (shV p m d k).1), .int .i64 (shV p m d k).2]) ∧ Below w.heap.size w w' := by
 obtain ⟨fb1, fb2⟩ := zdb m
 go_enter Try.func26, Try.ntmps26
 go_upto_region 1 with (fail)
 rw [← z64]
 obtain ⟨W1, hwo⟩ : ∃ v : World, v = ((w.alloc (.cells (zb 64 (m)) 23)).alloc (.cells (zb 64 (fun _ => 0)) 23)) := ⟨_, rfl⟩
 have B0 : Blk W1 (w.heap.size) 64 23 (m) := by subst hwo; have := ((Blk.new w 64 23 (m)).alloc (.cells (zb 64 (fun _ => 0)) 23)); simpa using this
 have B1 : Blk W1 (w.heap.size + 1) 64 23 (fun _ => 0) := by subst hwo; have := (Blk.new (w.alloc (.cells (zb 64 (m)) 23)) 64 23 (fun _ => 0)); simpa using this
 have hb : Below w.heap.size w W1 := by subst hwo; exact (((Below.refl _ _).alloc (Nat.le_refl _) _).alloc (by simp) _)
 rw [← hwo]
 clear hwo
 go_upto_region 2 with (first | (refine zla (.tmp 5) B0 Try.underlying23 Try.size23 ?_) | (go_at_call 81; refine (checkModulus_nil p m hm _).mono ?_; rintro e W2 ⟨rfl, hW2⟩; replace B0 := B0.zw hW2; replace B1 := B1.zw hW2; replace hb := (hb).trans (hW2.mono (hb).size)))
 rcases modV_cases (p := p) (m := m) (fs := []) with ⟨c, hc, hc0, hc12⟩ | ⟨hc, hcm, hcf, hm5⟩
 · have HV := Lib.hid (shV_c (d := d) (k := k) (shC_m hc hc0) hc0)
   rw [hc]
   clear hc
   have hb1 : ((c : Int) != 0) = true := by simp [hc0]
   go_upto_region 3 with (fail)
   have lt_B0 := B0.lt
   have lt_B1 := B1.lt
   go_wp2_with (first | rw [← z64] | (refine zsr (.tmp 8) (.tmp 16) (fun _ => 0) B1 Try.size23 ?_; try simp only [Act.put]; go_wp2_with fail))
   obtain ⟨W3, hwo, hzQ⟩ : ∃ v : World, v = (W2.setRow (w.heap.size + 1) (zb 64 (fun _ => 0))) ∧ Blk v (w.heap.size) 64 23 (m) ∧ Blk v (w.heap.size + 1) 64 23 (fun _ => 0) ∧ Below w.heap.size w v := ⟨_, rfl, (B0.rowOther (by omega)), (B1.row (fun _ => 0)), (zr hb (by omega) _)⟩
   rw [← hwo]
   clear hwo B0 B1 hb
   obtain ⟨B0, B1, hb⟩ := hzQ
   try simp only [Act.put, pA, pB, pC]
   refine bodyPost_ret (results_bt rfl _ _ _ 64 23 5 _ rfl B1 Try.underlying23 Try.size23) rfl ⟨by first | (rw [HV.out]; rfl) | rw [HV.out], hb⟩
 · obtain ⟨n, hn, n2, n7⟩ := okP_nat (codeL_zero hcm).1
   subst hn
   have lm := lt_of_code hcm (f := m) (by simp)
   have hpr := prime_of hcm
   have hp := (codeL_zero hcm).1
   have hSC := shC_d (d := d) (k := k) hc
   rw [hc]
   cases hs : sdB (n : Int) d with
   | false =>
    have HS := Lib.hid hs
    have HV := Lib.hid (shV_c (hSC.trans (cdW_2 (k := k) hp (d := d) (by rw [hs]; simp))) (by decide))
    clear hp hs hc hSC
    go_upto_region 4 with (fail)
    go_upto_region 5 with (first | (go_at_call 67; refine (isSummed_any n _ _ n2 n7).mono ?_; rintro e wS ⟨rfl, rfl⟩; rw [HS.out]))
    have lt_B0 := B0.lt
    have lt_B1 := B1.lt
    go_wp2_with (first | rw [← z64] | (refine zsr (.tmp 8) (.tmp 27) (fun _ => 0) B1 Try.size23 ?_; try simp only [Act.put]; go_wp2_with fail))
    obtain ⟨W3, hwo, hzQ⟩ : ∃ v : World, v = (W2.setRow (w.heap.size + 1) (zb 64 (fun _ => 0))) ∧ Blk v (w.heap.size) 64 23 (m) ∧ Blk v (w.heap.size + 1) 64 23 (fun _ => 0) ∧ Below w.heap.size w v := ⟨_, rfl, (B0.rowOther (by omega)), (B1.row (fun _ => 0)), (zr hb (by omega) _)⟩
    rw [← hwo]
    clear hwo B0 B1 hb
    obtain ⟨B0, B1, hb⟩ := hzQ
    try simp only [Act.put, pA, pB, pC]
    refine bodyPost_ret (results_bt rfl _ _ _ 64 23 5 _ rfl B1 Try.underlying23 Try.size23) rfl ⟨by first | (rw [HV.out]; rfl) | rw [HV.out], hb⟩
   | true =>
    have HS := Lib.hid hs
    obtain ⟨d, rfl, hd8, hq3⟩ := sdB_yes hs
    cases hx : xpB k with
    | false =>
     have HX := Lib.hid hx
     have HV := Lib.hid (shV_c (hSC.trans (cdW_2 (k := k) hp (d := (d : Int)) (by rw [hx]; simp))) (by decide))
     clear hp hs hx hc hSC
     go_upto_region 4 with (fail)
     go_upto_region 5 with (first | (go_at_call 67; refine (isSummed_any n _ _ n2 n7).mono ?_; rintro e wS ⟨rfl, rfl⟩; rw [HS.out]) | (go_at_call 68; refine (isExponent_any _ _).mono ?_; rintro e wS ⟨rfl, rfl⟩; rw [HX.out]))
     have lt_B0 := B0.lt
     have lt_B1 := B1.lt
     go_wp2_with (first | rw [← z64] | (refine zsr (.tmp 8) (.tmp 27) (fun _ => 0) B1 Try.size23 ?_; try simp only [Act.put]; go_wp2_with fail))
     obtain ⟨W3, hwo, hzQ⟩ : ∃ v : World, v = (W2.setRow (w.heap.size + 1) (zb 64 (fun _ => 0))) ∧ Blk v (w.heap.size) 64 23 (m) ∧ Blk v (w.heap.size + 1) 64 23 (fun _ => 0) ∧ Below w.heap.size w v := ⟨_, rfl, (B0.rowOther (by omega)), (B1.row (fun _ => 0)), (zr hb (by omega) _)⟩
     rw [← hwo]
     clear hwo B0 B1 hb
     obtain ⟨B0, B1, hb⟩ := hzQ
     try simp only [Act.put, pA, pB, pC]
     refine bodyPost_ret (results_bt rfl _ _ _ 64 23 5 _ rfl B1 Try.underlying23 Try.size23) rfl ⟨by first | (rw [HV.out]; rfl) | rw [HV.out], hb⟩
    | true =>
     have HX := Lib.hid hx
     have hc2 := hSC.trans (cdW_0 hp hs hx)
     obtain ⟨k, rfl, hk40⟩ := xpB_yes hx
     clear hx hs hp hc hSC
     obtain ⟨e, hmon, he1, he5⟩ := mon_up hm5
     have hde := hmon.1
     have mb0 : (0 : Int) ≤ ((d : Int) + deg m) * (k : Int) := Int.mul_nonneg (by omega) (by omega)
     have mb1 : ((d : Int) + deg m) * (k : Int) ≤ 520 := by
      have h1 := Nat.mul_le_mul (show d + e ≤ 13 by omega) hk40
      have h2 : (((d + e) * k : Nat) : Int) = ((d : Int) + deg m) * (k : Int) := by rw [hde]; push_cast; rfl
      omega
     have hdek : ((d : Int) + deg m) * (k : Int) ≤ 63 ↔ (d + e) * k ≤ 63 := by
      have h2 : (((d + e) * k : Nat) : Int) = ((d : Int) + deg m) * (k : Int) := by rw [hde]; push_cast; rfl
      omega
     by_cases hlim : ((d : Int) + deg m) * (k : Int) ≤ 63
     · have HV := Lib.hid (shV_0 hc2 hlim)
       have HSP := Lib.hid (fun W => sumOfPowers_any n d k m oneP W hpr lm (fun i _ => by unfold oneP; split <;> omega) hd8 hk40 (fun N hN => ⟨d + e, bsS_degm hpr lm hN hde he1 (by omega), hdek.1 hlim⟩))
       have h2 : ¬ 63 < ((d : Int) + deg m) * (k : Int) := by omega
       clear hc2 hlim hdek hde hmon
       go_upto_region 4 with (fail)
       go_upto_region 6 with (first | (go_at_call 67; refine (isSummed_any n _ _ n2 n7).mono ?_; rintro e wS ⟨rfl, rfl⟩; rw [HS.out]) | (go_at_call 68; refine (isExponent_any _ _).mono ?_; rintro e wS ⟨rfl, rfl⟩; rw [HX.out]))
       go_upto_region 8 with (first | (refine zla (.tmp 5) B0 Try.underlying23 Try.size23 ?_) | (go_at_call 82; refine (degree_any m _).mono ?_; rintro e W3 ⟨rfl, hW3⟩; replace B0 := B0.zw hW3; replace B1 := B1.zw hW3; replace hb := (hb).trans (hW3.mono (hb).size)))
       have lt_B0 := B0.lt
       have lt_B1 := B1.lt
       go_wp2_with (first | rw [← z64] | (refine zla (.tmp 5) B0 Try.underlying23 Try.size23 ?_) | (refine zbo rfl 23 _ rfl (zb 64 oneP) (by rw [Array.toList_map]; exact built_one) ?_) | (go_at_call 83; refine (HSP.out _).mono ?_; rintro e W4 ⟨rfl, hW4⟩; replace B0 := B0.zw hW4; replace B1 := B1.zw hW4; replace hb := (hb).trans (hW4.mono (hb).size)) | (refine zsr (.tmp 8) (.tmp 41) (smS n m oneP k (monL n d)) B1 Try.size23 ?_; try simp only [Act.put]; go_wp2_with fail))
       obtain ⟨W5, hwo, hzQ⟩ : ∃ v : World, v = (W4.setRow (w.heap.size + 1) (zb 64 (smS n m oneP k (monL n d)))) ∧ Blk v (w.heap.size) 64 23 (m) ∧ Blk v (w.heap.size + 1) 64 23 (smS n m oneP k (monL n d)) ∧ Below w.heap.size w v := ⟨_, rfl, (B0.rowOther (by omega)), (B1.row (smS n m oneP k (monL n d))), (zr hb (by omega) _)⟩
       rw [← hwo]
       clear hwo B0 B1 hb
       obtain ⟨B0, B1, hb⟩ := hzQ
       try simp only [Act.put, pA, pB, pC]
       refine bodyPost_ret (results_bt rfl _ _ _ 64 23 5 _ rfl B1 Try.underlying23 Try.size23) rfl ⟨by first | (rw [HV.out]; rfl) | rw [HV.out], hb⟩
     · have HV := Lib.hid (shV_3 hc2 hlim)
       have h2 : 63 < ((d : Int) + deg m) * (k : Int) := by omega
       clear hc2 hlim hdek hde hmon
       go_upto_region 4 with (fail)
       go_upto_region 6 with (first | (go_at_call 67; refine (isSummed_any n _ _ n2 n7).mono ?_; rintro e wS ⟨rfl, rfl⟩; rw [HS.out]) | (go_at_call 68; refine (isExponent_any _ _).mono ?_; rintro e wS ⟨rfl, rfl⟩; rw [HX.out]))
       go_upto_region 7 with (first | (refine zla (.tmp 5) B0 Try.underlying23 Try.size23 ?_) | (go_at_call 82; refine (degree_any m _).mono ?_; rintro e W3 ⟨rfl, hW3⟩; replace B0 := B0.zw hW3; replace B1 := B1.zw hW3; replace hb := (hb).trans (hW3.mono (hb).size)))
       have lt_B0 := B0.lt
       have lt_B1 := B1.lt
       go_wp2_with (first | rw [← z64] | (refine zsr (.tmp 8) (.tmp 35) (fun _ => 0) B1 Try.size23 ?_; try simp only [Act.put]; go_wp2_with fail))
       obtain ⟨W4, hwo, hzQ⟩ : ∃ v : World, v = (W3.setRow (w.heap.size + 1) (zb 64 (fun _ => 0))) ∧ Blk v (w.heap.size) 64 23 (m) ∧ Blk v (w.heap.size + 1) 64 23 (fun _ => 0) ∧ Below w.heap.size w v := ⟨_, rfl, (B0.rowOther (by omega)), (B1.row (fun _ => 0)), (zr hb (by omega) _)⟩
       rw [← hwo]
       clear hwo B0 B1 hb
       obtain ⟨B0, B1, hb⟩ := hzQ
       try simp only [Act.put, pA, pB, pC]
       refine bodyPost_ret (results_bt rfl _ _ _ 64 23 5 _ rfl B1 Try.underlying23 Try.size23) rfl ⟨by first | (rw [HV.out]; rfl) | rw [HV.out], hb⟩
set_option maxRecDepth 100000 in
set_option maxHeartbeats 3200000 in
theorem spec_ShiftedSum_any (p : Int) (m : Nat → Nat) (d k : Int) (hm : byte m) (w : World) :
 Calls Try.prog 24 #[.int .i64 p, .agg (zb 64 m), .int .i64 d, .int .i64 k] w fun e w' => e = .returned (.tuple #[.agg (zb 64 (shV p m d k).1), .int .i64 (shV p m d k).2]) ∧ Below w.heap.size w w' := by
 obtain ⟨fb1, fb2⟩ := zdb m
 go_enter Try.func24, Try.ntmps24
 go_upto_region 1 with (fail)
 rw [← z64]
 obtain ⟨W1, hwo⟩ : ∃ v : World, v = ((w.alloc (.cells (zb 64 (m)) 23)).alloc (.cells (zb 64 (fun _ => 0)) 23)) := ⟨_, rfl⟩
 have B0 : Blk W1 (w.heap.size) 64 23 (m) := by subst hwo; have := ((Blk.new w 64 23 (m)).alloc (.cells (zb 64 (fun _ => 0)) 23)); simpa using this
 have B1 : Blk W1 (w.heap.size + 1) 64 23 (fun _ => 0) := by subst hwo; have := (Blk.new (w.alloc (.cells (zb 64 (m)) 23)) 64 23 (fun _ => 0)); simpa using this
 have hb : Below w.heap.size w W1 := by subst hwo; exact (((Below.refl _ _).alloc (Nat.le_refl _) _).alloc (by simp) _)
 rw [← hwo]
 clear hwo
 rcases shC_cases (p := p) (m := m) (d := d) (k := k) with ⟨c, hc, hc0, hc12⟩ | ⟨hc, hmV, hcd⟩
 · have HV := Lib.hid (shV_c hc hc0)
   have hb1 : ((c : Int) != 0) = true := by simp [hc0]
   go_upto_region 2 with (first | (refine zla (.tmp 5) B0 Try.underlying23 Try.size23 ?_) | (refine wpList_buildI rfl 42 _ k rfl 2 Try.underlying42 Try.elemInt rfl ?_; intro W2 hps hba; replace B0 := B0.zw hba; replace B1 := B1.zw hba; replace hb := hb.trans (hba.mono hb.size)) | (go_at_call 73; refine (l08Monic_one p m hm d k _ _ (row_one hps)).mono ?_; rintro e W3 ⟨rfl, hbc⟩; replace B0 := B0.zw hbc; replace B1 := B1.zw hbc; replace hb := hb.trans (hbc.mono hb.size); rw [hc]))
   clear hps hba hbc
   clear hc
   go_upto_region 3 with (fail)
   have lt_B0 := B0.lt
   have lt_B1 := B1.lt
   go_wp2_with (first | rw [← z64] | (refine zsr (.tmp 8) (.tmp 25) (fun _ => 0) B1 Try.size23 ?_; try simp only [Act.put]; go_wp2_with fail))
   obtain ⟨W4, hwo, hzQ⟩ : ∃ v : World, v = (W3.setRow (w.heap.size + 1) (zb 64 (fun _ => 0))) ∧ Blk v (w.heap.size) 64 23 (m) ∧ Blk v (w.heap.size + 1) 64 23 (fun _ => 0) ∧ Below w.heap.size w v := ⟨_, rfl, (B0.rowOther (by omega)), (B1.row (fun _ => 0)), (zr hb (by omega) _)⟩
   rw [← hwo]
   clear hwo B0 B1 hb
   obtain ⟨B0, B1, hb⟩ := hzQ
   try simp only [Act.put, pA, pB, pC]
   refine bodyPost_ret (results_bt rfl _ _ _ 64 23 5 _ rfl B1 Try.underlying23 Try.size23) rfl ⟨by first | (rw [HV.out]; rfl) | rw [HV.out], hb⟩
 · rcases modV_cases (p := p) (m := m) (fs := []) with ⟨c, hc3, hc0, _⟩ | ⟨_, hcm, hcf, hm5⟩
   · omega
   rcases cdW_cases (p := p) (d := d) (k := k) with ⟨c, hc3, hc0, _⟩ | ⟨_, _, hs, hx⟩
   · omega
   obtain ⟨n, hn, n2, n7⟩ := okP_nat (codeL_zero hcm).1
   subst hn
   have lm := lt_of_code hcm (f := m) (by simp)
   have hpr := prime_of hcm
   have hp := (codeL_zero hcm).1
   obtain ⟨d, rfl, hd8, hq3⟩ := sdB_yes hs
   obtain ⟨k, rfl, hk40⟩ := xpB_yes hx
   clear hx hs hp hmV hcd
   obtain ⟨e, hmon, he1, he5⟩ := mon_up hm5
   have hde := hmon.1
   have mb0 : (0 : Int) ≤ ((d : Int) + deg m) * (k : Int) := Int.mul_nonneg (by omega) (by omega)
   have mb1 : ((d : Int) + deg m) * (k : Int) ≤ 520 := by
    have h1 := Nat.mul_le_mul (show d + e ≤ 13 by omega) hk40
    have h2 : (((d + e) * k : Nat) : Int) = ((d : Int) + deg m) * (k : Int) := by rw [hde]; push_cast; rfl
    omega
   have hdek : ((d : Int) + deg m) * (k : Int) ≤ 63 ↔ (d + e) * k ≤ 63 := by
    have h2 : (((d + e) * k : Nat) : Int) = ((d : Int) + deg m) * (k : Int) := by rw [hde]; push_cast; rfl
    omega
   by_cases hlim : ((d : Int) + deg m) * (k : Int) ≤ 63
   · have HV := Lib.hid (shV_0 hc hlim)
     have hek := hdek.1 hlim
     have h2 : ¬ 63 < ((d : Int) + deg m) * (k : Int) := by omega
     have HDM := Lib.hid hde
     clear hdek hlim hde hmon
     go_upto_region 2 with (first | (refine zla (.tmp 5) B0 Try.underlying23 Try.size23 ?_) | (refine wpList_buildI rfl 42 _ (k : Int) rfl 2 Try.underlying42 Try.elemInt rfl ?_; intro W2 hps hba; replace B0 := B0.zw hba; replace B1 := B1.zw hba; replace hb := hb.trans (hba.mono hb.size)) | (go_at_call 73; refine (l08Monic_one (n : Int) m hm (d : Int) (k : Int) _ _ (row_one hps)).mono ?_; rintro e W3 ⟨rfl, hbc⟩; replace B0 := B0.zw hbc; replace B1 := B1.zw hbc; replace hb := hb.trans (hbc.mono hb.size); rw [hc]))
     clear hps hba hbc
     clear hc
     go_upto_region 4 with (fail)
     go_upto_region 6 with (first | (refine zla (.tmp 5) B0 Try.underlying23 Try.size23 ?_) | (go_at_call 74; refine (l01Deg_any m _).mono ?_; rintro e W4 ⟨rfl, hW4⟩; replace B0 := B0.zw hW4; replace B1 := B1.zw hW4; replace hb := (hb).trans (hW4.mono (hb).size)))
     obtain ⟨Q, hQ⟩ : ∃ Q, Q = n ^ d := ⟨_, rfl⟩
     have HC := Lib.hid (fun W => l01Count_any n d W n2 n7 (by omega))
     have HP0 := Lib.hid (show smS n m oneP k (monL n d) = smS n m oneP k (List.range' Q Q) by rw [hQ]; unfold monL; rfl)
     rw [← hQ] at HC hq3
     have HMM := Lib.hid (show ∀ j, j < Q → Q + j ∈ monL n d from fun j hj => by unfold monL; rw [List.mem_range'_1, ← hQ]; omega)
     have H2Q := Lib.hid (show (2 : Int) * (Q : Int) = ((Q + Q : Nat) : Int) by omega)
     clear hQ h2 mb0 mb1
     have lt_B0 := B0.lt
     have lt_B1 := B1.lt
     go_upto_region 7 with (first | rw [← z64] | (refine wpList_store_blk rfl 23 (.tmp 11) (.tmp 35) rfl _ 64 (fun _ => 0) rfl rfl 23 _ ((Blk.new W4 64 23 (fun _ => 0))) Try.size23 ?_; try simp only [Act.put]))
     have lt_B0 := B0.lt
     have lt_B1 := B1.lt
     have lhb := hb.size
     obtain ⟨W5, hwo, hzQ⟩ : ∃ v : World, v = ((W4.alloc (.cells (zb 64 (fun _ => 0)) 23)).setRow (W4.heap.size) (zb 64 (fun _ => 0))) ∧ Blk v (w.heap.size) 64 23 (m) ∧ Blk v (w.heap.size + 1) 64 23 (fun _ => 0) ∧ Blk v (W4.heap.size) 64 23 (fun _ => 0) ∧ Below w.heap.size w v := ⟨_, rfl, ((B0.alloc (.cells (zb 64 (fun _ => 0)) 23)).rowOther (by omega)), ((B1.alloc (.cells (zb 64 (fun _ => 0)) 23)).rowOther (by omega)), ((Blk.new W4 64 23 (fun _ => 0)).row (fun _ => 0)), (zr (hb.alloc (by have := hb.size; simp; omega) (.cells (zb 64 (fun _ => 0)) 23)) (by omega) _)⟩
     rw [← hwo]
     clear hwo B0 B1 hb
     obtain ⟨B0, B1, B2, hb⟩ := hzQ
     obtain ⟨N1, hNN⟩ : ∃ n : Nat, n = W4.heap.size := ⟨_, rfl⟩
     rw [← hNN] at lt_B0 lt_B1 lhb B2 ⊢
     clear hNN
     have zN1_0 := lt_B0
     have zN1_1 := lt_B1
     have zN1 := lhb
     clear lt_B0 lt_B1 lhb
     try simp only [Act.put, pA, pB, pC]
     go_wp2_with (first | (go_at_call 75; refine (HC.out _).mono ?_; rintro e wS ⟨rfl, rfl⟩))
     go_loopw [12] (fun i wr => ∃ j : Nat, j ≤ Q ∧ i = .int .i64 ((Q + j : Nat) : Int) ∧ Below w.heap.size w wr ∧ Blk wr (w.heap.size) 64 23 (m) ∧ Blk wr (w.heap.size + 1) 64 23 (fun _ => 0) ∧ Blk wr (N1) 64 23 (smS n m oneP k (List.range' Q j))) (fun i _ => Q + Q - (intOf i).toNat)
     case atStart => exact ⟨0, Nat.zero_le _, by rw [Nat.add_zero], hb, B0, B1, by rw [show List.range' Q 0 = [] from rfl, smS_nil]; exact B2⟩
     case round =>
      clear hb B0 B1 B2
      obtain ⟨j, hj, rfl, hb, B0, B1, B2⟩ := hrel
      by_cases hjQ : j < Q
      · obtain ⟨N, hN⟩ : ∃ N, N = Q + j := ⟨_, rfl⟩
        have hNm := HMM.out j hjQ
        have hRS := range_snoc Q j
        rw [← hN] at hNm hRS ⊢
        have hNi : (N : Int) < (2 : Int) * (Q : Int) := by omega
        have HOF := Lib.hid (fun W => l01Of_any n N W n2 n7 (by omega))
        have HTM := Lib.hid (show ∀ W, Calls Try.prog 76 #[.int .i64 (n : Int), .agg (zb 64 (ofN n N)), .agg (zb 64 m)] W fun e w' => e = .returned (.tuple #[.agg (zb 64 (prd n (ofN n N) m)), .bool true]) ∧ Below W.heap.size W w' from fun W => by
         have h := l01Times_any n (ofN n N) m W n2 n7 (fun i _ => ofN_lt (by omega) N i) lm
         rw [show tmV n (ofN n N) m = (prd n (ofN n N) m, true) from if_pos (by rw [(mon_ofN n2 (by omega) hNm).1, HDM.out]; omega)] at h
         exact h)
        have HBS := Lib.hid (fun W => bsL_any n N m W n2 n7)
        have hdg : deg (bsS n m oneP N) = ((d + e : Nat) : Int) := bsS_degm hpr lm hNm HDM.out he1 (by omega)
        have HPW := Lib.hid (fun W => l08Power_any n (d + e) k (bsS n m oneP N) W n2 n7 (fun i _ => bsS_lt (by omega) i) hdg hek hk40)
        have hSA := fun W => smL_any n k N m oneP (List.range' Q j) W n2 n7 (exB_lt n (d + e) k _ n2 hdg hek)
        rw [← hRS] at hSA
        have HSA := Lib.hid hSA
        have HN := Lib.hid hN
        clear hNm hRS hdg hSA hN
        go_upto_region 10 with (first | (go_at_call 75; refine (HC.out _).mono ?_; rintro e wS ⟨rfl, rfl⟩; try rw [H2Q.out]))
        have lt_B0 : (w.heap.size) < wr.heap.size := B0.lt
        have lt_B1 : (w.heap.size + 1) < wr.heap.size := B1.lt
        have lt_B2 : (N1) < wr.heap.size := B2.lt
        refine zq Try.mixed (by kernel_rfl) (by kernel_rfl) (fun v => by (simp only [frL, Act.put, pA, pB, pC, Nat.reduceAdd, Nat.zero_add]; exact rfl))
         (fun L v W6 => Below wr.heap.size wr W6 ∧ (L 9 = true → AF (v 9) W6 wr.heap.size 64 23) ∧ (L 10 = true → PF (v 9) W6 wr.heap.size 64 23 (prd n (ofN n N) m)) ∧ VF L v [some (.int .i64 (n : Int)), some (.int .i64 (n : Int)), some (.int .i64 (N : Int)), some (.agg (zb 64 (ofN n N))), some (.agg (zb 64 (m))), some (.tuple #[(.agg (zb 64 (prd n (ofN n N) m))), (.bool true)]), some (.tuple #[(.agg (zb 64 (prd n (ofN n N) m))), (.bool true)]), some (.agg (zb 64 (prd n (ofN n N) m))), some (.bool true), none, none, some (.bool true)]) ?_ ?_ ?_
        · intro v hv0
          exact ⟨(Below.refl _ wr).drew, (fun h => by cases h), (fun h => by cases h), VF.start⟩
        · refine (.cons rfl ?_ (.cons rfl ?_ (.cons rfl ?_ (.cons rfl ?_ (.cons rfl ?_ (.cons rfl ?_ (.cons rfl ?_ (.cons rfl ?_ (.cons rfl ?_ (.cons rfl ?_ (.cons rfl ?_ (.cons rfl ?_ (.nil _)))))))))))))
          all_goals intro L v W6 hd hn ⟨hY, h9, h10, V⟩ K hK
          · go_wp2_with fail
            exact hK _ (.int .i64 (n : Int)) _ (by simp only [Act.put, pA, pB, pC ]) ⟨hY, h9, h10, V.step 0 rfl⟩
          · go_wp2_with fail
            exact hK _ (.int .i64 (n : Int)) _ (by simp only [Act.put, pA, pB, pC ]) ⟨hY, h9, h10, V.step 1 rfl⟩
          · go_wp2_with fail
            exact hK _ (.int .i64 (N : Int)) _ (by simp only [Act.put, pA, pB, pC ]) ⟨hY, h9, h10, V.step 2 rfl⟩
          · have e1 := V.at (zdq hd 1 rfl) rfl
            have e2 := V.at (zdq hd 2 rfl) rfl
            go_wp2_with (go_at_call 77; refine (HOF.out _).mono ?_; rintro e wy ⟨rfl, hy⟩)
            exact hK _ (.agg (zb 64 (ofN n N))) _ (by simp only [Act.put, pA, pB, pC, e1, e2]) ⟨hY.trans (hy.mono hY.size), (fun h => (h9 h).below hy), (fun h => (h10 h).below hy), V.step 3 rfl⟩
          · refine zlc (B0.zw hY) Try.underlying23 Try.size23 ?_
            exact hK _ _ _ rfl ⟨hY, h9, h10, V.step 4 rfl⟩
          · have e0 := V.at (zdq hd 0 rfl) rfl
            have e3 := V.at (zdq hd 3 rfl) rfl
            have e4 := V.at (zdq hd 4 rfl) rfl
            go_wp2_with (go_at_call 76; refine (HTM.out _).mono ?_; rintro e wy ⟨rfl, hy⟩)
            exact hK _ (.tuple #[(.agg (zb 64 (prd n (ofN n N) m))), (.bool true)]) _ (by simp only [Act.put, pA, pB, pC, e0, e3, e4]) ⟨hY.trans (hy.mono hY.size), (fun h => (h9 h).below hy), (fun h => (h10 h).below hy), V.step 5 rfl⟩
          · have e5 := V.at (zdq hd 5 rfl) rfl
            go_wp2_with fail
            exact hK _ (.tuple #[(.agg (zb 64 (prd n (ofN n N) m))), (.bool true)]) _ (by simp only [Act.put, pA, pB, pC, e5]) ⟨hY, h9, h10, V.step 6 rfl⟩
          · have e6 := V.at (zdq hd 6 rfl) rfl
            go_wp2_with fail
            exact hK _ (.agg (zb 64 (prd n (ofN n N) m))) _ (by simp only [Act.put, pA, pB, pC, e6]) ⟨hY, h9, h10, V.step 7 rfl⟩
          · have e6 := V.at (zdq hd 6 rfl) rfl
            go_wp2_with fail
            exact hK _ (.bool true) _ (by simp only [Act.put, pA, pB, pC, e6]) ⟨hY, h9, h10, V.step 8 rfl⟩
          · go_wp2_with fail
            rw [← z64]
            exact hK _ (.pointer (some ⟨W6.heap.size, 0, none⟩)) _ (by simp only [Act.put, pA, pB, pC ]) ⟨hY.alloc hY.size _, (fun _ => (PF.new W6 64 23 _ hY.size).af), (fun h => absurd rfl (hn 10 _ rfl h ⟨9, .data⟩ (by simp) rfl)), V.skip 9 rfl⟩
          · have e7 := V.at (zdq hd 7 rfl) rfl
            obtain ⟨gz, b, ea, hN, hk⟩ := (h9 (zdq hd 9 rfl)).out
            refine zsb 23 _ _ rfl b 64 (prd n (ofN n N) m) ea e7 23 gz hk Try.size23 ?_
            exact hK _ undef _ rfl ⟨zr hY hN _, (fun h => (h9 h).row hk), (fun _ => by rw [show updV v 10 undef 9 = v 9 from rfl, ea]; exact PF.row hk hN _), V.skip 10 rfl⟩
          · have e8 := V.at (zdq hd 8 rfl) rfl
            go_wp2_with fail
            exact hK _ (.bool true) _ (by simp only [Act.put, pA, pB, pC, e8]) ⟨hY, h9, h10, V.step 11 rfl⟩
        · intro L v W6 hL ⟨hY, h9, h10, V⟩
          obtain ⟨k10_9, e9, hNk10_9, hk10_9⟩ := (h10 (hL 10 (by decide))).out
          have e0 := V.at (hL 0 (by decide)) rfl
          have e1 := V.at (hL 1 (by decide)) rfl
          have e2 := V.at (hL 2 (by decide)) rfl
          have e3 := V.at (hL 3 (by decide)) rfl
          have e4 := V.at (hL 4 (by decide)) rfl
          have e5 := V.at (hL 5 (by decide)) rfl
          have e6 := V.at (hL 6 (by decide)) rfl
          have e7 := V.at (hL 7 (by decide)) rfl
          have e8 := V.at (hL 8 (by decide)) rfl
          have e11 := V.at (hL 11 (by decide)) rfl
          clear hL h9 h10 V
          replace B0 := B0.zw hY
          replace B1 := B1.zw hY
          replace B2 := B2.zw hY
          replace hb := hb.trans (hY.mono hb.size)
          clear hY
          simp only [Exit.then, e9, e0, e1, e2, e3, e4, e5, e6, e7, e8, e11]
          clear e9 e0 e1 e2 e3 e4 e5 e6 e7 e8 e11
          have B3 := hk10_9
          clear hk10_9
          have zk10_9_0 : w.heap.size < k10_9 := by omega
          have zk10_9_1 : w.heap.size + 1 < k10_9 := by omega
          have zk10_9_2 : N1 < k10_9 := by omega
          clear lt_B0 lt_B1 lt_B2
          go_upto_region 11 with (fail)
          have lt_B0 : (w.heap.size) < W6.heap.size := B0.lt
          have lt_B1 : (w.heap.size + 1) < W6.heap.size := B1.lt
          have lt_B2 : (N1) < W6.heap.size := B2.lt
          have lt_B3 : (k10_9) < W6.heap.size := B3.lt
          refine zq Try.mixed (by kernel_rfl) (by kernel_rfl) (fun v => by (simp only [frL, Act.put, pA, pB, pC, Nat.reduceAdd, Nat.zero_add]; exact rfl))
           (fun L v W7 => Below W6.heap.size W6 W7 ∧ (L 10 = true → AF (v 10) W7 W6.heap.size 64 23) ∧ (L 11 = true → PF (v 10) W7 W6.heap.size 64 23 (exP n (bsS n m oneP N) k)) ∧ VF L v [some (.int .i64 (n : Int)), some (.int .i64 (n : Int)), some (.agg (zb 64 (prd n (ofN n N) m))), some (.agg (zb 64 (oneP))), some (.agg (zb 64 (bsS n m oneP N))), some (.int .i64 (k : Int)), some (.tuple #[(.agg (zb 64 (exP n (bsS n m oneP N) k))), (.bool true)]), some (.tuple #[(.agg (zb 64 (exP n (bsS n m oneP N) k))), (.bool true)]), some (.agg (zb 64 (exP n (bsS n m oneP N) k))), some (.bool true), none, none, some (.bool true)]) ?_ ?_ ?_
          · intro v hv0
            exact ⟨(Below.refl _ W6).drew, (fun h => by cases h), (fun h => by cases h), VF.start⟩
          · refine (.cons rfl ?_ (.cons rfl ?_ (.cons rfl ?_ (.cons rfl ?_ (.cons rfl ?_ (.cons rfl ?_ (.cons rfl ?_ (.cons rfl ?_ (.cons rfl ?_ (.cons rfl ?_ (.cons rfl ?_ (.cons rfl ?_ (.cons rfl ?_ (.nil _))))))))))))))
            all_goals intro L v W7 hd hn ⟨hY, h10, h11, V⟩ K hK
            · go_wp2_with fail
              exact hK _ (.int .i64 (n : Int)) _ (by simp only [Act.put, pA, pB, pC ]) ⟨hY, h10, h11, V.step 0 rfl⟩
            · go_wp2_with fail
              exact hK _ (.int .i64 (n : Int)) _ (by simp only [Act.put, pA, pB, pC ]) ⟨hY, h10, h11, V.step 1 rfl⟩
            · refine zlc (B3.zw hY) Try.underlying23 Try.size23 ?_
              exact hK _ _ _ rfl ⟨hY, h10, h11, V.step 2 rfl⟩
            · go_wp2_with (go_at_call 80; refine (l01One_any _).mono ?_; rintro e wy ⟨rfl, hy⟩)
              exact hK _ (.agg (zb 64 (oneP))) _ (by simp only [Act.put, pA, pB, pC ]) ⟨hY.trans (hy.mono hY.size), (fun h => (h10 h).below hy), (fun h => (h11 h).below hy), V.step 3 rfl⟩
            · have e1 := V.at (zdq hd 1 rfl) rfl
              have e2 := V.at (zdq hd 2 rfl) rfl
              have e3 := V.at (zdq hd 3 rfl) rfl
              go_wp2_with (go_at_call 79; refine (HBS.out _).mono ?_; rintro e wy ⟨rfl, hy⟩)
              exact hK _ (.agg (zb 64 (bsS n m oneP N))) _ (by simp only [Act.put, pA, pB, pC, e1, e2, e3]) ⟨hY.trans (hy.mono hY.size), (fun h => (h10 h).below hy), (fun h => (h11 h).below hy), V.step 4 rfl⟩
            · go_wp2_with fail
              exact hK _ (.int .i64 (k : Int)) _ (by simp only [Act.put, pA, pB, pC ]) ⟨hY, h10, h11, V.step 5 rfl⟩
            · have e0 := V.at (zdq hd 0 rfl) rfl
              have e4 := V.at (zdq hd 4 rfl) rfl
              have e5 := V.at (zdq hd 5 rfl) rfl
              go_wp2_with (go_at_call 78; refine (HPW.out _).mono ?_; rintro e wy ⟨rfl, hy⟩)
              exact hK _ (.tuple #[(.agg (zb 64 (exP n (bsS n m oneP N) k))), (.bool true)]) _ (by simp only [Act.put, pA, pB, pC, e0, e4, e5]) ⟨hY.trans (hy.mono hY.size), (fun h => (h10 h).below hy), (fun h => (h11 h).below hy), V.step 6 rfl⟩
            · have e6 := V.at (zdq hd 6 rfl) rfl
              go_wp2_with fail
              exact hK _ (.tuple #[(.agg (zb 64 (exP n (bsS n m oneP N) k))), (.bool true)]) _ (by simp only [Act.put, pA, pB, pC, e6]) ⟨hY, h10, h11, V.step 7 rfl⟩
            · have e7 := V.at (zdq hd 7 rfl) rfl
              go_wp2_with fail
              exact hK _ (.agg (zb 64 (exP n (bsS n m oneP N) k))) _ (by simp only [Act.put, pA, pB, pC, e7]) ⟨hY, h10, h11, V.step 8 rfl⟩
            · have e7 := V.at (zdq hd 7 rfl) rfl
              go_wp2_with fail
              exact hK _ (.bool true) _ (by simp only [Act.put, pA, pB, pC, e7]) ⟨hY, h10, h11, V.step 9 rfl⟩
            · go_wp2_with fail
              rw [← z64]
              exact hK _ (.pointer (some ⟨W7.heap.size, 0, none⟩)) _ (by simp only [Act.put, pA, pB, pC ]) ⟨hY.alloc hY.size _, (fun _ => (PF.new W7 64 23 _ hY.size).af), (fun h => absurd rfl (hn 11 _ rfl h ⟨10, .data⟩ (by simp) rfl)), V.skip 10 rfl⟩
            · have e8 := V.at (zdq hd 8 rfl) rfl
              obtain ⟨gz, b, ea, hN, hk⟩ := (h10 (zdq hd 10 rfl)).out
              refine zsb 23 _ _ rfl b 64 (exP n (bsS n m oneP N) k) ea e8 23 gz hk Try.size23 ?_
              exact hK _ undef _ rfl ⟨zr hY hN _, (fun h => (h10 h).row hk), (fun _ => by rw [show updV v 11 undef 10 = v 10 from rfl, ea]; exact PF.row hk hN _), V.skip 11 rfl⟩
            · have e9 := V.at (zdq hd 9 rfl) rfl
              go_wp2_with fail
              exact hK _ (.bool true) _ (by simp only [Act.put, pA, pB, pC, e9]) ⟨hY, h10, h11, V.step 12 rfl⟩
          · intro L v W7 hL ⟨hY, h10, h11, V⟩
            obtain ⟨k11_10, e10, hNk11_10, hk11_10⟩ := (h11 (hL 11 (by decide))).out
            have e0 := V.at (hL 0 (by decide)) rfl
            have e1 := V.at (hL 1 (by decide)) rfl
            have e2 := V.at (hL 2 (by decide)) rfl
            have e3 := V.at (hL 3 (by decide)) rfl
            have e4 := V.at (hL 4 (by decide)) rfl
            have e5 := V.at (hL 5 (by decide)) rfl
            have e6 := V.at (hL 6 (by decide)) rfl
            have e7 := V.at (hL 7 (by decide)) rfl
            have e8 := V.at (hL 8 (by decide)) rfl
            have e9 := V.at (hL 9 (by decide)) rfl
            have e12 := V.at (hL 12 (by decide)) rfl
            clear hL h10 h11 V
            replace B0 := B0.zw hY
            replace B1 := B1.zw hY
            replace B2 := B2.zw hY
            replace B3 := B3.zw hY
            replace hb := hb.trans (hY.mono hb.size)
            clear hY
            simp only [Exit.then, e10, e0, e1, e2, e3, e4, e5, e6, e7, e8, e9, e12]
            clear e10 e0 e1 e2 e3 e4 e5 e6 e7 e8 e9 e12
            have B4 := hk11_10
            clear hk11_10
            have zk11_10_0 : w.heap.size < k11_10 := by omega
            have zk11_10_1 : w.heap.size + 1 < k11_10 := by omega
            have zk11_10_2 : N1 < k11_10 := by omega
            have zk11_10_3 : k10_9 < k11_10 := by omega
            clear lt_B0 lt_B1 lt_B2 lt_B3
            go_upto_region 12 with (fail)
            have lt_B0 := B0.lt
            have lt_B1 := B1.lt
            have lt_B2 := B2.lt
            have lt_B3 := B3.lt
            have lt_B4 := B4.lt
            go_upto_region 9 with (first | rw [← z64] | (refine zla (.tmp 11) B2 Try.underlying23 Try.size23 ?_) | (refine zla (.tmp 15) B4 Try.underlying23 Try.size23 ?_) | (go_at_call 79; refine (HSA.out _).mono ?_; rintro e W8 ⟨rfl, hW8⟩; replace B0 := B0.zw hW8; replace B1 := B1.zw hW8; replace B2 := B2.zw hW8; replace B3 := B3.zw hW8; replace B4 := B4.zw hW8; replace hb := (hb).trans (hW8.mono (hb).size)) | (refine zsr (.tmp 11) (.tmp 69) (smS n m oneP k (List.range' Q (j + 1))) B2 Try.size23 ?_; try simp only [Act.put]))
            obtain ⟨W9, hwo, hzQ⟩ : ∃ v : World, v = (W8.setRow (N1) (zb 64 (smS n m oneP k (List.range' Q (j + 1))))) ∧ Blk v (w.heap.size) 64 23 (m) ∧ Blk v (w.heap.size + 1) 64 23 (fun _ => 0) ∧ Blk v (N1) 64 23 (smS n m oneP k (List.range' Q (j + 1))) ∧ Blk v (k10_9) 64 23 (prd n (ofN n N) m) ∧ Blk v (k11_10) 64 23 (exP n (bsS n m oneP N) k) ∧ Below w.heap.size w v := ⟨_, rfl, (B0.rowOther (by omega)), (B1.rowOther (by omega)), (B2.row (smS n m oneP k (List.range' Q (j + 1)))), (B3.rowOther (by omega)), (B4.rowOther (by omega)), (zr hb (by omega) _)⟩
            rw [← hwo]
            clear hwo B0 B1 B2 B3 B4 hb
            obtain ⟨B0, B1, B2, B3, B4, hb⟩ := hzQ
            try simp only [Act.put, pA, pB, pC]
            go_wp2_with fail
            go_roundw
            case rel => exact ⟨j + 1, by omega, by rw [HN.out]; go_num, hb, B0, B1, B2⟩
            case measure => simp [intOf] <;> omega
      · obtain rfl : j = Q := by omega
        rw [← HP0.out] at B2
        have hNi : ¬ ((j + j : Nat) : Int) < (2 : Int) * (j : Int) := by omega
        go_upto_region 13 with (first | (go_at_call 75; refine (HC.out _).mono ?_; rintro e wS ⟨rfl, rfl⟩))
        have lt_B0 := B0.lt
        have lt_B1 := B1.lt
        have lt_B2 := B2.lt
        go_wp2_with (first | rw [← z64] | (refine zla (.tmp 11) B2 Try.underlying23 Try.size23 ?_) | (refine zsr (.tmp 8) (.tmp 70) (smS n m oneP k (monL n d)) B1 Try.size23 ?_; try simp only [Act.put]; go_wp2_with fail))
        obtain ⟨W6, hwo, hzQ⟩ : ∃ v : World, v = (wr.setRow (w.heap.size + 1) (zb 64 (smS n m oneP k (monL n d)))) ∧ Blk v (w.heap.size) 64 23 (m) ∧ Blk v (w.heap.size + 1) 64 23 (smS n m oneP k (monL n d)) ∧ Blk v (N1) 64 23 (smS n m oneP k (monL n d)) ∧ Below w.heap.size w v := ⟨_, rfl, (B0.rowOther (by omega)), (B1.row (smS n m oneP k (monL n d))), (B2.rowOther (by omega)), (zr hb (by omega) _)⟩
        rw [← hwo]
        clear hwo B0 B1 B2 hb
        obtain ⟨B0, B1, B2, hb⟩ := hzQ
        try simp only [Act.put, pA, pB, pC]
        refine bodyPost_ret (results_bt rfl _ _ _ 64 23 5 _ rfl B1 Try.underlying23 Try.size23) rfl ⟨by first | (rw [HV.out]; rfl) | rw [HV.out], hb⟩
   · have HV := Lib.hid (shV_3 hc hlim)
     have h2 : 63 < ((d : Int) + deg m) * (k : Int) := by omega
     clear hdek hde hmon
     go_upto_region 2 with (first | (refine zla (.tmp 5) B0 Try.underlying23 Try.size23 ?_) | (refine wpList_buildI rfl 42 _ (k : Int) rfl 2 Try.underlying42 Try.elemInt rfl ?_; intro W2 hps hba; replace B0 := B0.zw hba; replace B1 := B1.zw hba; replace hb := hb.trans (hba.mono hb.size)) | (go_at_call 73; refine (l08Monic_one (n : Int) m hm (d : Int) (k : Int) _ _ (row_one hps)).mono ?_; rintro e W3 ⟨rfl, hbc⟩; replace B0 := B0.zw hbc; replace B1 := B1.zw hbc; replace hb := hb.trans (hbc.mono hb.size); rw [hc]))
     clear hps hba hbc
     clear hc
     go_upto_region 4 with (fail)
     go_upto_region 5 with (first | (refine zla (.tmp 5) B0 Try.underlying23 Try.size23 ?_) | (go_at_call 74; refine (l01Deg_any m _).mono ?_; rintro e W4 ⟨rfl, hW4⟩; replace B0 := B0.zw hW4; replace B1 := B1.zw hW4; replace hb := (hb).trans (hW4.mono (hb).size)))
     have lt_B0 := B0.lt
     have lt_B1 := B1.lt
     go_wp2_with (first | rw [← z64] | (refine zsr (.tmp 8) (.tmp 34) (fun _ => 0) B1 Try.size23 ?_; try simp only [Act.put]; go_wp2_with fail))
     obtain ⟨W5, hwo, hzQ⟩ : ∃ v : World, v = (W4.setRow (w.heap.size + 1) (zb 64 (fun _ => 0))) ∧ Blk v (w.heap.size) 64 23 (m) ∧ Blk v (w.heap.size + 1) 64 23 (fun _ => 0) ∧ Below w.heap.size w v := ⟨_, rfl, (B0.rowOther (by omega)), (B1.row (fun _ => 0)), (zr hb (by omega) _)⟩
     rw [← hwo]
     clear hwo B0 B1 hb
     obtain ⟨B0, B1, hb⟩ := hzQ
     try simp only [Act.put, pA, pB, pC]
     refine bodyPost_ret (results_bt rfl _ _ _ 64 23 5 _ rfl B1 Try.underlying23 Try.size23) rfl ⟨by first | (rw [HV.out]; rfl) | rw [HV.out], hb⟩
end Go.Proofs.Ytobcdekochenfaa
end
section
namespace Go.Proofs.Ytobcdekochenfaa
open Go Go.RowKit
set_option linter.unusedVariables false
set_option linter.unusedSimpArgs false
set_option maxRecDepth 100000 in
set_option maxHeartbeats 1600000 in
theorem FnExactShiftedSum_walk (p : Int) (f : Nat → Nat) (d : Int) (k : Int) (hf : byte f) (w : World) :
 Calls Try.prog 5 #[.int .i64 p, .agg (zb 64 f), .int .i64 d, .int .i64 k] w fun e w' => e = .returned (.bool true) ∧ Below w.heap.size w w' := by
 go_enter Try.func5, Try.ntmps5
 go_upto_region 1 with (fail)
 obtain ⟨W1, hwo⟩ : ∃ v : World, v = (w.alloc (.cells (zb 64 (f)) 22)) := ⟨_, rfl⟩
 have B0 : Blk W1 (w.heap.size) 64 22 (f) := by subst hwo; have := (Blk.new w 64 22 (f)); simpa using this
 have hb : Below w.heap.size w W1 := by subst hwo; exact ((Below.refl _ _).alloc (Nat.le_refl _) _)
 rw [← hwo]
 clear hwo
 have hne1 : (((shV p f d k).2) != ((shV p f d k).2)) = false := by simp
 have lt_B0 := B0.lt
 go_upto_region 2 with (first | rw [← z64] | (refine zla (.tmp 5) B0 Try.underlying22 Try.size22 ?_) | (go_at_call 25; refine (toPoly_any f hf _).mono ?_; rintro e W2 ⟨rfl, hW2⟩; replace B0 := B0.zw hW2; replace hb := (hb).trans (hW2.mono (hb).size)) | (go_at_call 24; refine (spec_ShiftedSum_any p f d k hf _).mono ?_; rintro e W3 ⟨rfl, hW3⟩; replace B0 := B0.zw hW3; replace hb := (hb).trans (hW3.mono (hb).size)) | (refine wpList_store_blk rfl 23 (.tmp 9) (.tmp 20) rfl _ 64 ((shV p f d k).1) rfl rfl 23 _ ((Blk.new W3 64 23 (fun _ => 0))) Try.size23 ?_; try simp only [Act.put]; go_upto_region 2 with (fail)))
 have lt_B0 := B0.lt
 have lhb := hb.size
 obtain ⟨W4, hwo, hzQ⟩ : ∃ v : World, v = ((W3.alloc (.cells (zb 64 (fun _ => 0)) 23)).setRow (W3.heap.size) (zb 64 ((shV p f d k).1))) ∧ Blk v (w.heap.size) 64 22 (f) ∧ Blk v (W3.heap.size) 64 23 ((shV p f d k).1) ∧ Below w.heap.size w v := ⟨_, rfl, ((B0.alloc (.cells (zb 64 (fun _ => 0)) 23)).rowOther (by omega)), ((Blk.new W3 64 23 (fun _ => 0)).row ((shV p f d k).1)), (zr (hb.alloc (by have := hb.size; simp; omega) (.cells (zb 64 (fun _ => 0)) 23)) (by omega) _)⟩
 rw [← hwo]
 clear hwo B0 hb
 obtain ⟨B0, B1, hb⟩ := hzQ
 obtain ⟨N1, hNN⟩ : ∃ n : Nat, n = W3.heap.size := ⟨_, rfl⟩
 rw [← hNN] at lt_B0 lhb B1 ⊢
 clear hNN
 have zN1_0 := lt_B0
 have zN1 := lhb
 clear lt_B0 lhb
 try simp only [Act.put, pA, pB, pC]
 have lt_B0 := B0.lt
 have lt_B1 := B1.lt
 go_upto_region 3 with (first | rw [← z64] | (refine zla (.tmp 5) B0 Try.underlying22 Try.size22 ?_) | (go_at_call 25; refine (toPoly_any f hf _).mono ?_; rintro e W5 ⟨rfl, hW5⟩; replace B0 := B0.zw hW5; replace B1 := B1.zw hW5; replace hb := (hb).trans (hW5.mono (hb).size)) | (go_at_call 26; refine (impl_ShiftedSum_any p f d k hf _).mono ?_; rintro e W6 ⟨rfl, hW6⟩; replace B0 := B0.zw hW6; replace B1 := B1.zw hW6; replace hb := (hb).trans (hW6.mono (hb).size)) | (refine wpList_store_blk rfl 23 (.tmp 11) (.tmp 29) rfl _ 64 ((shV p f d k).1) rfl rfl 23 _ ((Blk.new W6 64 23 (fun _ => 0))) Try.size23 ?_; try simp only [Act.put]; go_upto_region 3 with (fail)))
 have lt_B0 := B0.lt
 have lt_B1 := B1.lt
 have lhb := hb.size
 obtain ⟨W7, hwo, hzQ⟩ : ∃ v : World, v = ((W6.alloc (.cells (zb 64 (fun _ => 0)) 23)).setRow (W6.heap.size) (zb 64 ((shV p f d k).1))) ∧ Blk v (w.heap.size) 64 22 (f) ∧ Blk v (N1) 64 23 ((shV p f d k).1) ∧ Blk v (W6.heap.size) 64 23 ((shV p f d k).1) ∧ Below w.heap.size w v := ⟨_, rfl, ((B0.alloc (.cells (zb 64 (fun _ => 0)) 23)).rowOther (by omega)), ((B1.alloc (.cells (zb 64 (fun _ => 0)) 23)).rowOther (by omega)), ((Blk.new W6 64 23 (fun _ => 0)).row ((shV p f d k).1)), (zr (hb.alloc (by have := hb.size; simp; omega) (.cells (zb 64 (fun _ => 0)) 23)) (by omega) _)⟩
 rw [← hwo]
 clear hwo B0 B1 hb
 obtain ⟨B0, B1, B2, hb⟩ := hzQ
 obtain ⟨N2, hNN⟩ : ∃ n : Nat, n = W6.heap.size := ⟨_, rfl⟩
 rw [← hNN] at lt_B0 lt_B1 lhb B2 ⊢
 clear hNN
 have zN2_0 := lt_B0
 have zN2_1 := lt_B1
 have zN2 := lhb
 clear lt_B0 lt_B1 lhb
 try simp only [Act.put, pA, pB, pC]
 go_wp2_with (first | (refine zla (.tmp 11) B2 Try.underlying23 Try.size23 ?_) | (refine zla (.tmp 9) B1 Try.underlying23 Try.size23 ?_) | (go_at_call 21; refine (eqPoly_same _ _ (fun _ _ => rfl) _).mono ?_; rintro e W8 ⟨rfl, hW8⟩; replace B0 := B0.zw hW8; replace B1 := B1.zw hW8; replace B2 := B2.zw hW8; replace hb := (hb).trans (hW8.mono (hb).size)))
 go_ret
 exact ⟨rfl, hb⟩
end Go.Proofs.Ytobcdekochenfaa
end
