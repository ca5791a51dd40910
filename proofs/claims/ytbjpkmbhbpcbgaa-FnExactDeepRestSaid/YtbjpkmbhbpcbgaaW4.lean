/-
  Walks: sums and differences behind their checks.
-/
import Derived.Test.YtbjpkmbhbpcbgaaW3
namespace Go.Proofs.Ytbjpkmbhbpcbgaa
open Go.RowKit
set_option linter.unusedVariables false
theorem Try.elem23 : (Try.prog.info? 23).map (fun i => (i.size, i.zero.isSome)) = some (64, true) := by kernel_rfl
theorem codeL_two (p : Int) (fs : List (Nat → Nat)) : codeL p fs = 0 ∨ codeL p fs = 1 := by
  unfold codeL; split <;> simp
theorem codeL_zero {p : Int} {fs : List (Nat → Nat)} (h : codeL p fs = 0) : okP p = true ∧ ∀ f ∈ fs, okA p f = true := by
  unfold codeL at h
  split at h
  · rename_i h'
    simpa [List.all_eq_true] using h'
  · cases h
theorem codeL_two_ok {p : Int} {f g : Nat → Nat} (h : codeL p [f, g] = 0) : ∃ n : Nat, p = (n : Int) ∧ 2 ≤ n ∧ n ≤ 7 ∧ (∀ i, i < 64 → f i < n) ∧ (∀ i, i < 64 → g i < n) := by
  obtain ⟨hp, hl⟩ := codeL_zero h
  have h1 := hl f (by simp)
  have h2 := hl g (by simp)
  have := okP_le hp
  refine ⟨p.toNat, by omega, by omega, by omega, fun i hi => ?_, fun i hi => ?_⟩
  · have := okA_lt h1 hi; omega
  · have := okA_lt h2 hi; omega
def addV (p : Int) (f g : Nat → Nat) : (Nat → Nat) × Int := if codeL p [f, g] = 0 then (fun i => (f i + g i) % p.toNat, 0) else (fun _ => 0, 1)
def subV (p : Int) (f g : Nat → Nat) : (Nat → Nat) × Int := if codeL p [f, g] = 0 then (fun i => (f i + p.toNat - g i) % p.toNat, 0) else (fun _ => 0, 1)
theorem addK_one (p : Nat) (f g : Nat → Nat) : addK p f g 1 = fun i => (f i + g i) % p := by
  funext i; unfold addK
  rw [Int.one_mul, ← Int.natCast_add, ← Int.natCast_emod, Int.toNat_natCast]
theorem addK_neg {p : Nat} {f g : Nat → Nat} (hp : 0 < p) (hg : ∀ i, i < 64 → g i < p) {i : Nat} (hi : i < 64) : addK p f g (-1) i = (f i + p - g i) % p := by
  unfold addK
  have := hg i hi
  have e : ((f i : Int) + -1 * (g i : Int)) % (p : Int) = ((f i + p - g i : Nat) : Int) % (p : Int) := by
    rw [Int.natCast_sub (by omega), ← Int.add_emod_right]
    congr 1
    push_cast
    omega
  rw [e, ← Int.natCast_emod, Int.toNat_natCast]
end Go.Proofs.Ytbjpkmbhbpcbgaa
