/-
  Plain mathematics of polynomials as functions of their index; nothing of the program.
-/
import Derived.Test.YtbjpkmbhbpcbgaaBase
namespace Go.Proofs.Ytbjpkmbhbpcbgaa

def okP (p : Int) : Bool := p == 2 || p == 3 || p == 5 || p == 7
def okA (p : Int) (f : Nat → Nat) : Bool := okP p && (List.range 64).all fun i => decide ((f i : Int) < p)
theorem okP_cases {p : Int} (h : okP p = true) : p = 2 ∨ p = 3 ∨ p = 5 ∨ p = 7 := by
  simp only [okP, Bool.or_eq_true, beq_iff_eq] at h
  rcases h with ((h | h) | h) | h <;> simp [h]
theorem okP_false {p : Int} (h : okP p = false) : (p == 2) = false ∧ (p == 3) = false ∧ (p == 5) = false ∧ (p == 7) = false := by
  simp only [okP, Bool.or_eq_false_iff] at h
  exact ⟨h.1.1.1, h.1.1.2, h.1.2, h.2⟩
theorem okP_le {p : Int} (h : okP p = true) : 2 ≤ p ∧ p ≤ 7 := by rcases okP_cases h with h | h | h | h <;> subst h <;> decide
theorem okA_iff {p : Int} {f : Nat → Nat} : okA p f = true ↔ okP p = true ∧ ∀ i, i < 64 → (f i : Int) < p := by
  simp [okA, List.all_eq_true]
theorem okA_p {p : Int} {f : Nat → Nat} (h : okA p f = true) : okP p = true := (okA_iff.1 h).1
theorem okA_lt {p : Int} {f : Nat → Nat} (h : okA p f = true) {i : Nat} (hi : i < 64) : (f i : Int) < p := (okA_iff.1 h).2 i hi
theorem okA_false {p : Int} {f : Nat → Nat} (hp : okP p = true) (h : okA p f = false) : ∃ i, i < 64 ∧ p ≤ (f i : Int) := by
  by_cases e : ∃ i, i < 64 ∧ p ≤ (f i : Int)
  · exact e
  · exfalso
    have : okA p f = true := okA_iff.2 ⟨hp, fun i hi => by
      by_cases h' : (f i : Int) < p
      · exact h'
      · exact absurd ⟨i, hi, by omega⟩ e⟩
    rw [h] at this; cases this
/-- the code of a list of polynomials -/
def codeL (p : Int) (fs : List (Nat → Nat)) : Int := if okP p && fs.all (okA p) then 0 else 1
/-- f cut off at 64 -/
def cut (f : Nat → Nat) : Nat → Nat := fun i => if i < 64 then f i else 0
theorem bl_cut (f : Nat → Nat) : bl 64 (cut f) = bl 64 f := by
  unfold bl
  apply List.map_congr_left
  intro i hi
  have : i < 64 := by simpa using hi
  simp [cut, this]
theorem cut_lt {p : Nat} {f : Nat → Nat} (h : okA (p : Int) f = true) (i : Nat) : cut f i < p := by
  unfold cut
  split
  · rename_i hi; have := okA_lt h hi; omega
  · have := okP_le (okA_p h); omega
/-- a byte -/
def byte (f : Nat → Nat) : Prop := ∀ i, f i < 256
end Go.Proofs.Ytbjpkmbhbpcbgaa
