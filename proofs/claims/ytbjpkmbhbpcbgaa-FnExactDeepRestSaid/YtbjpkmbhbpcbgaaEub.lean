/-
  Rows of three polynomials: how they are built, and where their parts lie.
-/
import Derived.Test.YtbjpkmbhbpcbgaaW18
namespace Go.Proofs.Ytbjpkmbhbpcbgaa
open Go.RowKit
set_option linter.unusedVariables false
/-- three polynomials, one behind the other -/
def c3 (r u v : Nat → Nat) : Nat → Nat := fun k => if k < 64 then r k else if k < 128 then u (k - 64) else v (k - 128)
theorem Try.size150 : (Try.prog.info? 150).map (·.size) = some 192 := by kernel_rfl
theorem built_ru (r u : Nat → Nat) : Try.prog.built 150 [(0, .agg (bcells 64 r)), (1, .agg (bcells 64 u))] = some (bcells 192 (c3 r u fun _ => 0)) := by
  unfold bcells bl; kernel_rfl
theorem built_rv (r v : Nat → Nat) : Try.prog.built 150 [(0, .agg (bcells 64 r)), (2, .agg (bcells 64 v))] = some (bcells 192 (c3 r (fun _ => 0) v)) := by
  unfold bcells bl; kernel_rfl
theorem built_ruv (r u v : Nat → Nat) : Try.prog.built 150 [(0, .agg (bcells 64 r)), (1, .agg (bcells 64 u)), (2, .agg (bcells 64 v))] = some (bcells 192 (c3 r u v)) := by
  unfold bcells bl; kernel_rfl
theorem built_one : Try.prog.built 23 [(0, .int .u8 1)] = some (bcells 64 oneP) := by
  unfold bcells bl; kernel_rfl
theorem Blk.mid {w : World} {b n : Nat} {t : TypeId} {f : Nat → Nat} (h : Blk w b n t f) {o m : Nat} (hm : o + m ≤ n) {g : Nat → Nat} (hg : ∀ k, k < m → f (o + k) = g k) : w.rangeAt b o (bl m g) := by
  intro j v hv
  have hj : j < m := by
    have := (List.getElem?_eq_some_iff.1 hv).1
    rwa [bl_length] at this
  have e : (bl m g)[j]? = some (.int .u8 (g j : Int)) := by have := bcells_get (f := g) hj; simpa using this
  rw [e] at hv
  injection hv with hv
  subst hv
  rw [← hg j hj]
  exact h.cell (by omega)
theorem c3_0 (r u v : Nat → Nat) : ∀ k, k < 64 → c3 r u v (0 + k) = r k := by intro k hk; unfold c3; rw [Nat.zero_add, if_pos hk]
theorem c3_1 (r u v : Nat → Nat) : ∀ k, k < 64 → c3 r u v (64 + k) = u k := by intro k hk; unfold c3; rw [if_neg (by omega), if_pos (by omega), show 64 + k - 64 = k by omega]
theorem c3_2 (r u v : Nat → Nat) : ∀ k, k < 64 → c3 r u v (128 + k) = v k := by intro k hk; unfold c3; rw [if_neg (by omega), if_neg (by omega), show 128 + k - 128 = k by omega]
end Go.Proofs.Ytbjpkmbhbpcbgaa
