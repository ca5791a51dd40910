/-
  Polynomials as keys of maps.
-/
import Derived.Test.YtpeehpaghdddgaaMap
import Derived.Test.YtpeehpaghdddgaaProg
namespace Go.Proofs.Ytpeehpaghdddgaa
open Go Go.RowKit Go.ChangeMaps
open Go.Maps (Keyed)
theorem Try.laidOutP : laidOutB Try.prog = true := by kernel_rfl
theorem Try.keyPoly : Keyed Try.prog 26 := Keyed.of_law (deep_law_laid Try.laidOutP (m := 2) (by omega) (of_decide_eq_true (by kernel_rfl)) (by kernel_rfl) (by rw [Try.underlying26]))
theorem Try.keyOfPoly {f : Nat → Nat} (hf : ∀ i, i < 64 → f i < 256) : ∃ l, keyOf Try.prog 26 (.agg (bcells 64 f)) = some l :=
  keyOf_bytes Try.underlying26 Try.underlying5 (by kernel_rfl) (by kernel_rfl) (by kernel_rfl) (of_decide_eq_true (by kernel_rfl)) hf
theorem Try.zeroPoly (w : World) : (zeroValue 26).run Try.prog w = .ok (.agg (bcells 64 fun _ => 0)) w := by kernel_rfl
theorem Try.zeroBool (w : World) : (zeroValue 4).run Try.prog w = .ok (.bool false) w := by kernel_rfl
end Go.Proofs.Ytpeehpaghdddgaa
