/-
  Walks: primes, polynomials, codes.
-/
import Derived.Test.YtbjpkmbhbpcbgaaPol
import Derived.Test.YtbjpkmbhbpcbgaaSli
import Derived.Test.YtbjpkmbhbpcbgaaRows
namespace Go.Proofs.Ytbjpkmbhbpcbgaa
open Go.RowKit
theorem Try.size22 : (Try.prog.info? 22).map (·.size) = some 64 := by kernel_rfl
theorem Try.size23 : (Try.prog.info? 23).map (·.size) = some 64 := by kernel_rfl
theorem Try.size5 : (Try.prog.info? 5).map (·.size) = some 1 := by kernel_rfl
theorem Try.mixed : Try.prog.follows .mixedOrders = true := by kernel_rfl
theorem ret_int {k : IntKind} {a b : Int} (h : a = b) : Ending.returned (.int k a) = .returned (.int k b) := by rw [h]
theorem ret_bool {a b : Bool} (h : a = b) : Ending.returned (.bool a) = .returned (.bool b) := by rw [h]

theorem isPrime_any (p : Int) (w : World) : Calls Try.prog 149 #[.int .i64 p] w fun e w' => e = .returned (.bool (okP p)) ∧ w = w' := by
  cases hp : okP p with
  | true =>
    rcases okP_cases hp with rfl | rfl | rfl | rfl <;>
    · go_enter Try.func149, Try.ntmps149
      go_wp2
      go_ret
      exact ⟨rfl, rfl⟩
  | false =>
    obtain ⟨h2, h3, h5, h7⟩ := okP_false hp
    go_enter Try.func149, Try.ntmps149
    go_wp2
    go_ret
    exact ⟨rfl, rfl⟩
theorem l01Prime_any (p : Int) (w : World) : Calls Try.prog 147 #[.int .i64 p] w fun e w' => e = .returned (.bool (okP p)) ∧ w = w' := by
  cases hp : okP p with
  | true =>
    rcases okP_cases hp with rfl | rfl | rfl | rfl <;>
    · go_enter Try.func147, Try.ntmps147
      go_wp2
      go_ret
      exact ⟨rfl, rfl⟩
  | false =>
    obtain ⟨h2, h3, h5, h7⟩ := okP_false hp
    go_enter Try.func147, Try.ntmps147
    go_wp2
    go_ret
    exact ⟨rfl, rfl⟩

theorem byteOk (f : Nat → Nat) (hf : byte f) (k : Nat) : (0 : Int) ≤ (f k : Int) ∧ (f k : Int) ≤ 255 := by have := hf k; omega

set_option maxHeartbeats 800000 in
theorem IsPoly_any (p : Int) (f : Nat → Nat) (hf : byte f) (w : World) : Calls Try.prog 150 #[.int .i64 p, .agg (bcells 64 f)] w fun e w' => e = .returned (.bool (okA p f)) ∧ Below w.heap.size w w' := by
  cases hp : okP p with
  | false =>
    go_enter Try.func150, Try.ntmps150
    go_wp2_with (go_at_call 149; refine (isPrime_any _ _).mono ?_; rintro e w' ⟨rfl, rfl⟩)
    go_ret
    exact ⟨ret_bool (by simp [okA, hp]), (Below.refl _ _).alloc (Nat.le_refl _) _⟩
  | true =>
    have hb := okP_le hp
    go_enter Try.func150, Try.ntmps150
    go_wp2_with (first | (go_at_call 149; refine (isPrime_any _ _).mono ?_; rintro e w' ⟨rfl, rfl⟩) | refine wpList_load_blk rfl 23 _ rfl _ rfl 64 23 _ (Blk.new _ _ _ _) 5 Try.underlying23 Try.size23 ?_)
    go_loop [11] (fun i => ∃ k : Nat, k ≤ 64 ∧ (∀ j, j < k → (f j : Int) < p) ∧ i = .int .i64 (k : Int)) (fun i => 64 - (intOf i).toNat)
    case atStart => exact ⟨0, by omega, fun j hj => by omega, rfl⟩
    case round =>
      obtain ⟨k, hk, hall, rfl⟩ := hrel
      have HA := Lib.hid hall; clear hall
      by_cases hlt : k < 64
      · have hx := fun W => run_index_blk (P := Try.prog) 23 5 64 f .i64 k Try.underlying23 Try.underlying5 Try.size5 hlt W
        have hfk := byteOk f hf k
        by_cases hge : p ≤ (f k : Int)
        · go_wp2_with fail
          go_ret
          refine ⟨ret_bool ?_, (Below.refl _ _).alloc (Nat.le_refl _) _⟩
          cases h : okA p f with
          | false => rfl
          | true => have := okA_lt h hlt; omega
        · go_wp2_with fail
          go_round
          case rel =>
            refine ⟨k + 1, by omega, fun j hj => ?_, by go_num⟩
            by_cases e : j = k
            · subst e; omega
            · exact HA.out j (by omega)
          case measure => simp [intOf]; omega
      · go_wp2_with fail
        go_ret
        refine ⟨ret_bool ?_, (Below.refl _ _).alloc (Nat.le_refl _) _⟩
        exact (okA_iff.2 ⟨hp, fun i hi => HA.out i (by omega)⟩).symm

set_option maxHeartbeats 800000 in
theorem l01Is_any (p : Int) (f : Nat → Nat) (hf : byte f) (w : World) : Calls Try.prog 148 #[.int .i64 p, .agg (bcells 64 f)] w fun e w' => e = .returned (.bool (okA p f)) ∧ Below w.heap.size w w' := by
  go_enter Try.func148, Try.ntmps148
  go_wp2_with fail
  go_loop [5] (fun i => ∃ k : Nat, k ≤ 64 ∧ (∀ j, j < k → (f j : Int) < p) ∧ i = .int .i64 (k : Int)) (fun i => 64 - (intOf i).toNat)
  case atStart => exact ⟨0, by omega, fun j hj => by omega, rfl⟩
  case round =>
    obtain ⟨k, hk, hall, rfl⟩ := hrel
    have HA := Lib.hid hall; clear hall
    by_cases hlt : k < 64
    · have hc := (Blk.new w 64 23 f).cell hlt
      have hfk := byteOk f hf k
      by_cases hge : p ≤ (f k : Int)
      · go_wp2_with fail
        go_ret
        refine ⟨ret_bool ?_, (Below.refl _ _).alloc (Nat.le_refl _) _⟩
        cases h : okA p f with
        | false => rfl
        | true => have := okA_lt h hlt; omega
      · go_wp2_with fail
        go_round
        case rel =>
          refine ⟨k + 1, by omega, fun j hj => ?_, by go_num⟩
          by_cases e : j = k
          · subst e; omega
          · exact HA.out j (by omega)
        case measure => simp [intOf]; omega
    · go_wp2_with (go_at_call 147; refine (l01Prime_any _ _).mono ?_; rintro e w' ⟨rfl, rfl⟩)
      go_ret
      refine ⟨ret_bool ?_, (Below.refl _ _).alloc (Nat.le_refl _) _⟩
      cases hp : okP p with
      | false => simp [okA, hp]
      | true => exact (okA_iff.2 ⟨hp, fun i hi => HA.out i (by omega)⟩).symm
end Go.Proofs.Ytbjpkmbhbpcbgaa
