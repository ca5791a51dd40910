/-
  Walks: how many irreducible polynomials there are.
-/
import Derived.Test.YtkaaffccklkafaaCi
import Derived.Test.YtkaaffccklkafaaW8
import Derived.Test.YtkaaffccklkafaaInv2
namespace Go.Proofs.Ytkaaffccklkafaa
open Go.RowKit
set_option linter.unusedVariables false
set_option linter.unusedSimpArgs false
theorem norm_any (p n : Nat) (w : World) (hp1 : 2 ≤ p) (hp2 : p ≤ 7) (hn : n ≤ 20) :
    Calls Try.prog 186 #[.int .i64 (p : Int), .int .i64 (n : Int)] w fun e w' => e = .returned (.int .i64 ((p ^ n : Nat) : Int)) ∧ w = w' := by
  go_enter Try.func186, Try.ntmps186
  go_wp2_with fail
  go_loopw [5, 7] (fun x i wr => ∃ k X : Nat, k ≤ n ∧ X = p ^ k ∧ x = .int .i64 (X : Int) ∧ i = .int .i64 (k : Int) ∧ wr = w) (fun _ i _ => n - (intOf i).toNat)
  case atStart => exact ⟨0, 1, by omega, rfl, rfl, rfl, rfl⟩
  case round =>
    obtain ⟨k, X, hk, hX, rfl, rfl, rfl⟩ := hrel
    obtain ⟨x1, x2⟩ := pow_big (p := p) (k := k) (by omega) hp2 (by omega)
    rw [← hX] at x1 x2
    by_cases hlt : k < n
    · obtain ⟨y1, y2⟩ := pow_big (p := p) (k := k + 1) (by omega) hp2 (by omega)
      rw [Nat.pow_succ, ← hX] at y1 y2
      have HX := Lib.hid hX; clear hX
      have z1 : ((X * p : Nat) : Int) ≤ 79792266297612001 := by omega
      have z2 : 1 ≤ ((X * p : Nat) : Int) := by omega
      rw [Int.natCast_mul] at z1 z2
      clear y1 y2
      go_wp2_with fail
      go_roundw
      case rel => exact ⟨k + 1, X * p, by omega, by rw [Nat.pow_succ, ← HX.out], by go_num, by go_num, trivial⟩
      case measure => simp [intOf]; omega
    · have e : k = n := by omega
      subst e
      have HX := Lib.hid hX; clear hX
      go_wp2_with fail
      go_ret
      exact ⟨ret_int (congrArg (fun x : Nat => (x : Int)) HX.out), rfl⟩
theorem l02Power_any (p n : Nat) (w : World) (hp1 : 2 ≤ p) (hp2 : p ≤ 7) (hn : n ≤ 20) :
    Calls Try.prog 192 #[.int .i64 (p : Int), .int .i64 (n : Int)] w fun e w' => e = .returned (.int .i64 ((p ^ n : Nat) : Int)) ∧ w = w' := by
  go_enter Try.func192, Try.ntmps192
  go_wp2_with fail
  go_loopw [5, 1] (fun x i wr => ∃ k j X : Nat, k + j = n ∧ X = p ^ k ∧ x = .int .i64 (X : Int) ∧ i = .int .i64 (j : Int) ∧ wr = w) (fun _ i _ => (intOf i).toNat)
  case atStart => exact ⟨0, n, 1, by omega, rfl, rfl, rfl, rfl⟩
  case round =>
    obtain ⟨k, j, X, hk, hX, rfl, rfl, rfl⟩ := hrel
    obtain ⟨x1, x2⟩ := pow_big (p := p) (k := k) (by omega) hp2 (by omega)
    rw [← hX] at x1 x2
    have HK := Lib.hid hk
    have hj20 : j ≤ 20 := by omega
    clear hk
    by_cases hlt : 0 < j
    · obtain ⟨y1, y2⟩ := pow_big (p := p) (k := k + 1) (by omega) hp2 (by have := HK.out; omega)
      rw [Nat.pow_succ, ← hX] at y1 y2
      have HX := Lib.hid hX; clear hX
      have z1 : ((X * p : Nat) : Int) ≤ 79792266297612001 := by omega
      have z2 : 1 ≤ ((X * p : Nat) : Int) := by omega
      rw [Int.natCast_mul] at z1 z2
      clear y1 y2
      go_wp2_with fail
      go_roundw
      case rel => exact ⟨k + 1, j - 1, X * p, by have := HK.out; omega, by rw [Nat.pow_succ, ← HX.out], by go_num, by rw [show ((j - 1 : Nat) : Int) = (j : Int) - 1 by omega], trivial⟩
      case measure => simp [intOf]; omega
    · have e : j = 0 := by omega
      subst e
      have HX := Lib.hid hX; clear hX
      go_wp2_with fail
      go_ret
      exact ⟨ret_int (congrArg (fun x : Nat => (x : Int)) (by rw [HX.out, show k = n by have := HK.out; omega])), rfl⟩
theorem l02Moebius_any (n : Nat) (w : World) (hn1 : 1 ≤ n) (hn : n ≤ 20) :
    Calls Try.prog 191 #[.int .i64 (n : Int)] w fun e w' => e = .returned (.int .i64 (muN n)) ∧ w = w' := by
  go_enter Try.func191, Try.ntmps191
  go_wp2_with fail
  go_loopw [0, 3, 4] (fun a x i wr => ∃ (f m k : Nat) (o : Int), muN n = muR f k m o ∧ m + 1 ≤ f + k ∧ 2 ≤ k ∧ k ≤ 22 ∧ 1 ≤ m ∧ m ≤ 20 ∧ -1 ≤ o ∧ o ≤ 1 ∧ a = .int .i64 (m : Int) ∧ x = .int .i64 o ∧ i = .int .i64 (k : Int) ∧ wr = w) (fun _ _ i _ => 30 - (intOf i).toNat)
  case atStart => exact ⟨21, n, 2, 1, rfl, by omega, by omega, by omega, hn1, hn, by omega, by omega, rfl, rfl, rfl, rfl⟩
  case round =>
    obtain ⟨f, m, k, o, hmu, h1, h2, h3, h4, h5, h6, h7, rfl, rfl, rfl, rfl⟩ := hrel
    have HM := Lib.hid hmu; clear hmu
    by_cases hle : k ≤ m
    · obtain ⟨f, rfl⟩ : ∃ g, f = g + 1 := ⟨f - 1, by omega⟩
      have e1 : (m : Int).tmod (k : Int) = ((m % k : Nat) : Int) := by rw [Int.tmod_eq_emod_of_nonneg (by omega)]; rfl
      have e2 : (m : Int).tdiv (k : Int) = ((m / k : Nat) : Int) := by rw [Int.tdiv_eq_ediv_of_nonneg (by omega)]; rfl
      by_cases hd : m % k = 0
      · obtain ⟨q, hq⟩ : ∃ q, q = m / k := ⟨_, rfl⟩
        have hqm : q * k = m := by rw [hq]; exact Nat.div_mul_cancel (Nat.dvd_of_mod_eq_zero hd)
        have hq1 : 1 ≤ q := by
          by_cases h : q = 0
          · rw [h] at hqm; omega
          · omega
        have hq2 : q * 2 ≤ m := by rw [← hqm]; exact Nat.mul_le_mul_left q h2
        have e3 : (q : Int).tmod (k : Int) = ((q % k : Nat) : Int) := by rw [Int.tmod_eq_emod_of_nonneg (by omega)]; rfl
        rw [← hq] at e2
        rw [hd] at e1
        by_cases hd2 : q % k = 0
        · rw [hd2] at e3
          have HR : muN n = 0 := by rw [HM.out, muR, if_pos hle, if_pos hd, ← hq, if_pos hd2]
          have HR := Lib.hid HR
          clear hq hqm hd hd2
          go_wp2_with fail
          go_ret
          exact ⟨ret_int HR.out.symm, rfl⟩
        · have HR := Lib.hid (show muN n = muR f (k + 1) q (-o) by rw [HM.out, muR, if_pos hle, if_pos hd, ← hq, if_neg hd2])
          have hne : ((q % k : Nat) : Int) ≠ 0 := by omega
          obtain ⟨r, hr⟩ : ∃ r : Nat, r = q % k := ⟨_, rfl⟩
          rw [← hr] at e3 hne
          clear hq hqm hd hd2 hr
          go_wp2_with fail
          go_roundw
          case rel => exact ⟨f, q, k + 1, -o, HR.out, by omega, by omega, by omega, by omega, by omega, by omega, by omega, rfl, rfl, by go_num, trivial⟩
          case measure => simp [intOf]; omega
      · have HR := Lib.hid (show muN n = muR f (k + 1) m o by rw [HM.out, muR, if_pos hle, if_neg hd])
        have hne : ((m % k : Nat) : Int) ≠ 0 := by omega
        obtain ⟨r, hr⟩ : ∃ r : Nat, r = m % k := ⟨_, rfl⟩
        rw [← hr] at e1 hne
        clear hd hr e2
        go_wp2_with fail
        go_roundw
        case rel => exact ⟨f, m, k + 1, o, HR.out, by omega, by omega, by omega, by omega, by omega, by omega, by omega, rfl, rfl, by go_num, trivial⟩
        case measure => simp [intOf]; omega
    · have HR : muN n = o := by
        rw [HM.out]
        cases f with
        | zero => rfl
        | succ f => rw [muR, if_neg hle]
      have HR := Lib.hid HR
      go_wp2_with fail
      go_ret
      exact ⟨ret_int HR.out.symm, rfl⟩
/-- both answers -/
def ciA (p n : Int) : Int × Int := if okP p then (if 1 ≤ n ∧ n ≤ 20 then (ciV p.toNat n.toNat, 0) else (0, 2)) else (0, 1)
theorem prime_four {p : Nat} (h : okP (p : Int) = true) : p = 2 ∨ p = 3 ∨ p = 5 ∨ p = 7 := by
  rcases okP_cases h with h | h | h | h <;> omega
theorem countIrreducibles_any (p : Nat) (hp : p = 2 ∨ p = 3 ∨ p = 5 ∨ p = 7) : ∀ (n : Nat), 1 ≤ n → n ≤ 20 → ∀ w : World,
    Calls Try.prog 190 #[.int .i64 (p : Int), .int .i64 (n : Int)] w fun e w' => e = .returned (.int .i64 (ciV p n)) ∧ w = w' := by
  intro n
  induction n using Nat.strongRecOn with
  | _ n ih =>
    intro hn1 hn w
    obtain ⟨f1, f2, f3, f4⟩ := ciOk_facts hp hn
    have F1 := Lib.hid (f1 (by omega))
    have F3 := Lib.hid f3
    have F4 := Lib.hid f4
    have IH := Lib.hid ih
    clear f1 f2 f3 f4 ih
    go_enter Try.func190, Try.ntmps190
    go_wp2_with (go_at_call 186; refine (norm_any p n _ (by omega) (by omega) hn).mono ?_; rintro e w1 ⟨rfl, rfl⟩)
    go_loopw [5, 6] (fun x i wr => ∃ (d : Nat) (X : Int), 1 ≤ d ∧ d ≤ n ∧ X = ciL p n d ∧ x = .int .i64 X ∧ i = .int .i64 (d : Int) ∧ wr = w) (fun _ i _ => n - (intOf i).toNat)
    case atStart => exact ⟨1, _, by omega, hn1, by rw [ciL_s, if_neg (by omega)]; show _ = (p : Int) ^ n - 0; push_cast; omega, rfl, rfl, rfl⟩
    case round =>
      obtain ⟨d, X, hd1, hd2, hX, rfl, rfl, rfl⟩ := hrel
      obtain ⟨x1, x2⟩ := (F3.out d (by omega)).1
      rw [← hX] at x1 x2
      have HX := Lib.hid hX; clear hX
      by_cases hlt : d < n
      · have e1 : (n : Int).tmod (d : Int) = ((n % d : Nat) : Int) := by rw [Int.tmod_eq_emod_of_nonneg (by omega)]; rfl
        by_cases hdv : n % d = 0
        · obtain ⟨y1, y2⟩ := (F3.out (d + 1) (by omega)).1
          rw [ciL_s, if_pos ⟨hd1, hdv⟩, ← HX.out] at y1 y2
          have z1 := (F4.out d (by omega)).1
          obtain ⟨z2, z3⟩ := (ciOk_facts hp (n := d) (by omega)).2.1
          obtain ⟨V, hV⟩ : ∃ V, V = ciV p d := ⟨_, rfl⟩
          rw [← hV] at y1 y2 z1 z2 z3
          have HV := Lib.hid hV; clear hV
          have z0 : 0 ≤ (d : Int) * V := Int.mul_nonneg (by omega) z2
          rw [hdv] at e1
          have HD := Lib.hid hdv
          clear hdv
          go_wp2_with (go_at_call 190; refine (IH.out d hlt hd1 (by omega) _).mono ?_; rintro e w1 ⟨rfl, rfl⟩; rw [← HV.out])
          go_roundw
          case rel => exact ⟨d + 1, X - d * V, by omega, by omega, by rw [ciL_s, if_pos ⟨hd1, HD.out⟩, ← HX.out, ← HV.out], by go_num, by go_num, trivial⟩
          case measure => simp [intOf]; omega
        · have hne : ((n % d : Nat) : Int) ≠ 0 := by omega
          have HD := Lib.hid hdv
          obtain ⟨r, hr⟩ : ∃ r : Nat, r = n % d := ⟨_, rfl⟩
          rw [← hr] at e1 hne
          clear hdv hr
          go_wp2_with fail
          go_roundw
          case rel => exact ⟨d + 1, X, by omega, by omega, by rw [ciL_s, if_neg (fun h => HD.out h.2), ← HX.out, Int.sub_zero], rfl, by go_num, trivial⟩
          case measure => simp [intOf]; omega
      · have e : d = n := by omega
        subst e
        have e2 : X / (d : Int) = ciV p d := by rw [HX.out]; exact F1.out
        have E2 := Lib.hid e2
        clear e2
        go_wp2_with fail
        go_ret
        exact ⟨ret_int E2.out, rfl⟩
theorem l02Moebius_b (n : Nat) (w : World) (hn1 : 1 ≤ n) (hn : n ≤ 20) {V : Int} (hV : V = muN n) :
    Calls Try.prog 191 #[.int .i64 (n : Int)] w fun e w' => e = .returned (.int .i64 V) ∧ Below w.heap.size w w' :=
  (l02Moebius_any n w hn1 hn).mono fun e w' ⟨h, hw⟩ => ⟨by rw [h, hV], hw ▸ Below.refl _ _⟩
theorem l02Power_b (p n : Nat) (w : World) (hp1 : 2 ≤ p) (hp2 : p ≤ 7) (hn : n ≤ 20) {Y : Nat} (hY : Y = p ^ n) :
    Calls Try.prog 192 #[.int .i64 (p : Int), .int .i64 (n : Int)] w fun e w' => e = .returned (.int .i64 (Y : Int)) ∧ Below w.heap.size w w' :=
  (l02Power_any p n w hp1 hp2 hn).mono fun e w' ⟨h, hw⟩ => ⟨by rw [h, hY], hw ▸ Below.refl _ _⟩
theorem impl_CountIrreducibles_any (p n : Int) (w : World) :
    Calls Try.prog 102 #[.int .i64 p, .int .i64 n] w fun e w' => e = .returned (.tuple #[.int .i64 (ciA p n).1, .int .i64 (ciA p n).2]) ∧ w = w' := by
  cases hp : okP p with
  | false =>
    have HP := Lib.hid hp
    go_enter Try.func102, Try.ntmps102
    go_wp2_with (go_at_call 147; refine (isPrime_any _ _).mono ?_; rintro e w1 ⟨rfl, rfl⟩; rw [HP.out])
    go_ret2
    exact ⟨by rw [show ciA p n = (0, 1) by unfold ciA; rw [HP.out]; rfl]; rfl, rfl⟩
  | true =>
    have hc := okP_cases hp
    obtain ⟨q, rfl⟩ : ∃ q : Nat, p = (q : Int) := ⟨p.toNat, by omega⟩
    have hq := prime_four hp
    have HP := Lib.hid hp
    clear hp
    by_cases h : 1 ≤ n ∧ n ≤ 20
    · obtain ⟨m, rfl⟩ : ∃ m : Nat, n = (m : Int) := ⟨n.toNat, by omega⟩
      have hm1 : 1 ≤ m := by omega
      have hm2 : m ≤ 20 := by omega
      go_enter Try.func102, Try.ntmps102
      go_wp2_with (first | (go_at_call 147; refine (isPrime_any _ _).mono ?_; rintro e w1 ⟨rfl, rfl⟩; rw [HP.out]) | (go_at_call 190; refine (countIrreducibles_any q hq m hm1 hm2 _).mono ?_; rintro e w1 ⟨rfl, rfl⟩))
      go_ret2
      exact ⟨by rw [show ciA (q : Int) (m : Int) = (ciV q m, 0) by unfold ciA; rw [if_pos HP.out, if_pos h]; rfl]; rfl, rfl⟩
    · go_enter Try.func102, Try.ntmps102
      go_wp2_with (go_at_call 147; refine (isPrime_any _ _).mono ?_; rintro e w1 ⟨rfl, rfl⟩; rw [HP.out])
      all_goals go_ret2
      all_goals exact ⟨by rw [show ciA (q : Int) n = (0, 2) by unfold ciA; rw [if_pos HP.out, if_neg h]]; rfl, rfl⟩
theorem spec_CountIrreducibles_any (p n : Int) (w : World) :
    Calls Try.prog 103 #[.int .i64 p, .int .i64 n] w fun e w' => e = .returned (.tuple #[.int .i64 (ciA p n).1, .int .i64 (ciA p n).2]) ∧ Below w.heap.size w w' := by
  cases hp : okP p with
  | false =>
    have HP := Lib.hid hp
    go_enter Try.func103, Try.ntmps103
    go_wp2_with (go_at_call 173; refine (l01Prime_any _ _).mono ?_; rintro e w1 ⟨rfl, rfl⟩; rw [HP.out])
    go_ret2
    exact ⟨by rw [show ciA p n = (0, 1) by unfold ciA; rw [HP.out]; rfl]; rfl, Below.refl _ _⟩
  | true =>
    have hc := okP_cases hp
    obtain ⟨q, rfl⟩ : ∃ q : Nat, p = (q : Int) := ⟨p.toNat, by omega⟩
    have hq := prime_four hp
    have HP := Lib.hid hp
    clear hp
    by_cases h : 1 ≤ n ∧ n ≤ 20
    · obtain ⟨m, rfl⟩ : ∃ m : Nat, n = (m : Int) := ⟨n.toNat, by omega⟩
      have hm1 : 1 ≤ m := by omega
      have hm2 : m ≤ 20 := by omega
      obtain ⟨f1, f2, f3, f4⟩ := ciOk_facts hq hm2
      have F3 := Lib.hid f3
      have F4 := Lib.hid f4
      clear f1 f2 f3 f4
      go_enter Try.func103, Try.ntmps103
      go_wp2_with (first | (go_at_call 173; refine (l01Prime_any _ _).mono ?_; rintro e w1 ⟨rfl, rfl⟩; rw [HP.out]) | (go_at_call 164; refine (l01In_yes _ _ _ (by omega) _).mono ?_; rintro e w1 ⟨rfl, rfl⟩))
      go_loopw [6, 7] (fun x i wr => ∃ (d : Nat) (X : Int), 1 ≤ d ∧ d ≤ m + 1 ∧ X = ciS q m d ∧ x = .int .i64 X ∧ i = .int .i64 (d : Int) ∧ Below w.heap.size w wr) (fun _ i _ => m + 1 - (intOf i).toNat)
      case atStart => exact ⟨1, 0, by omega, by omega, by rw [ciS_s, if_neg (by omega)]; rfl, rfl, rfl, Below.refl _ _⟩
      case round =>
        obtain ⟨d, X, hd1, hd2, hX, rfl, rfl, hb⟩ := hrel
        have HX := Lib.hid hX; clear hX
        by_cases hlt : d ≤ m
        · obtain ⟨x1, x2⟩ := (F3.out d (by omega)).2
          rw [← HX.out] at x1 x2
          have e1 : (m : Int).tmod (d : Int) = ((m % d : Nat) : Int) := by rw [Int.tmod_eq_emod_of_nonneg (by omega)]; rfl
          by_cases hdv : m % d = 0
          · have e2 : (m : Int).tdiv (d : Int) = ((m / d : Nat) : Int) := by rw [Int.tdiv_eq_ediv_of_nonneg (by omega)]; rfl
            obtain ⟨Q, hQ⟩ : ∃ Q, Q = m / d := ⟨_, rfl⟩
            have hQm : Q ≤ m := by rw [hQ]; exact Nat.div_le_self _ _
            obtain ⟨y1, y2⟩ := pow_big (p := q) (k := Q) (by omega) (by omega) (by omega)
            have z1 := (F4.out d (by omega)).2
            have HS := Lib.hid (show ciS q m (d + 1) = X + muN d * ((q ^ Q : Nat) : Int) by rw [ciS_s, if_pos ⟨hd1, hdv⟩, ← HX.out, hQ]; push_cast; rfl)
            rw [← hQ] at e2
            rw [hdv] at e1
            obtain ⟨V, hV⟩ : ∃ V, V = muN d := ⟨_, rfl⟩
            obtain ⟨Y, hY⟩ : ∃ Y, Y = q ^ Q := ⟨_, rfl⟩
            rw [← hV] at z1
            rw [← hY] at y1 y2
            have HV := Lib.hid hV
            have HY := Lib.hid hY
            have y3 : (Y : Int) ≤ 79792266297612001 := by omega
            have hv : V = -1 ∨ V = 0 ∨ V = 1 := by omega
            have z3 : -79792266297612001 ≤ V * (Y : Int) ∧ V * (Y : Int) ≤ 79792266297612001 := by
              rcases hv with h | h | h <;> subst h <;> constructor <;> omega
            obtain ⟨z3, z4⟩ := z3
            have hb0 : Below wr.heap.size wr wr := Below.refl _ _
            clear hV hY hv hQ hdv
            go_wp2_with fail
            refine wp_region_steps0 Try.mixed (by kernel_rfl) (by kernel_rfl) (fun v => by (simp only [frL, Act.put, List.setIfInBounds_toArray, List.set_cons_zero, List.set_cons_succ, Nat.reduceAdd, Nat.zero_add]; exact rfl))
              (fun L v wx => Below wr.heap.size wr wx ∧ (L 10 = false → v 10 = (.int .i64 X)) ∧ (L 0 = true → v 0 = (.int .i64 X)) ∧ (L 1 = true → v 1 = (.int .i64 (d : Int))) ∧ (L 2 = true → v 2 = (.int .i64 V)) ∧ (L 3 = true → v 3 = (.int .i64 (q : Int))) ∧ (L 4 = true → v 4 = (.int .i64 (m : Int))) ∧ (L 5 = true → v 5 = (.int .i64 (d : Int))) ∧ (L 6 = true → v 6 = (.int .i64 (Q : Int))) ∧ (L 7 = true → v 7 = (.int .i64 (Y : Int))) ∧ (L 8 = true → v 8 = (.int .i64 (V * (Y : Int)))) ∧ (L 9 = true → v 9 = (.int .i64 (X + V * (Y : Int)))) ∧ (L 10 = true → v 10 = (.int .i64 (X + V * (Y : Int))))) ?_ ?_ ?_
            · intro v hv0
              have i10 : v 10 = (.int .i64 X) := hv0 10
              exact ⟨(Below.refl _ _).drew, (fun _ => i10), (fun h => by cases h), (fun h => by cases h), (fun h => by cases h), (fun h => by cases h), (fun h => by cases h), (fun h => by cases h), (fun h => by cases h), (fun h => by cases h), (fun h => by cases h), (fun h => by cases h), (fun h => by cases h)⟩
            · refine (.cons rfl ?_ (.cons rfl ?_ (.cons rfl ?_ (.cons rfl ?_ (.cons rfl ?_ (.cons rfl ?_ (.cons rfl ?_ (.cons rfl ?_ (.cons rfl ?_ (.cons rfl ?_ (.cons rfl ?_ (.nil _))))))))))))
              · intro L v wx hd hn ⟨hS, o10, h0, h1, h2, h3, h4, h5, h6, h7, h8, h9, h10⟩ K hK
                have e10 : v 10 = (.int .i64 X) := by
                  cases hL : L 10 with
                  | false => exact o10 hL
                  | true => exact absurd rfl (hn 10 _ rfl hL ⟨0, .phase⟩ (by simp) rfl)
                go_wp2_with fail
                exact hK _ (.int .i64 X) _ (by simp only [Act.put, List.setIfInBounds_toArray, List.set_cons_zero, List.set_cons_succ, e10]) ⟨hS, o10, fun _ => rfl, h1, h2, h3, h4, h5, h6, h7, h8, h9, h10⟩
              · intro L v wx hd hn ⟨hS, o10, h0, h1, h2, h3, h4, h5, h6, h7, h8, h9, h10⟩ K hK
                go_wp2_with fail
                exact hK _ (.int .i64 (d : Int)) _ (by simp only [Act.put, List.setIfInBounds_toArray, List.set_cons_zero, List.set_cons_succ ]) ⟨hS, o10, h0, fun _ => rfl, h2, h3, h4, h5, h6, h7, h8, h9, h10⟩
              · intro L v wx hd hn ⟨hS, o10, h0, h1, h2, h3, h4, h5, h6, h7, h8, h9, h10⟩ K hK
                have e1 := h1 (hd ⟨1, .data⟩ (by simp) rfl)
                go_wp2_with (go_at_call 191; refine ((l02Moebius_b d _ hd1 (by omega) HV.out)).mono ?_; rintro e wy ⟨rfl, hy⟩)
                exact hK _ (.int .i64 V) _ (by simp only [Act.put, List.setIfInBounds_toArray, List.set_cons_zero, List.set_cons_succ, e1]) ⟨hS.trans (hy.mono hS.size), o10, h0, h1, fun _ => rfl, h3, h4, h5, h6, h7, h8, h9, h10⟩
              · intro L v wx hd hn ⟨hS, o10, h0, h1, h2, h3, h4, h5, h6, h7, h8, h9, h10⟩ K hK
                go_wp2_with fail
                exact hK _ (.int .i64 (q : Int)) _ (by simp only [Act.put, List.setIfInBounds_toArray, List.set_cons_zero, List.set_cons_succ ]) ⟨hS, o10, h0, h1, h2, fun _ => rfl, h4, h5, h6, h7, h8, h9, h10⟩
              · intro L v wx hd hn ⟨hS, o10, h0, h1, h2, h3, h4, h5, h6, h7, h8, h9, h10⟩ K hK
                go_wp2_with fail
                exact hK _ (.int .i64 (m : Int)) _ (by simp only [Act.put, List.setIfInBounds_toArray, List.set_cons_zero, List.set_cons_succ ]) ⟨hS, o10, h0, h1, h2, h3, fun _ => rfl, h5, h6, h7, h8, h9, h10⟩
              · intro L v wx hd hn ⟨hS, o10, h0, h1, h2, h3, h4, h5, h6, h7, h8, h9, h10⟩ K hK
                go_wp2_with fail
                exact hK _ (.int .i64 (d : Int)) _ (by simp only [Act.put, List.setIfInBounds_toArray, List.set_cons_zero, List.set_cons_succ ]) ⟨hS, o10, h0, h1, h2, h3, h4, fun _ => rfl, h6, h7, h8, h9, h10⟩
              · intro L v wx hd hn ⟨hS, o10, h0, h1, h2, h3, h4, h5, h6, h7, h8, h9, h10⟩ K hK
                have e4 := h4 (hd ⟨4, .data⟩ (by simp) rfl)
                have e5 := h5 (hd ⟨5, .data⟩ (by simp) rfl)
                go_wp2_with fail
                exact hK _ (.int .i64 (Q : Int)) _ (by simp only [Act.put, List.setIfInBounds_toArray, List.set_cons_zero, List.set_cons_succ, e4, e5]) ⟨hS, o10, h0, h1, h2, h3, h4, h5, fun _ => rfl, h7, h8, h9, h10⟩
              · intro L v wx hd hn ⟨hS, o10, h0, h1, h2, h3, h4, h5, h6, h7, h8, h9, h10⟩ K hK
                have e3 := h3 (hd ⟨3, .data⟩ (by simp) rfl)
                have e6 := h6 (hd ⟨6, .data⟩ (by simp) rfl)
                go_wp2_with (go_at_call 192; refine ((l02Power_b q Q _ (by omega) (by omega) (by omega) HY.out)).mono ?_; rintro e wy ⟨rfl, hy⟩)
                exact hK _ (.int .i64 (Y : Int)) _ (by simp only [Act.put, List.setIfInBounds_toArray, List.set_cons_zero, List.set_cons_succ, e3, e6]) ⟨hS.trans (hy.mono hS.size), o10, h0, h1, h2, h3, h4, h5, h6, fun _ => rfl, h8, h9, h10⟩
              · intro L v wx hd hn ⟨hS, o10, h0, h1, h2, h3, h4, h5, h6, h7, h8, h9, h10⟩ K hK
                have e2 := h2 (hd ⟨2, .data⟩ (by simp) rfl)
                have e7 := h7 (hd ⟨7, .data⟩ (by simp) rfl)
                go_wp2_with fail
                exact hK _ (.int .i64 (V * (Y : Int))) _ (by simp only [Act.put, List.setIfInBounds_toArray, List.set_cons_zero, List.set_cons_succ, e2, e7]) ⟨hS, o10, h0, h1, h2, h3, h4, h5, h6, h7, fun _ => rfl, h9, h10⟩
              · intro L v wx hd hn ⟨hS, o10, h0, h1, h2, h3, h4, h5, h6, h7, h8, h9, h10⟩ K hK
                have e0 := h0 (hd ⟨0, .data⟩ (by simp) rfl)
                have e8 := h8 (hd ⟨8, .data⟩ (by simp) rfl)
                go_wp2_with fail
                exact hK _ (.int .i64 (X + V * (Y : Int))) _ (by simp only [Act.put, List.setIfInBounds_toArray, List.set_cons_zero, List.set_cons_succ, e0, e8]) ⟨hS, o10, h0, h1, h2, h3, h4, h5, h6, h7, h8, fun _ => rfl, h10⟩
              · intro L v wx hd hn ⟨hS, o10, h0, h1, h2, h3, h4, h5, h6, h7, h8, h9, h10⟩ K hK
                have e9 := h9 (hd ⟨9, .data⟩ (by simp) rfl)
                go_wp2_with fail
                exact hK _ (.int .i64 (X + V * (Y : Int))) _ (by simp only [Act.put, List.setIfInBounds_toArray, List.set_cons_zero, List.set_cons_succ, e9]) ⟨hS, fun h => absurd h (by simp [setL]), h0, h1, h2, h3, h4, h5, h6, h7, h8, h9, fun _ => rfl⟩
            · intro L v wx hL ⟨hS, o10, h0, h1, h2, h3, h4, h5, h6, h7, h8, h9, h10⟩
              have e0 := h0 (hL 0 (by decide))
              have e1 := h1 (hL 1 (by decide))
              have e2 := h2 (hL 2 (by decide))
              have e3 := h3 (hL 3 (by decide))
              have e4 := h4 (hL 4 (by decide))
              have e5 := h5 (hL 5 (by decide))
              have e6 := h6 (hL 6 (by decide))
              have e7 := h7 (hL 7 (by decide))
              have e8 := h8 (hL 8 (by decide))
              have e9 := h9 (hL 9 (by decide))
              have e10 := h10 (hL 10 (by decide))
              clear hL o10 h0 h1 h2 h3 h4 h5 h6 h7 h8 h9 h10
              simp only [Exit.then, e0, e1, e2, e3, e4, e5, e6, e7, e8, e9, e10]
              clear e0 e1 e2 e3 e4 e5 e6 e7 e8 e9 e10

              go_wp2_with fail
              go_roundw
              case rel => exact ⟨d + 1, X + V * (Y : Int), by omega, by omega, by rw [HS.out, ← HV.out, ← HY.out], rfl, by go_num, hb.trans (hS.mono hb.size)⟩
              case measure => simp [intOf]; omega
          · have hne : ((m % d : Nat) : Int) ≠ 0 := by omega
            have HD := Lib.hid hdv
            obtain ⟨r, hr⟩ : ∃ r : Nat, r = m % d := ⟨_, rfl⟩
            rw [← hr] at e1 hne
            clear hdv hr
            go_wp2_with fail
            go_roundw
            case rel => exact ⟨d + 1, X, by omega, by omega, by rw [ciS_s, if_neg (fun h => HD.out h.2), ← HX.out, Int.add_zero], rfl, by go_num, hb⟩
            case measure => simp [intOf]; omega
        · have e : d = m + 1 := by omega
          subst e
          obtain ⟨x1, x2⟩ := (ciOk_facts hq hm2).2.1
          have E2 := Lib.hid (show ciA (q : Int) (m : Int) = (ciS q m (m + 1) / (m : Int), 0) by unfold ciA; rw [if_pos HP.out, if_pos h]; rfl)
          obtain ⟨xb1, xb2⟩ := (F3.out (m + 1) (by omega)).2
          rw [← HX.out] at xb1 xb2
          have hX0 : 0 ≤ X := by
            by_cases hneg : X < 0
            · exfalso
              have h9 := Int.ediv_neg_of_neg_of_pos (b := (m : Int)) hneg (by omega)
              rw [HX.out] at h9
              unfold ciV at x1
              omega
            · omega
          have E3 := Lib.hid (show X / (m : Int) = ciV q m by rw [HX.out]; rfl)
          go_wp2_with fail
          go_ret2
          refine ⟨?_, hb⟩
          have E4 : ciA (q : Int) (m : Int) = (X / (m : Int), 0) := by rw [E2.out, HX.out]
          rw [E4]
          rfl
    · go_enter Try.func103, Try.ntmps103
      go_wp2_with (first | (go_at_call 173; refine (l01Prime_any _ _).mono ?_; rintro e w1 ⟨rfl, rfl⟩; rw [HP.out]) | (go_at_call 164; refine (l01In_no _ _ _ h _).mono ?_; rintro e w1 ⟨rfl, rfl⟩))
      go_ret2
      exact ⟨by rw [show ciA (q : Int) n = (0, 2) by unfold ciA; rw [if_pos HP.out, if_neg h]]; rfl, Below.refl _ _⟩
theorem impl_CountIrreducibles_b (p n : Int) (w : World) :
    Calls Try.prog 102 #[.int .i64 p, .int .i64 n] w fun e w' => e = .returned (.tuple #[.int .i64 (ciA p n).1, .int .i64 (ciA p n).2]) ∧ Below w.heap.size w w' :=
  (impl_CountIrreducibles_any p n w).mono fun e w' ⟨h, hw⟩ => ⟨h, hw ▸ Below.refl _ _⟩
end Go.Proofs.Ytkaaffccklkafaa
