/-
  Walks: the Euler number of a polynomial.
-/
import Derived.Test.YtpeehpaghdddgaaW45
namespace Go.Proofs.Ytpeehpaghdddgaa
open Go Go.RowKit
set_option linter.unusedVariables false
set_option linter.unusedSimpArgs false
attribute [local irreducible] deg facRows run
/-- the units of a factor x -/
def euU (p : Nat) (x : Nat × Nat) : Nat := (p ^ (deg (ofN p x.1)).toNat - 1) * p ^ ((deg (ofN p x.1)).toNat * (x.2 - 1))
def euG (p : Nat) : Nat → List (Nat × Nat) → Nat
  | t, [] => t
  | t, x :: l => euG p (t * euU p x) l
theorem euG_end {p t : Nat} {R : List (Nat × Nat)} {j : Nat} (h : R.length ≤ j) : euG p t (R.drop j) = t := by rw [List.drop_eq_nil_of_le h]; rfl
theorem euG_next {p t : Nat} {R : List (Nat × Nat)} {j : Nat} {x : Nat × Nat} (h : R[j]? = some x) : euG p t (R.drop j) = euG p (t * euU p x) (R.drop (j + 1)) := by
  obtain ⟨hj, e⟩ := List.getElem?_eq_some_iff.1 h
  rw [List.drop_eq_getElem_cons hj, e]; rfl
theorem wtS_next {p : Nat} {R : List (Nat × Nat)} {j : Nat} {x : Nat × Nat} (h : R[j]? = some x) : wtS p (R.drop j) = (deg (ofN p x.1)).toNat * x.2 + wtS p (R.drop (j + 1)) := by
  obtain ⟨hj, e⟩ := List.getElem?_eq_some_iff.1 h
  rw [List.drop_eq_getElem_cons hj, e]; rfl
/-- the numbers of one round -/
theorem eu_round {p d k0 t s : Nat} (hp2 : 2 ≤ p) (hp7 : p ≤ 7) (ht : t ≤ p ^ s) (h : s + d * (k0 + 1) ≤ 12) :
    t * ((p ^ d - 1) * p ^ (d * k0)) ≤ p ^ (s + d * (k0 + 1)) ∧ t * (p ^ d - 1) ≤ 13841287201 ∧ (p ^ d - 1) * p ^ (d * k0) ≤ 13841287201 ∧ t * ((p ^ d - 1) * p ^ (d * k0)) ≤ 13841287201 ∧ t ≤ 13841287201 ∧ 1 ≤ p ^ d ∧ p ^ d ≤ 13841287201 ∧ p ^ (d * k0) ≤ 13841287201 ∧ d ≤ 12 ∧ d * k0 ≤ 12 ∧ ∀ k, k ≤ k0 → (p ^ d) ^ k ≤ 13841287201 := by
  have p0 : 0 < p := by omega
  have hdk : d * (k0 + 1) = d * k0 + d := Nat.mul_succ d k0
  have mono : ∀ {a b : Nat}, a ≤ b → p ^ a ≤ p ^ b := fun hab => Nat.pow_le_pow_right p0 hab
  have top : ∀ {a : Nat}, a ≤ 12 → p ^ a ≤ 13841287201 := fun ha => mon_bound hp7 ha
  have e1 : (p ^ d - 1) * p ^ (d * k0) ≤ p ^ (d * (k0 + 1)) := by
    rw [hdk, Nat.add_comm, Nat.pow_add]
    exact Nat.mul_le_mul_right _ (Nat.sub_le _ _)
  have e2 : t * ((p ^ d - 1) * p ^ (d * k0)) ≤ p ^ (s + d * (k0 + 1)) := by
    rw [Nat.pow_add]; exact Nat.mul_le_mul ht e1
  have e3 : t * (p ^ d - 1) ≤ p ^ (s + d) := by
    rw [Nat.pow_add]; exact Nat.mul_le_mul ht (Nat.sub_le _ _)
  refine ⟨e2, Nat.le_trans e3 (top (by omega)), Nat.le_trans e1 (top (by omega)), Nat.le_trans e2 (top h), Nat.le_trans ht (top (by omega)), Nat.pos_of_ne_zero (by have := Nat.pow_pos (n := d) p0; omega), top (by omega), top (by omega), by omega, by omega, fun k hk => ?_⟩
  rw [← Nat.pow_mul]
  exact top (by have := Nat.mul_le_mul_left d hk; omega)
set_option maxRecDepth 100000 in
set_option maxHeartbeats 3200000 in
theorem l02PowerG (q n : Nat) (w : World) (hn : n ≤ 20) (hq1 : 1 ≤ q) (hq2 : q ≤ 13841287201) (hB : ∀ k, k ≤ n → q ^ k ≤ 13841287201) :
    Calls Try.prog 148 #[.int .i64 (q : Int), .int .i64 (n : Int)] w fun e w' => e = .returned (.int .i64 ((q ^ n : Nat) : Int)) ∧ w = w' := by
  have HB := Lib.hid hB
  clear hB
  go_enter Try.func148, Try.ntmps148
  go_wp2_with fail
  go_loopw [5, 1] (fun x i wr => ∃ k j X : Nat, k + j = n ∧ X = q ^ k ∧ x = .int .i64 (X : Int) ∧ i = .int .i64 (j : Int) ∧ wr = w) (fun _ i _ => (intOf i).toNat)
  case atStart => exact ⟨0, n, 1, by omega, rfl, rfl, rfl, rfl⟩
  case round =>
    obtain ⟨k, j, X, hk, hX, rfl, rfl, rfl⟩ := hrel
    have x1 := HB.out k (by omega)
    rw [← hX] at x1
    have HK := Lib.hid hk
    have hj20 : j ≤ 20 := by omega
    clear hk
    by_cases hlt : 0 < j
    · have y1 := HB.out (k + 1) (by have := HK.out; omega)
      rw [Nat.pow_succ, ← hX] at y1
      have HX := Lib.hid hX; clear hX
      have z1 : ((X * q : Nat) : Int) ≤ 13841287201 := by omega
      have z2 : 0 ≤ ((X * q : Nat) : Int) := by omega
      rw [Int.natCast_mul] at z1 z2
      clear y1
      go_wp2_with fail
      go_roundw
      case rel => exact ⟨k + 1, j - 1, X * q, by have := HK.out; omega, by rw [Nat.pow_succ, ← HX.out], by go_num, by rw [show ((j - 1 : Nat) : Int) = (j : Int) - 1 by omega], trivial⟩
      case measure => simp [intOf]; omega
    · have e : j = 0 := by omega
      subst e
      have HX := Lib.hid hX; clear hX
      go_wp2_with fail
      go_ret
      exact ⟨ret_int (congrArg (fun x : Nat => (x : Int)) (by rw [HX.out, show k = n by have := HK.out; omega])), rfl⟩
set_option maxRecDepth 100000 in
set_option maxHeartbeats 3200000 in
theorem l02Euler_any (n : Nat) (f : Nat → Nat) (w : World) (hpr : n = 2 ∨ n = 3 ∨ n = 5 ∨ n = 7) (lf : ∀ k, k < 64 → f k < n) (hr1 : 0 ≤ deg f) (hr2 : deg f ≤ 12) :
    Calls Try.prog 107 #[.int .i64 (n : Int), .agg (bcells 64 f)] w fun e w' => e = .returned (.int .i64 ((euG n 1 (run n 64 1 f) : Nat) : Int)) ∧ Below w.heap.size w w' := by
  have n2 : 2 ≤ n := by omega
  have n7 : n ≤ 7 := by omega
  obtain ⟨R, hR⟩ : ∃ R, R = run n 64 1 f := ⟨_, rfl⟩
  have HFA := Lib.hid (show ∀ W, Calls Try.prog 104 #[.int .i64 (n : Int), .agg (bcells 64 f)] W fun e w' => ∃ v, e = .returned v ∧ SlL w' W.heap.size 102 65 v (facRows n R) ∧ Below W.heap.size W w' by
    intro W
    have := l02Split_any n f W hpr lf (by omega) (by omega)
    unfold FaF at this
    rw [← hR] at this
    exact this)
  have hRk := run_ok hpr lf hr1 hr2
  rw [← hR] at hRk ⊢
  obtain ⟨hR12, hWT, hEL⟩ := hRk
  have HEL := Lib.hid hEL
  clear hR hEL
  go_enter Try.func107, Try.ntmps107
  go_upto_region 1 with (fail)
  obtain ⟨W1, hwo⟩ : ∃ v : World, v = (w.alloc (.cells (bcells 64 (f)) 26)) := ⟨_, rfl⟩
  have B0 : Blk W1 (w.heap.size) 64 26 (f) := by subst hwo; have := (Blk.new w 64 26 (f)); simpa using this
  have hb : Below w.heap.size w W1 := by subst hwo; exact ((Below.refl _ _).alloc (Nat.le_refl _) _)
  rw [← hwo]
  clear hwo
  go_upto_region 2 with (first | (refine wpList_load_any rfl 26 (.tmp 3) rfl _ rfl 64 26 _ B0 _ Try.underlying26 rfl Try.size26 ?_) | (go_at_call 104; refine (HFA.out _).mono ?_; rintro e W2 ⟨lst, rfl, hS, hW2⟩; replace B0 := B0.below hW2 B0.lt; have hbw := hb.size; replace hb := (hb).trans (hW2.mono (hb).size); replace hS := hS.base hbw; obtain ⟨a0, cap, rfl⟩ : ∃ a cap, lst = .slice a R.length cap := (by rcases hS.shape with ⟨h1, h2⟩ | ⟨g, cap, h1⟩; (· have h3 := congrArg List.length h2; rw [facRows_len] at h3; exact ⟨_, _, by rw [h1, show R.length = 0 from h3]⟩); (· exact ⟨_, _, by rw [h1, facRows_len]⟩))))
  clear HFA hW2 hbw
  go_wp2_with fail
  go_loopw [6, 7] (fun s i wr => ∃ (j t s0 : Nat), s = .int .i64 (t : Int) ∧ i = .int .i64 (j : Int) ∧ j ≤ R.length ∧ s0 + wtS n (R.drop j) ≤ 12 ∧ Hid (t ≤ n ^ s0) ∧ Hid (euG n 1 R = euG n t (R.drop j)) ∧ Below w.heap.size w wr ∧ SlL wr w.heap.size 102 65 (.slice a0 R.length cap) (facRows n R)) (fun _ i _ => R.length - (intOf i).toNat)
  case atStart => exact ⟨0, 1, 0, rfl, rfl, Nat.zero_le _, by show 0 + wtS n R ≤ 12; omega, Lib.hid (by rw [Nat.pow_zero]; exact Nat.le_refl _), Lib.hid rfl, hb, hS⟩
  case round =>
    clear hb hS B0
    obtain ⟨j, t, s0, rfl, rfl, hjR, hsw, ht, hE, hb, hS⟩ := hrel
    by_cases hj : j < R.length
    · obtain ⟨x, hx⟩ : ∃ x, R[j]? = some x := ⟨_, List.getElem?_eq_getElem hj⟩
      obtain ⟨hk1, hd1⟩ := HEL.out x (List.mem_of_getElem? hx)
      have hwn := wtS_next (p := n) hx
      have hen := euG_next (p := n) (t := t) hx
      have hrow : (facRows n R)[j]? = some (facC (ofN n x.1) x.2) := by unfold facRows; rw [List.getElem?_map, hx]; rfl
      unfold euU at hen
      obtain ⟨N, K⟩ := x
      dsimp only at hk1 hd1 hwn hen hrow
      obtain ⟨k0, rfl⟩ : ∃ k, K = k + 1 := ⟨K - 1, by omega⟩
      obtain ⟨d, hd⟩ : ∃ d, d = (deg (ofN n N)).toNat := ⟨_, rfl⟩
      have hdd : deg (ofN n N) = (d : Int) := by omega
      rw [← hd] at hwn hen
      rw [Nat.add_sub_cancel] at hen
      obtain ⟨r1, r2, r3, r4, r5, r6, r7, r8, r9, r10, r11⟩ := eu_round (d := d) (k0 := k0) n2 n7 ht.out (s := s0) (by omega)
      obtain ⟨q, hq⟩ : ∃ q, q = n ^ d := ⟨_, rfl⟩
      obtain ⟨P, hP⟩ : ∃ P, P = n ^ (d * k0) := ⟨_, rfl⟩
      rw [← hq] at r1 r2 r3 r4 r6 r7 r11 hen
      rw [← hP] at r1 r3 r4 r8 hen
      have hk12 : k0 ≤ 12 := by
        have : 1 * k0 ≤ d * k0 := Nat.mul_le_mul_right k0 (by omega)
        omega
      have c1 : ((q - 1 : Nat) : Int) = (q : Int) - 1 := by omega
      have z1 : (t : Int) * ((q : Int) - 1) ≤ 13841287201 := by rw [← c1, ← Int.natCast_mul]; omega
      have z2 : 0 ≤ (t : Int) * ((q : Int) - 1) := by rw [← c1, ← Int.natCast_mul]; omega
      have z3 : ((q : Int) - 1) * (P : Int) ≤ 13841287201 := by rw [← c1, ← Int.natCast_mul]; omega
      have z4 : 0 ≤ ((q : Int) - 1) * (P : Int) := by rw [← c1, ← Int.natCast_mul]; omega
      have z5 : (t : Int) * (((q : Int) - 1) * (P : Int)) ≤ 13841287201 := by rw [← c1, ← Int.natCast_mul, ← Int.natCast_mul]; omega
      have z6 : 0 ≤ (t : Int) * (((q : Int) - 1) * (P : Int)) := by rw [← c1, ← Int.natCast_mul, ← Int.natCast_mul]; omega
      have z7 : (d : Int) * (k0 : Int) ≤ 12 := by rw [← Int.natCast_mul]; omega
      have z8 : 0 ≤ (d : Int) * (k0 : Int) := by rw [← Int.natCast_mul]; omega
      have z9 : (t : Int) * ((q : Int) - 1) * (P : Int) ≤ 13841287201 := by rw [Int.mul_assoc]; exact z5
      have z10 : 0 ≤ (t : Int) * ((q : Int) - 1) * (P : Int) := by rw [Int.mul_assoc]; exact z6
      have HT := Lib.hid (show (t : Int) * (((q : Int) - 1) * (P : Int)) = ((t * ((q - 1) * P) : Nat) : Int) by rw [← c1, ← Int.natCast_mul, ← Int.natCast_mul])
      have HR1 := Lib.hid r1
      have HE2 := Lib.hid (show euG n 1 R = euG n (t * ((q - 1) * P)) (R.drop (j + 1)) by rw [hE.out, hen])
      have hsw2 : s0 + d * (k0 + 1) + wtS n (R.drop (j + 1)) ≤ 12 := by omega
      obtain ⟨S2, hS2⟩ : ∃ S, S = s0 + d * (k0 + 1) := ⟨_, rfl⟩
      rw [← hS2] at hsw2 HR1
      have HSW := Lib.hid hsw2
      obtain ⟨g, rfl⟩ := hS.some (by rw [facRows_len]; omega)
      have hjl : (j : Int) < (R.length : Int) := by omega
      have q1 : 1 ≤ (q : Int) := by omega
      have q2 : (q : Int) ≤ 13841287201 := by omega
      have P2 : (P : Int) ≤ 13841287201 := by omega
      have t2 : (t : Int) ≤ 13841287201 := by omega
      have HN1 := Lib.hid (show ∀ W, Calls Try.prog 148 #[.int .i64 (n : Int), .int .i64 (d : Int)] W fun e w' => e = .returned (.int .i64 (q : Int)) ∧ W = w' by
        intro W; rw [hq]; exact l02Power_any n d W n2 n7 (by omega))
      have HN2 := Lib.hid (show ∀ W, Calls Try.prog 148 #[.int .i64 (q : Int), .int .i64 (k0 : Int)] W fun e w' => e = .returned (.int .i64 (P : Int)) ∧ W = w' by
        intro W; have := l02PowerG q k0 W (by omega) r6 r7 r11; rwa [hq, ← Nat.pow_mul, ← hP, ← hq] at this)
      have HDG := Lib.hid (show ∀ W, Calls Try.prog 77 #[.agg (bcells 64 (ofN n N))] W fun e w' => e = .returned (.int .i64 (d : Int)) ∧ Below W.heap.size W w' by
        intro W; rw [← hdd]; exact l01Deg_any _ W)
      clear hd hdd hwn hen hx r1 r2 r3 r4 r5 r6 r7 r8 r9 r10 r11 c1 hq hP ht hE hsw hsw2 hS2 hk1 hd1
      have hr := hS.range hrow
      have B1 := hS.top
      have B2 : SzG wr.heap.size wr := Nat.le_refl _
      clear hS
      have hr2 : wr.rangeAt g (j * 65) (bl 64 (ofN n N)) := fun j u hu => hr j u (by unfold facC; rw [List.getElem?_append_left (List.getElem?_eq_some_iff.1 hu).1]; exact hu)
      clear hr
      go_upto_region 5 with (fail)
      go_upto_region 6 with (first | (refine wpList_load_mid rfl 26 (.tmp 22) rfl g (j * 65) rfl (bl 64 (ofN n N)) _ hr2 Try.underlying26 rfl (by rw [bl_length]; exact Try.size26) ?_) | (go_at_call 77; refine (HDG.out _).mono ?_; rintro e W3 ⟨rfl, hW3⟩; replace B1 := B1.below hW3 B1.lt; replace B2 := B2.below hW3 B2.lt; replace hb := (hb).trans (hW3.mono (hb).size)) | (go_at_call 148; refine (HN1.out _).mono ?_; rintro e wS ⟨rfl, rfl⟩))
      clear hr2 HDG
      have cc := B1.1.range hrow 64 (.int .i64 ((k0 + 1 : Nat) : Int)) (by simpa using facC_at (ofN n N) (k0 + 1))
      go_wp2_with (first | (go_at_call 148; refine (HN2.out _).mono ?_; rintro e wS ⟨rfl, rfl⟩))
      go_roundw
      case rel => exact ⟨j + 1, t * ((q - 1) * P), S2, by rw [Int.mul_assoc, HT.out], by go_num, by omega, HSW.out, HR1, HE2, hb, B1.1⟩
      case measure => simp [intOf] <;> omega
    · have hjl : ¬ (j : Int) < (R.length : Int) := by omega
      have HV := Lib.hid (show euG n 1 R = t by rw [hE.out, euG_end (by omega)])
      go_wp2_with fail
      go_ret
      exact ⟨by rw [HV.out]; rfl, hb⟩
set_option maxRecDepth 100000 in
set_option maxHeartbeats 3200000 in
theorem eulerOf_any (n : Nat) (f : Nat → Nat) (w : World) (hpr : n = 2 ∨ n = 3 ∨ n = 5 ∨ n = 7) (lf : ∀ k, k < 64 → f k < n) (hr1 : 0 ≤ deg f) (hr2 : deg f ≤ 12) :
    Calls Try.prog 108 #[.int .i64 (n : Int), .agg (bcells 64 f)] w fun e w' => e = .returned (.int .i64 ((euG n 1 (run n 64 1 f) : Nat) : Int)) ∧ Below w.heap.size w w' := by
  have n2 : 2 ≤ n := by omega
  have n7 : n ≤ 7 := by omega
  obtain ⟨R, hR⟩ : ∃ R, R = run n 64 1 f := ⟨_, rfl⟩
  have HFA := Lib.hid (show ∀ W, Calls Try.prog 105 #[.int .i64 (n : Int), .agg (bcells 64 f)] W fun e w' => ∃ v, e = .returned v ∧ SlL w' W.heap.size 102 65 v (facRows n R) ∧ Below W.heap.size W w' by
    intro W
    have := factorsOf_any n f W hpr lf (by omega) (by omega)
    unfold FaF at this
    rw [← hR] at this
    exact this)
  have hRk := run_ok hpr lf hr1 hr2
  rw [← hR] at hRk ⊢
  obtain ⟨hR12, hWT, hEL⟩ := hRk
  have HEL := Lib.hid hEL
  clear hR hEL
  go_enter Try.func108, Try.ntmps108
  go_upto_region 1 with (fail)
  obtain ⟨W1, hwo⟩ : ∃ v : World, v = (w.alloc (.cells (bcells 64 (f)) 26)) := ⟨_, rfl⟩
  have B0 : Blk W1 (w.heap.size) 64 26 (f) := by subst hwo; have := (Blk.new w 64 26 (f)); simpa using this
  have hb : Below w.heap.size w W1 := by subst hwo; exact ((Below.refl _ _).alloc (Nat.le_refl _) _)
  rw [← hwo]
  clear hwo
  go_upto_region 2 with (fail)
  go_upto_region 3 with (first | (refine wpList_load_any rfl 26 (.tmp 3) rfl _ rfl 64 26 _ B0 _ Try.underlying26 rfl Try.size26 ?_) | (go_at_call 105; refine (HFA.out _).mono ?_; rintro e W2 ⟨lst, rfl, hS, hW2⟩; replace B0 := B0.below hW2 B0.lt; have hbw := hb.size; replace hb := (hb).trans (hW2.mono (hb).size); replace hS := hS.base hbw; obtain ⟨a0, cap, rfl⟩ : ∃ a cap, lst = .slice a R.length cap := (by rcases hS.shape with ⟨h1, h2⟩ | ⟨g, cap, h1⟩; (· have h3 := congrArg List.length h2; rw [facRows_len] at h3; exact ⟨_, _, by rw [h1, show R.length = 0 from h3]⟩); (· exact ⟨_, _, by rw [h1, facRows_len]⟩))))
  clear HFA hW2 hbw
  go_wp2_with fail
  go_loopw [5, 13] (fun s i wr => ∃ (j t s0 : Nat), s = .int .i64 (t : Int) ∧ i = .int .i64 (j : Int) ∧ j ≤ R.length ∧ s0 + wtS n (R.drop j) ≤ 12 ∧ Hid (t ≤ n ^ s0) ∧ Hid (euG n 1 R = euG n t (R.drop j)) ∧ Below w.heap.size w wr ∧ SlL wr w.heap.size 102 65 (.slice a0 R.length cap) (facRows n R)) (fun _ i _ => R.length - (intOf i).toNat)
  case atStart => exact ⟨0, 1, 0, rfl, rfl, Nat.zero_le _, by show 0 + wtS n R ≤ 12; omega, Lib.hid (by rw [Nat.pow_zero]; exact Nat.le_refl _), Lib.hid rfl, hb, hS⟩
  case round =>
    clear hb hS B0
    obtain ⟨j, t, s0, rfl, rfl, hjR, hsw, ht, hE, hb, hS⟩ := hrel
    by_cases hj : j < R.length
    · obtain ⟨x, hx⟩ : ∃ x, R[j]? = some x := ⟨_, List.getElem?_eq_getElem hj⟩
      obtain ⟨hk1, hd1⟩ := HEL.out x (List.mem_of_getElem? hx)
      have hwn := wtS_next (p := n) hx
      have hen := euG_next (p := n) (t := t) hx
      have hrow : (facRows n R)[j]? = some (facC (ofN n x.1) x.2) := by unfold facRows; rw [List.getElem?_map, hx]; rfl
      unfold euU at hen
      obtain ⟨N, K⟩ := x
      dsimp only at hk1 hd1 hwn hen hrow
      obtain ⟨k0, rfl⟩ : ∃ k, K = k + 1 := ⟨K - 1, by omega⟩
      obtain ⟨d, hd⟩ : ∃ d, d = (deg (ofN n N)).toNat := ⟨_, rfl⟩
      have hdd : deg (ofN n N) = (d : Int) := by omega
      rw [← hd] at hwn hen
      rw [Nat.add_sub_cancel] at hen
      obtain ⟨r1, r2, r3, r4, r5, r6, r7, r8, r9, r10, r11⟩ := eu_round (d := d) (k0 := k0) n2 n7 ht.out (s := s0) (by omega)
      obtain ⟨q, hq⟩ : ∃ q, q = n ^ d := ⟨_, rfl⟩
      obtain ⟨P, hP⟩ : ∃ P, P = n ^ (d * k0) := ⟨_, rfl⟩
      rw [← hq] at r1 r2 r3 r4 r6 r7 r11 hen
      rw [← hP] at r1 r3 r4 r8 hen
      have hk12 : k0 ≤ 12 := by
        have : 1 * k0 ≤ d * k0 := Nat.mul_le_mul_right k0 (by omega)
        omega
      have c1 : ((q - 1 : Nat) : Int) = (q : Int) - 1 := by omega
      have z1 : (t : Int) * ((q : Int) - 1) ≤ 13841287201 := by rw [← c1, ← Int.natCast_mul]; omega
      have z2 : 0 ≤ (t : Int) * ((q : Int) - 1) := by rw [← c1, ← Int.natCast_mul]; omega
      have z3 : ((q : Int) - 1) * (P : Int) ≤ 13841287201 := by rw [← c1, ← Int.natCast_mul]; omega
      have z4 : 0 ≤ ((q : Int) - 1) * (P : Int) := by rw [← c1, ← Int.natCast_mul]; omega
      have z5 : (t : Int) * (((q : Int) - 1) * (P : Int)) ≤ 13841287201 := by rw [← c1, ← Int.natCast_mul, ← Int.natCast_mul]; omega
      have z6 : 0 ≤ (t : Int) * (((q : Int) - 1) * (P : Int)) := by rw [← c1, ← Int.natCast_mul, ← Int.natCast_mul]; omega
      have z7 : (d : Int) * (k0 : Int) ≤ 12 := by rw [← Int.natCast_mul]; omega
      have z8 : 0 ≤ (d : Int) * (k0 : Int) := by rw [← Int.natCast_mul]; omega
      have z9 : (t : Int) * ((q : Int) - 1) * (P : Int) ≤ 13841287201 := by rw [Int.mul_assoc]; exact z5
      have z10 : 0 ≤ (t : Int) * ((q : Int) - 1) * (P : Int) := by rw [Int.mul_assoc]; exact z6
      have HT := Lib.hid (show (t : Int) * (((q : Int) - 1) * (P : Int)) = ((t * ((q - 1) * P) : Nat) : Int) by rw [← c1, ← Int.natCast_mul, ← Int.natCast_mul])
      have HR1 := Lib.hid r1
      have HE2 := Lib.hid (show euG n 1 R = euG n (t * ((q - 1) * P)) (R.drop (j + 1)) by rw [hE.out, hen])
      have hsw2 : s0 + d * (k0 + 1) + wtS n (R.drop (j + 1)) ≤ 12 := by omega
      obtain ⟨S2, hS2⟩ : ∃ S, S = s0 + d * (k0 + 1) := ⟨_, rfl⟩
      rw [← hS2] at hsw2 HR1
      have HSW := Lib.hid hsw2
      obtain ⟨g, rfl⟩ := hS.some (by rw [facRows_len]; omega)
      have hjl : (j : Int) < (R.length : Int) := by omega
      have q1 : 1 ≤ (q : Int) := by omega
      have q2 : (q : Int) ≤ 13841287201 := by omega
      have P2 : (P : Int) ≤ 13841287201 := by omega
      have t2 : (t : Int) ≤ 13841287201 := by omega
      have HN1 := Lib.hid (show ∀ W, Calls Try.prog 102 #[.int .i64 (n : Int), .int .i64 (d : Int)] W fun e w' => e = .returned (.int .i64 (q : Int)) ∧ Below W.heap.size W w' by
        intro W; rw [hq]; exact (norm_any n d W n2 n7 (by omega)).mono (by rintro e w' ⟨rfl, rfl⟩; exact ⟨rfl, Below.refl _ _⟩))
      have HN2 := Lib.hid (show ∀ W, Calls Try.prog 102 #[.int .i64 (n : Int), .int .i64 ((d : Int) * (k0 : Int))] W fun e w' => e = .returned (.int .i64 (P : Int)) ∧ Below W.heap.size W w' by
        intro W; rw [hP, ← Int.natCast_mul]; exact (norm_any n (d * k0) W n2 n7 (by omega)).mono (by rintro e w' ⟨rfl, rfl⟩; exact ⟨rfl, Below.refl _ _⟩))
      have HDG := Lib.hid (show ∀ W, Calls Try.prog 84 #[.agg (bcells 64 (ofN n N))] W fun e w' => e = .returned (.int .i64 (d : Int)) ∧ Below W.heap.size W w' by
        intro W; rw [← hdd]; exact degree_any _ W)
      clear hd hdd hwn hen hx r1 r2 r3 r4 r5 r6 r7 r8 r9 r10 r11 c1 hq hP ht hE hsw hsw2 hS2 hk1 hd1
      have hr := hS.range hrow
      have B1 := hS.top
      have B2 : SzG wr.heap.size wr := Nat.le_refl _
      clear hS
      go_upto_region 4 with (fail)
      have lt_B1 := B1.lt
      have lt_B2 := B2.lt
      go_upto_region 5 with (first | rw [← zero64] | rw [← facC_zero] | (refine wpList_load_mid rfl 102 (.tmp 15) rfl g (j * 65) rfl (facC (ofN n N) (k0 + 1)) _ hr Try.underlying102 rfl (by rw [facC_len]; exact Try.size102) ?_) | (refine wpList_store_rowv rfl 102 (.tmp 7) (.tmp 16) rfl _ rfl (facC (ofN n N) (k0 + 1)).toArray rfl 102 _ ((Row.new wr 102 (facC (fun _ => 0) 0).toArray)) 65 Try.size102 (by simp [facC_len]) (by simp [facC_len]) (facC_all _ _) ?_; try simp only [Act.put]))
      have lt_B1 := B1.lt
      have lt_B2 := B2.lt
      have lhb := hb.size
      have qB1 : SlT ((wr.alloc (.cells (facC (fun _ => 0) 0).toArray 102)).setRow (wr.heap.size) (facC (ofN n N) (k0 + 1)).toArray) w.heap.size wr.heap.size 102 65 (.slice (some ⟨g, 0, none⟩) R.length cap) (facRows n R) := ((B1.alloc (.cells (facC (fun _ => 0) 0).toArray 102)).rowOther (by omega))
      have qB2 : SzG wr.heap.size ((wr.alloc (.cells (facC (fun _ => 0) 0).toArray 102)).setRow (wr.heap.size) (facC (ofN n N) (k0 + 1)).toArray) := ((B2.alloc (.cells (facC (fun _ => 0) 0).toArray 102)).rowOther (by omega))
      have qB3 : Row ((wr.alloc (.cells (facC (fun _ => 0) 0).toArray 102)).setRow (wr.heap.size) (facC (ofN n N) (k0 + 1)).toArray) (wr.heap.size) 102 (facC (ofN n N) (k0 + 1)).toArray := ((Row.new wr 102 (facC (fun _ => 0) 0).toArray).row (facC (ofN n N) (k0 + 1)).toArray)
      have qhb : Below w.heap.size w ((wr.alloc (.cells (facC (fun _ => 0) 0).toArray 102)).setRow (wr.heap.size) (facC (ofN n N) (k0 + 1)).toArray) := (below_row (hb.alloc (by have := hb.size; simp; omega) (.cells (facC (fun _ => 0) 0).toArray 102)) (by omega) _)
      obtain ⟨W3, hwo⟩ : ∃ v : World, v = ((wr.alloc (.cells (facC (fun _ => 0) 0).toArray 102)).setRow (wr.heap.size) (facC (ofN n N) (k0 + 1)).toArray) := ⟨_, rfl⟩
      rw [← hwo] at qB1 qB2 qB3 qhb ⊢
      clear hwo
      clear B1 B2 hb
      have B1 := qB1
      have B2 := qB2
      have B3 := qB3
      have hb := qhb
      clear qB1 qB2 qB3 qhb
      obtain ⟨N1, hNN⟩ : ∃ n : Nat, n = wr.heap.size := ⟨_, rfl⟩
      rw [← hNN] at lt_B1 lt_B2 lhb B3 ⊢
      clear hNN
      have zN1_1 := lt_B1
      have zN1_2 := lt_B2
      have zN1 := lhb
      clear lt_B1 lt_B2 lhb
      try simp only [Act.put, List.setIfInBounds_toArray, List.set_cons_zero, List.set_cons_succ]
      clear hr
      have hr2 : W3.rangeAt N1 0 (bl 64 (ofN n N)) := fun j u hu => B3.range j u (by unfold facC; rw [List.getElem?_append_left (List.getElem?_eq_some_iff.1 hu).1]; exact hu)
      go_upto_region 6 with (first | (refine wpList_load_mid rfl 26 (.tmp 17) rfl N1 0 rfl (bl 64 (ofN n N)) _ hr2 Try.underlying26 rfl (by rw [bl_length]; exact Try.size26) ?_) | (go_at_call 84; refine (HDG.out _).mono ?_; rintro e W4 ⟨rfl, hW4⟩; replace B1 := B1.below hW4 B1.lt; replace B2 := B2.below hW4 B2.lt; replace B3 := B3.below hW4 B3.lt; replace hb := (hb).trans (hW4.mono (hb).size)))
      clear hr2 HDG
      have lt_B1 : (w.heap.size) ≤ W4.heap.size := B1.lt
      have lt_B2 : (wr.heap.size) ≤ W4.heap.size := B2.lt
      have lt_B3 : (N1) < W4.heap.size := B3.lt
      have hbase : w.heap.size ≤ W4.heap.size := hb.size
      refine wp_region_steps0 Try.mixed (by kernel_rfl) (by kernel_rfl) (fun v => by (simp only [frL, Act.put, List.setIfInBounds_toArray, List.set_cons_zero, List.set_cons_succ, Nat.reduceAdd, Nat.zero_add]; exact rfl))
        (fun L v W5 => Below w.heap.size w W5 ∧ W4.heap.size ≤ W5.heap.size ∧ SlT W5 w.heap.size wr.heap.size 102 65 (.slice (some ⟨g, 0, none⟩) R.length cap) (facRows n R) ∧ SzG wr.heap.size W5 ∧ Row W5 (N1) 102 (facC (ofN n N) (k0 + 1)).toArray ∧ (L 14 = false → v 14 = (.int .i64 (t : Int))) ∧ (L 0 = true → v 0 = (.int .i64 (t : Int))) ∧ (L 1 = true → v 1 = (.int .i64 (n : Int))) ∧ (L 2 = true → v 2 = (.int .i64 (d : Int))) ∧ (L 3 = true → v 3 = (.int .i64 (q : Int))) ∧ (L 4 = true → v 4 = (.int .i64 ((q : Int) - 1))) ∧ (L 5 = true → v 5 = (.int .i64 (n : Int))) ∧ (L 6 = true → v 6 = (.int .i64 (d : Int))) ∧ (L 7 = true → v 7 = (.pointer (some ⟨N1, 64, none⟩))) ∧ (L 8 = true → v 8 = (.int .i64 ((k0 : Int) + 1))) ∧ (L 9 = true → v 9 = (.int .i64 (k0 : Int))) ∧ (L 10 = true → v 10 = (.int .i64 ((d : Int) * (k0 : Int)))) ∧ (L 11 = true → v 11 = (.int .i64 (P : Int))) ∧ (L 12 = true → v 12 = (.int .i64 (((q : Int) - 1) * (P : Int)))) ∧ (L 13 = true → v 13 = (.int .i64 ((t : Int) * (((q : Int) - 1) * (P : Int))))) ∧ (L 14 = true → v 14 = (.int .i64 ((t : Int) * (((q : Int) - 1) * (P : Int)))))) ?_ ?_ ?_
      · intro v hv0
        have i14 : v 14 = (.int .i64 (t : Int)) := hv0 14
        exact ⟨hb.drew, Nat.le_refl _, B1.drew, B2.drew, B3.drew, (fun _ => i14), (fun h => by cases h), (fun h => by cases h), (fun h => by cases h), (fun h => by cases h), (fun h => by cases h), (fun h => by cases h), (fun h => by cases h), (fun h => by cases h), (fun h => by cases h), (fun h => by cases h), (fun h => by cases h), (fun h => by cases h), (fun h => by cases h), (fun h => by cases h), (fun h => by cases h)⟩
      · refine (.cons rfl ?_ (.cons rfl ?_ (.cons rfl ?_ (.cons rfl ?_ (.cons rfl ?_ (.cons rfl ?_ (.cons rfl ?_ (.cons rfl ?_ (.cons rfl ?_ (.cons rfl ?_ (.cons rfl ?_ (.cons rfl ?_ (.cons rfl ?_ (.cons rfl ?_ (.cons rfl ?_ (.nil _))))))))))))))))
        · intro L v W5 hd hn ⟨hB, hz, s0, s1, s2, o14, h0, h1, h2, h3, h4, h5, h6, h7, h8, h9, h10, h11, h12, h13, h14⟩ K hK
          have e14 : v 14 = (.int .i64 (t : Int)) := by
            cases hL : L 14 with
            | false => exact o14 hL
            | true => exact absurd rfl (hn 14 _ rfl hL ⟨0, .phase⟩ (by simp) rfl)
          go_wp2_with fail
          exact hK _ (.int .i64 (t : Int)) _ (by simp only [Act.put, List.setIfInBounds_toArray, List.set_cons_zero, List.set_cons_succ, e14]) ⟨hB, hz, s0, s1, s2, o14, (fun _ => rfl), h1, h2, h3, h4, h5, h6, h7, h8, h9, h10, h11, h12, h13, h14⟩
        · intro L v W5 hd hn ⟨hB, hz, s0, s1, s2, o14, h0, h1, h2, h3, h4, h5, h6, h7, h8, h9, h10, h11, h12, h13, h14⟩ K hK
          go_wp2_with fail
          exact hK _ (.int .i64 (n : Int)) _ (by simp only [Act.put, List.setIfInBounds_toArray, List.set_cons_zero, List.set_cons_succ ]) ⟨hB, hz, s0, s1, s2, o14, h0, (fun _ => rfl), h2, h3, h4, h5, h6, h7, h8, h9, h10, h11, h12, h13, h14⟩
        · intro L v W5 hd hn ⟨hB, hz, s0, s1, s2, o14, h0, h1, h2, h3, h4, h5, h6, h7, h8, h9, h10, h11, h12, h13, h14⟩ K hK
          go_wp2_with fail
          exact hK _ (.int .i64 (d : Int)) _ (by simp only [Act.put, List.setIfInBounds_toArray, List.set_cons_zero, List.set_cons_succ ]) ⟨hB, hz, s0, s1, s2, o14, h0, h1, (fun _ => rfl), h3, h4, h5, h6, h7, h8, h9, h10, h11, h12, h13, h14⟩
        · intro L v W5 hd hn ⟨hB, hz, s0, s1, s2, o14, h0, h1, h2, h3, h4, h5, h6, h7, h8, h9, h10, h11, h12, h13, h14⟩ K hK
          have e1 := h1 (hd ⟨1, .data⟩ (by simp) rfl)
          have e2 := h2 (hd ⟨2, .data⟩ (by simp) rfl)
          go_wp2_with (go_at_call 102; refine (HN1.out _).mono ?_; rintro e wy ⟨rfl, hy⟩)
          exact hK _ (.int .i64 (q : Int)) _ (by simp only [Act.put, List.setIfInBounds_toArray, List.set_cons_zero, List.set_cons_succ, e1, e2]) ⟨hB.trans (hy.mono hB.size), (Nat.le_trans hz hy.size), (s0).below hy (s0).lt, (s1).below hy (s1).lt, (s2).below hy (s2).lt, o14, h0, h1, h2, (fun _ => rfl), h4, h5, h6, h7, h8, h9, h10, h11, h12, h13, h14⟩
        · intro L v W5 hd hn ⟨hB, hz, s0, s1, s2, o14, h0, h1, h2, h3, h4, h5, h6, h7, h8, h9, h10, h11, h12, h13, h14⟩ K hK
          have e3 := h3 (hd ⟨3, .data⟩ (by simp) rfl)
          go_wp2_with fail
          exact hK _ (.int .i64 ((q : Int) - 1)) _ (by simp only [Act.put, List.setIfInBounds_toArray, List.set_cons_zero, List.set_cons_succ, e3]) ⟨hB, hz, s0, s1, s2, o14, h0, h1, h2, h3, (fun _ => rfl), h5, h6, h7, h8, h9, h10, h11, h12, h13, h14⟩
        · intro L v W5 hd hn ⟨hB, hz, s0, s1, s2, o14, h0, h1, h2, h3, h4, h5, h6, h7, h8, h9, h10, h11, h12, h13, h14⟩ K hK
          go_wp2_with fail
          exact hK _ (.int .i64 (n : Int)) _ (by simp only [Act.put, List.setIfInBounds_toArray, List.set_cons_zero, List.set_cons_succ ]) ⟨hB, hz, s0, s1, s2, o14, h0, h1, h2, h3, h4, (fun _ => rfl), h6, h7, h8, h9, h10, h11, h12, h13, h14⟩
        · intro L v W5 hd hn ⟨hB, hz, s0, s1, s2, o14, h0, h1, h2, h3, h4, h5, h6, h7, h8, h9, h10, h11, h12, h13, h14⟩ K hK
          go_wp2_with fail
          exact hK _ (.int .i64 (d : Int)) _ (by simp only [Act.put, List.setIfInBounds_toArray, List.set_cons_zero, List.set_cons_succ ]) ⟨hB, hz, s0, s1, s2, o14, h0, h1, h2, h3, h4, h5, (fun _ => rfl), h7, h8, h9, h10, h11, h12, h13, h14⟩
        · intro L v W5 hd hn ⟨hB, hz, s0, s1, s2, o14, h0, h1, h2, h3, h4, h5, h6, h7, h8, h9, h10, h11, h12, h13, h14⟩ K hK
          go_wp2_with fail
          exact hK _ (.pointer (some ⟨N1, 64, none⟩)) _ (by simp only [Act.put, List.setIfInBounds_toArray, List.set_cons_zero, List.set_cons_succ ]) ⟨hB, hz, s0, s1, s2, o14, h0, h1, h2, h3, h4, h5, h6, (fun _ => rfl), h8, h9, h10, h11, h12, h13, h14⟩
        · intro L v W5 hd hn ⟨hB, hz, s0, s1, s2, o14, h0, h1, h2, h3, h4, h5, h6, h7, h8, h9, h10, h11, h12, h13, h14⟩ K hK
          have e7 := h7 (hd ⟨7, .data⟩ (by simp) rfl)
          have cc := s2.cell (facC_at _ _)
          rw [show ((k0 + 1 : Nat) : Int) = (k0 : Int) + 1 by push_cast; rfl] at cc
          go_wp2_with fail
          exact hK _ (.int .i64 ((k0 : Int) + 1)) _ (by simp only [Act.put, List.setIfInBounds_toArray, List.set_cons_zero, List.set_cons_succ, e7]) ⟨hB, hz, s0, s1, s2, o14, h0, h1, h2, h3, h4, h5, h6, h7, (fun _ => rfl), h9, h10, h11, h12, h13, h14⟩
        · intro L v W5 hd hn ⟨hB, hz, s0, s1, s2, o14, h0, h1, h2, h3, h4, h5, h6, h7, h8, h9, h10, h11, h12, h13, h14⟩ K hK
          have e8 := h8 (hd ⟨8, .data⟩ (by simp) rfl)
          go_wp2_with fail
          exact hK _ (.int .i64 (k0 : Int)) _ (by simp only [Act.put, List.setIfInBounds_toArray, List.set_cons_zero, List.set_cons_succ, e8]) ⟨hB, hz, s0, s1, s2, o14, h0, h1, h2, h3, h4, h5, h6, h7, h8, (fun _ => rfl), h10, h11, h12, h13, h14⟩
        · intro L v W5 hd hn ⟨hB, hz, s0, s1, s2, o14, h0, h1, h2, h3, h4, h5, h6, h7, h8, h9, h10, h11, h12, h13, h14⟩ K hK
          have e6 := h6 (hd ⟨6, .data⟩ (by simp) rfl)
          have e9 := h9 (hd ⟨9, .data⟩ (by simp) rfl)
          go_wp2_with fail
          exact hK _ (.int .i64 ((d : Int) * (k0 : Int))) _ (by simp only [Act.put, List.setIfInBounds_toArray, List.set_cons_zero, List.set_cons_succ, e6, e9]) ⟨hB, hz, s0, s1, s2, o14, h0, h1, h2, h3, h4, h5, h6, h7, h8, h9, (fun _ => rfl), h11, h12, h13, h14⟩
        · intro L v W5 hd hn ⟨hB, hz, s0, s1, s2, o14, h0, h1, h2, h3, h4, h5, h6, h7, h8, h9, h10, h11, h12, h13, h14⟩ K hK
          have e5 := h5 (hd ⟨5, .data⟩ (by simp) rfl)
          have e10 := h10 (hd ⟨10, .data⟩ (by simp) rfl)
          go_wp2_with (go_at_call 102; refine (HN2.out _).mono ?_; rintro e wy ⟨rfl, hy⟩)
          exact hK _ (.int .i64 (P : Int)) _ (by simp only [Act.put, List.setIfInBounds_toArray, List.set_cons_zero, List.set_cons_succ, e5, e10]) ⟨hB.trans (hy.mono hB.size), (Nat.le_trans hz hy.size), (s0).below hy (s0).lt, (s1).below hy (s1).lt, (s2).below hy (s2).lt, o14, h0, h1, h2, h3, h4, h5, h6, h7, h8, h9, h10, (fun _ => rfl), h12, h13, h14⟩
        · intro L v W5 hd hn ⟨hB, hz, s0, s1, s2, o14, h0, h1, h2, h3, h4, h5, h6, h7, h8, h9, h10, h11, h12, h13, h14⟩ K hK
          have e4 := h4 (hd ⟨4, .data⟩ (by simp) rfl)
          have e11 := h11 (hd ⟨11, .data⟩ (by simp) rfl)
          go_wp2_with fail
          exact hK _ (.int .i64 (((q : Int) - 1) * (P : Int))) _ (by simp only [Act.put, List.setIfInBounds_toArray, List.set_cons_zero, List.set_cons_succ, e4, e11]) ⟨hB, hz, s0, s1, s2, o14, h0, h1, h2, h3, h4, h5, h6, h7, h8, h9, h10, h11, (fun _ => rfl), h13, h14⟩
        · intro L v W5 hd hn ⟨hB, hz, s0, s1, s2, o14, h0, h1, h2, h3, h4, h5, h6, h7, h8, h9, h10, h11, h12, h13, h14⟩ K hK
          have e0 := h0 (hd ⟨0, .data⟩ (by simp) rfl)
          have e12 := h12 (hd ⟨12, .data⟩ (by simp) rfl)
          go_wp2_with fail
          exact hK _ (.int .i64 ((t : Int) * (((q : Int) - 1) * (P : Int)))) _ (by simp only [Act.put, List.setIfInBounds_toArray, List.set_cons_zero, List.set_cons_succ, e0, e12]) ⟨hB, hz, s0, s1, s2, o14, h0, h1, h2, h3, h4, h5, h6, h7, h8, h9, h10, h11, h12, (fun _ => rfl), h14⟩
        · intro L v W5 hd hn ⟨hB, hz, s0, s1, s2, o14, h0, h1, h2, h3, h4, h5, h6, h7, h8, h9, h10, h11, h12, h13, h14⟩ K hK
          have e13 := h13 (hd ⟨13, .data⟩ (by simp) rfl)
          go_wp2_with fail
          exact hK _ (.int .i64 ((t : Int) * (((q : Int) - 1) * (P : Int)))) _ (by simp only [Act.put, List.setIfInBounds_toArray, List.set_cons_zero, List.set_cons_succ, e13]) ⟨hB, hz, s0, s1, s2, (fun h => absurd h (by simp [setL])), h0, h1, h2, h3, h4, h5, h6, h7, h8, h9, h10, h11, h12, h13, (fun _ => rfl)⟩
      · intro L v W5 hL ⟨hB, hz, s0, s1, s2, o14, h0, h1, h2, h3, h4, h5, h6, h7, h8, h9, h10, h11, h12, h13, h14⟩
        have e0 := h0 (hL 0 (by decide))
        have e1 := h1 (hL 1 (by decide))
        have e2 := h2 (hL 2 (by decide))
        have e3 := h3 (hL 3 (by decide))
        have e4 := h4 (hL 4 (by decide))
        have e5 := h5 (hL 5 (by decide))
        have e6 := h6 (hL 6 (by decide))
        have e7 := h7 (hL 7 (by decide))
        have e8 := h8 (hL 8 (by decide))
        have e9 := h9 (hL 9 (by decide))
        have e10 := h10 (hL 10 (by decide))
        have e11 := h11 (hL 11 (by decide))
        have e12 := h12 (hL 12 (by decide))
        have e13 := h13 (hL 13 (by decide))
        have e14 := h14 (hL 14 (by decide))
        clear hL o14 h0 h1 h2 h3 h4 h5 h6 h7 h8 h9 h10 h11 h12 h13 h14
        simp only [Exit.then, e0, e1, e2, e3, e4, e5, e6, e7, e8, e9, e10, e11, e12, e13, e14]
        clear e0 e1 e2 e3 e4 e5 e6 e7 e8 e9 e10 e11 e12 e13 e14
        clear B1
        have B1 := s0
        clear s0
        clear B2
        have B2 := s1
        clear s1
        clear B3
        have B3 := s2
        clear s2
        clear hb
        have hb := hB
        clear hB
        clear hbase hz lt_B1 lt_B2 lt_B3
        go_upto_region 7 with (fail)
        go_wp2_with fail
        go_roundw
        case rel => exact ⟨j + 1, t * ((q - 1) * P), S2, by rw [HT.out], by go_num, by omega, HSW.out, HR1, HE2, hb, B1.1⟩
        case measure => simp [intOf] <;> omega
    · have hjl : ¬ (j : Int) < (R.length : Int) := by omega
      have HV := Lib.hid (show euG n 1 R = t by rw [hE.out, euG_end (by omega)])
      go_wp2_with fail
      go_ret
      exact ⟨by rw [HV.out]; rfl, hb⟩
/-- both answers -/
def euV (p : Int) (f : Nat → Nat) : Int × Int := if spV p f 1 = 0 then ((euG p.toNat 1 (run p.toNat 64 1 f) : Nat), 0) else (0, spV p f 1)
theorem euV_bad {p c : Int} {f : Nat → Nat} (h : spV p f 1 = c) (h2 : c ≠ 0) : euV p f = (0, c) := by unfold euV; rw [h, if_neg h2]
theorem euV_ok {n : Nat} {f : Nat → Nat} (h : spV (n : Int) f 1 = 0) : euV (n : Int) f = (((euG n 1 (run n 64 1 f) : Nat) : Int), 0) := by unfold euV; rw [if_pos h]; rfl
set_option maxRecDepth 100000 in
set_option maxHeartbeats 3200000 in
theorem spec_EulerOf_any (p : Int) (f : Nat → Nat) (hf : byte f) (w : World) :
    Calls Try.prog 54 #[.int .i64 p, .agg (bcells 64 f)] w fun e w' => e = .returned (.tuple #[.int .i64 (euV p f).1, .int .i64 (euV p f).2]) ∧ Below w.heap.size w w' := by
  go_enter Try.func54, Try.ntmps54
  go_upto_region 1 with (fail)
  obtain ⟨W1, hwo⟩ : ∃ v : World, v = (w.alloc (.cells (bcells 64 (f)) 26)) := ⟨_, rfl⟩
  have B0 : Blk W1 (w.heap.size) 64 26 (f) := by subst hwo; have := (Blk.new w 64 26 (f)); simpa using this
  have hb : Below w.heap.size w W1 := by subst hwo; exact ((Below.refl _ _).alloc (Nat.le_refl _) _)
  rw [← hwo]
  clear hwo
  go_upto_region 2 with (first | (refine wpList_load_any rfl 26 (.tmp 3) rfl _ rfl 64 26 _ (B0) _ Try.underlying26 rfl Try.size26 ?_) | (go_at_call 97; refine (l02Degree_any p f hf 1 (by decide) (by decide) _).mono ?_; rintro e W2 ⟨rfl, hW2⟩; replace B0 := B0.below hW2 B0.lt; replace hb := (hb).trans (hW2.mono (hb).size)))
  rcases spV_cases (p := p) (f := f) (lo := 1) with ⟨c, hs, hc0, hc12⟩ | ⟨hs, hc, hr1, hr2⟩
  · have HV := Lib.hid (euV_bad hs hc0)
    rw [hs]
    clear hs
    have hb1 : ((c : Int) != 0) = true := by simp [hc0]
    go_wp2_with fail
    go_ret2
    exact ⟨by rw [HV.out]; rfl, hb⟩
  · obtain ⟨n, hn, n2, n7⟩ := okP_nat (codeL_zero hc).1
    subst hn
    have lf := lt_of_code hc (f := f) (by simp)
    have hpr := prime_of hc
    have HV := Lib.hid (euV_ok hs)
    have HU := Lib.hid (fun W => l02Euler_any n f W hpr lf (by omega) hr2)
    rw [hs]
    clear hs hc
    obtain ⟨E, hE⟩ : ∃ E, E = euG n 1 (run n 64 1 f) := ⟨_, rfl⟩
    rw [← hE] at HV HU
    clear hE
    go_upto_region 4 with (fail)
    go_wp2_with (first | (refine wpList_load_any rfl 26 (.tmp 3) rfl _ rfl 64 26 _ (B0) _ Try.underlying26 rfl Try.size26 ?_) | (go_at_call 107; refine (HU.out _).mono ?_; rintro e W3 ⟨rfl, hW3⟩; replace B0 := B0.below hW3 B0.lt; replace hb := (hb).trans (hW3.mono (hb).size)))
    go_ret2
    exact ⟨by rw [HV.out]; rfl, hb⟩
set_option maxRecDepth 100000 in
set_option maxHeartbeats 3200000 in
theorem impl_EulerOf_any (p : Int) (f : Nat → Nat) (hf : byte f) (w : World) :
    Calls Try.prog 55 #[.int .i64 p, .agg (bcells 64 f)] w fun e w' => e = .returned (.tuple #[.int .i64 (euV p f).1, .int .i64 (euV p f).2]) ∧ Below w.heap.size w w' := by
  go_enter Try.func55, Try.ntmps55
  go_upto_region 1 with (fail)
  obtain ⟨W1, hwo⟩ : ∃ v : World, v = (w.alloc (.cells (bcells 64 (f)) 26)) := ⟨_, rfl⟩
  have B0 : Blk W1 (w.heap.size) 64 26 (f) := by subst hwo; have := (Blk.new w 64 26 (f)); simpa using this
  have hb : Below w.heap.size w W1 := by subst hwo; exact ((Below.refl _ _).alloc (Nat.le_refl _) _)
  rw [← hwo]
  clear hwo
  go_upto_region 2 with (first | (refine wpList_load_any rfl 26 (.tmp 3) rfl _ rfl 64 26 _ (B0) _ Try.underlying26 rfl Try.size26 ?_) | (go_at_call 100; refine (checkSplit_any p f hf 1 (by decide) (by decide) _).mono ?_; rintro e W2 ⟨rfl, hW2⟩; replace B0 := B0.below hW2 B0.lt; replace hb := (hb).trans (hW2.mono (hb).size)))
  rcases spV_cases (p := p) (f := f) (lo := 1) with ⟨c, hs, hc0, hc12⟩ | ⟨hs, hc, hr1, hr2⟩
  · have HV := Lib.hid (euV_bad hs hc0)
    rw [hs]
    clear hs
    have hb1 : ((c : Int) != 0) = true := by simp [hc0]
    go_wp2_with fail
    go_ret2
    exact ⟨by rw [HV.out]; rfl, hb⟩
  · obtain ⟨n, hn, n2, n7⟩ := okP_nat (codeL_zero hc).1
    subst hn
    have lf := lt_of_code hc (f := f) (by simp)
    have hpr := prime_of hc
    have HV := Lib.hid (euV_ok hs)
    have HU := Lib.hid (fun W => eulerOf_any n f W hpr lf (by omega) hr2)
    rw [hs]
    clear hs hc
    obtain ⟨E, hE⟩ : ∃ E, E = euG n 1 (run n 64 1 f) := ⟨_, rfl⟩
    rw [← hE] at HV HU
    clear hE
    go_upto_region 4 with (fail)
    go_wp2_with (first | (refine wpList_load_any rfl 26 (.tmp 3) rfl _ rfl 64 26 _ (B0) _ Try.underlying26 rfl Try.size26 ?_) | (go_at_call 108; refine (HU.out _).mono ?_; rintro e W3 ⟨rfl, hW3⟩; replace B0 := B0.below hW3 B0.lt; replace hb := (hb).trans (hW3.mono (hb).size)))
    go_ret2
    exact ⟨by rw [HV.out]; rfl, hb⟩
end Go.Proofs.Ytpeehpaghdddgaa
