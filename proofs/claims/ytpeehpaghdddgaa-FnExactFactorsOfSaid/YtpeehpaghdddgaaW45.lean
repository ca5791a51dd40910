/-
  Walks: the Moebius number of a polynomial.
-/
import Derived.Test.YtpeehpaghdddgaaW44
namespace Go.Proofs.Ytpeehpaghdddgaa
open Go Go.RowKit
set_option linter.unusedVariables false
set_option linter.unusedSimpArgs false
attribute [local irreducible] deg facRows run
/-- the sign s changed for each factor, and 0 if one comes more than once -/
def moG : Int → List (Nat × Nat) → Int
  | s, [] => s
  | s, x :: l => if 1 < x.2 then 0 else moG (-s) l
theorem moG_end {s : Int} {R : List (Nat × Nat)} {j : Nat} (h : R.length ≤ j) : moG s (R.drop j) = s := by rw [List.drop_eq_nil_of_le h]; rfl
theorem moG_zero {s : Int} {R : List (Nat × Nat)} {j : Nat} {x : Nat × Nat} (h : R[j]? = some x) (h2 : 1 < x.2) : moG s (R.drop j) = 0 := by
  obtain ⟨hj, e⟩ := List.getElem?_eq_some_iff.1 h
  rw [List.drop_eq_getElem_cons hj, e]; unfold moG; rw [if_pos h2]
theorem moG_next {s : Int} {R : List (Nat × Nat)} {j : Nat} {x : Nat × Nat} (h : R[j]? = some x) (h2 : ¬ 1 < x.2) : moG s (R.drop j) = moG (-s) (R.drop (j + 1)) := by
  obtain ⟨hj, e⟩ := List.getElem?_eq_some_iff.1 h
  rw [List.drop_eq_getElem_cons hj, e]; rw [moG, if_neg h2]
/-- the degrees of the factors, together -/
def wtS (p : Nat) : List (Nat × Nat) → Nat
  | [] => 0
  | x :: l => (deg (ofN p x.1)).toNat * x.2 + wtS p l
theorem wtS_app (p : Nat) : ∀ (l m : List (Nat × Nat)), wtS p (l ++ m) = wtS p l + wtS p m
  | [], m => by show wtS p m = 0 + wtS p m; omega
  | x :: l, m => by
    show (deg (ofN p x.1)).toNat * x.2 + wtS p (l ++ m) = (deg (ofN p x.1)).toNat * x.2 + wtS p l + wtS p m
    rw [wtS_app p l m]; omega
theorem wtS_len {p : Nat} : ∀ {l : List (Nat × Nat)}, (∀ x ∈ l, 1 ≤ x.2 ∧ 1 ≤ deg (ofN p x.1)) → l.length ≤ wtS p l
  | [], _ => Nat.zero_le _
  | x :: l, h => by
    have h1 := wtS_len (l := l) (fun y hy => h y (by simp [hy]))
    obtain ⟨h2, h3⟩ := h x (by simp)
    have h4 : 1 * 1 ≤ (deg (ofN p x.1)).toNat * x.2 := Nat.mul_le_mul (by omega) h2
    show l.length + 1 ≤ (deg (ofN p x.1)).toNat * x.2 + wtS p l
    omega
theorem wtS_mem {p : Nat} : ∀ {l : List (Nat × Nat)} {x : Nat × Nat}, x ∈ l → (deg (ofN p x.1)).toNat * x.2 ≤ wtS p l
  | y :: l, x, h => by
    show _ ≤ (deg (ofN p y.1)).toNat * y.2 + wtS p l
    rcases List.mem_cons.1 h with rfl | h
    · omega
    · have := wtS_mem (p := p) h; omega
theorem dvo_deg {p d : Nat} {m : Nat → Nat} (hp : p = 2 ∨ p = 3 ∨ p = 5 ∨ p = 7) (hmp : ∀ k, k < 64 → m k < p) (hm : mon m d) : ∀ (f : Nat) (a : Nat → Nat), (∀ k, k < 64 → a k < p) → 0 ≤ deg a → deg (dvo p m f a).2 + (((dvo p m f a).1 * d : Nat) : Int) = deg a
  | 0, a, _, _ => by show deg a + ((0 * d : Nat) : Int) = deg a; rw [Nat.zero_mul]; omega
  | f + 1, a, ha, h0 => by
    by_cases hz : deg (resP p a m) < 0
    · obtain ⟨q0, qd⟩ := quo_nz hp ha hmp hm h0 hz
      have := dvo_deg hp hmp hm f (quoP p a m) (fun k _ => quoP_lt (by omega) k) q0
      rw [dvo, if_pos hz]
      show deg (dvo p m f (quoP p a m)).2 + ((((dvo p m f (quoP p a m)).1 + 1) * d : Nat) : Int) = deg a
      rw [Nat.succ_mul]
      omega
    · rw [dvo, if_neg hz]; show deg a + ((0 * d : Nat) : Int) = deg a; rw [Nat.zero_mul]; omega
theorem foR_wt {p n : Nat} (hp : p = 2 ∨ p = 3 ∨ p = 5 ∨ p = 7) (hn2 : n < 64) : ∀ (ms : List Nat) (a : Nat → Nat), okL p n ms → (∀ k, k < 64 → a k < p) → 0 ≤ deg a →
    (∀ x ∈ (foR p ms a).1, 1 ≤ x.2 ∧ deg (ofN p x.1) = (n : Int)) ∧ deg (foR p ms a).2 + (wtS p (foR p ms a).1 : Int) = deg a
  | [], a, _, _, _ => ⟨fun x h => (by cases h), by show deg a + ((0 : Nat) : Int) = deg a; omega⟩
  | N :: ms, a, hms, ha, h0 => by
    have hm := mon_ofN (by omega) hn2 (hms N (by simp))
    have hlt : ∀ k, k < 64 → ofN p N k < p := fun k _ => ofN_lt (by omega) N k
    obtain ⟨d1, d2, _, _⟩ := dvo_ok hp hlt hm 64 a ha h0
    have dd := dvo_deg hp hlt hm 64 a ha h0
    obtain ⟨i1, i2⟩ := foR_wt hp hn2 ms (dvo p (ofN p N) 64 a).2 (fun M hM => hms M (by simp [hM])) d1 d2
    rw [foR]
    obtain ⟨K, hK⟩ : ∃ K, K = (dvo p (ofN p N) 64 a).1 := ⟨_, rfl⟩
    rw [← hK] at dd ⊢
    by_cases h : 0 < K
    · rw [if_pos h]
      refine ⟨fun x hx => ?_, ?_⟩
      · rcases List.mem_append.1 hx with h1 | h1
        · rw [List.mem_singleton] at h1; subst h1; exact ⟨h, hm.1⟩
        · exact i1 x h1
      · show deg (foR p ms (dvo p (ofN p N) 64 a).2).2 + ((wtS p ([(N, K)] ++ (foR p ms (dvo p (ofN p N) 64 a).2).1) : Nat) : Int) = deg a
        rw [wtS_app]
        have e : wtS p [(N, K)] = K * n := by show (deg (ofN p N)).toNat * K + 0 = K * n; rw [hm.1, Int.toNat_natCast, Nat.mul_comm]; rfl
        rw [e]
        omega
    · rw [if_neg h]
      have e0 : K = 0 := by omega
      rw [e0, Nat.zero_mul] at dd
      refine ⟨fun x hx => i1 x (by simpa using hx), ?_⟩
      show deg (foR p ms (dvo p (ofN p N) 64 a).2).2 + ((wtS p ([] ++ (foR p ms (dvo p (ofN p N) 64 a).2).1) : Nat) : Int) = deg a
      rw [List.nil_append]
      omega
theorem run_wt {p : Nat} (hp : p = 2 ∨ p = 3 ∨ p = 5 ∨ p = 7) : ∀ (f n : Nat) (a : Nat → Nat), 1 ≤ n → (∀ k, k < 64 → a k < p) → 0 ≤ deg a → lowf p n a → (∀ x ∈ run p f n a, 1 ≤ x.2 ∧ 1 ≤ deg (ofN p x.1)) ∧ (wtS p (run p f n a) : Int) ≤ deg a
  | 0, n, a, _, _, h0, _ => ⟨fun x h => (by unfold run at h; cases h), (by unfold run; exact h0)⟩
  | f + 1, n, a, hn, ha, h0, hl => by
    by_cases hz : deg a ≤ 0
    · rw [run_z hz]; exact ⟨fun x h => (by cases h), h0⟩
    · have hlow := low_deg hp ha (by omega) hl
      have hn2 : n < 64 := by have := deg_bounds a; omega
      obtain ⟨s1, s2, s3, s4, s5⟩ := foR_spec hp hn hn2 (monL p n) a (fun _ h => h) ha h0 hl
      obtain ⟨f1, f2⟩ := foR_wt hp hn2 (monL p n) a (fun _ h => h) ha h0
      obtain ⟨i1, i2⟩ := run_wt hp f (n + 1) _ (by omega) s1 s2 (lowf_next (by omega) hl s4 s5)
      rw [run_s hz]
      refine ⟨fun x hx => ?_, ?_⟩
      · rcases List.mem_append.1 hx with h | h
        · obtain ⟨g1, g2⟩ := f1 x h; exact ⟨g1, by omega⟩
        · exact i1 x h
      · rw [wtS_app]; push_cast; omega
theorem run_ok {p : Nat} {f : Nat → Nat} (hp : p = 2 ∨ p = 3 ∨ p = 5 ∨ p = 7) (lf : ∀ k, k < 64 → f k < p) (h0 : 0 ≤ deg f) (h12 : deg f ≤ 12) : (run p 64 1 f).length ≤ 12 ∧ wtS p (run p 64 1 f) ≤ 12 ∧ ∀ x ∈ run p 64 1 f, 1 ≤ x.2 ∧ 1 ≤ deg (ofN p x.1) := by
  obtain ⟨h1, h2⟩ := run_wt hp 64 1 f (Nat.le_refl _) lf h0 (lowf_one f)
  have := wtS_len h1
  exact ⟨by omega, by omega, h1⟩
/-- both answers -/
def moV (p : Int) (f : Nat → Nat) : Int × Int := if spV p f 0 = 0 then (moG 1 (run p.toNat 64 1 f), 0) else (0, spV p f 0)
theorem moV_bad {p c : Int} {f : Nat → Nat} (h : spV p f 0 = c) (h2 : c ≠ 0) : moV p f = (0, c) := by unfold moV; rw [h, if_neg h2]
theorem moV_ok {n : Nat} {f : Nat → Nat} (h : spV (n : Int) f 0 = 0) : moV (n : Int) f = (moG 1 (run n 64 1 f), 0) := by unfold moV; rw [if_pos h]; rfl
set_option maxRecDepth 100000 in
set_option maxHeartbeats 3200000 in
theorem spec_MoebiusOf_any (p : Int) (f : Nat → Nat) (hf : byte f) (w : World) :
    Calls Try.prog 52 #[.int .i64 p, .agg (bcells 64 f)] w fun e w' => e = .returned (.tuple #[.int .i64 (moV p f).1, .int .i64 (moV p f).2]) ∧ Below w.heap.size w w' := by
  go_enter Try.func52, Try.ntmps52
  go_upto_region 1 with (fail)
  obtain ⟨W1, hwo⟩ : ∃ v : World, v = (w.alloc (.cells (bcells 64 (f)) 26)) := ⟨_, rfl⟩
  have B0 : Blk W1 (w.heap.size) 64 26 (f) := by subst hwo; have := (Blk.new w 64 26 (f)); simpa using this
  have hb : Below w.heap.size w W1 := by subst hwo; exact ((Below.refl _ _).alloc (Nat.le_refl _) _)
  rw [← hwo]
  clear hwo
  go_upto_region 2 with (first | (refine wpList_load_any rfl 26 (.tmp 3) rfl _ rfl 64 26 _ (B0) _ Try.underlying26 rfl Try.size26 ?_) | (go_at_call 97; refine (l02Degree_any p f hf 0 (by decide) (by decide) _).mono ?_; rintro e W2 ⟨rfl, hW2⟩; replace B0 := B0.below hW2 B0.lt; replace hb := (hb).trans (hW2.mono (hb).size)))
  rcases spV_cases (p := p) (f := f) (lo := 0) with ⟨c, hs, hc0, hc12⟩ | ⟨hs, hc, hr1, hr2⟩
  · have HV := Lib.hid (moV_bad hs hc0)
    rw [hs]
    clear hs
    have hb1 : ((c : Int) != 0) = true := by simp [hc0]
    go_wp2_with fail
    go_ret2
    exact ⟨by rw [HV.out]; rfl, hb⟩
  · obtain ⟨n, hn, n2, n7⟩ := okP_nat (codeL_zero hc).1
    subst hn
    have lf := lt_of_code hc (f := f) (by simp)
    have hpr := prime_of hc
    have HV0 := Lib.hid (moV_ok hs)
    rw [hs]
    clear hs hc
    obtain ⟨R, hR⟩ : ∃ R, R = run n 64 1 f := ⟨_, rfl⟩
    have HFA := Lib.hid (show ∀ W, Calls Try.prog 104 #[.int .i64 (n : Int), .agg (bcells 64 f)] W fun e w' => ∃ v, e = .returned v ∧ SlL w' W.heap.size 102 65 v (facRows n R) ∧ Below W.heap.size W w' by
      intro W
      have := l02Split_any n f W hpr lf (by omega) (by omega)
      unfold FaF at this
      rw [← hR] at this
      exact this)
    have hRk := run_ok hpr lf hr1 hr2
    rw [← hR] at HV0 hRk
    obtain ⟨hR12, HWT, HEL⟩ := hRk
    clear hR HWT HEL
    go_upto_region 4 with (fail)
    go_upto_region 5 with (first | (refine wpList_load_any rfl 26 (.tmp 3) rfl _ rfl 64 26 _ B0 _ Try.underlying26 rfl Try.size26 ?_) | (go_at_call 104; refine (HFA.out _).mono ?_; rintro e W3 ⟨lst, rfl, hS, hW3⟩; replace B0 := B0.below hW3 B0.lt; have hbw := hb.size; replace hb := (hb).trans (hW3.mono (hb).size); replace hS := hS.base hbw; obtain ⟨a0, cap, rfl⟩ : ∃ a cap, lst = .slice a R.length cap := (by rcases hS.shape with ⟨h1, h2⟩ | ⟨g, cap, h1⟩; (· have h3 := congrArg List.length h2; rw [facRows_len] at h3; exact ⟨_, _, by rw [h1, show R.length = 0 from h3]⟩); (· exact ⟨_, _, by rw [h1, facRows_len]⟩))))
    clear HFA hW3 hbw
    try clear hf
    go_wp2_with fail
    go_loopw [8, 9] (fun s i wr => ∃ (j : Nat) (s0 : Int), s = .int .i64 s0 ∧ i = .int .i64 (j : Int) ∧ j ≤ R.length ∧ (s0 = 1 ∨ s0 = -1) ∧ Hid (moG 1 R = moG s0 (R.drop j)) ∧ Below w.heap.size w wr ∧ SlL wr w.heap.size 102 65 (.slice a0 R.length cap) (facRows n R)) (fun _ i _ => R.length - (intOf i).toNat)
    case atStart => exact ⟨0, 1, rfl, rfl, Nat.zero_le _, .inl rfl, Lib.hid rfl, hb, hS⟩
    case round =>
      clear hb hS B0
      obtain ⟨j, s0, rfl, rfl, hjR, hs0, hM, hb, hS⟩ := hrel
      by_cases hj : j < R.length
      · obtain ⟨x, hx⟩ : ∃ x, R[j]? = some x := ⟨_, List.getElem?_eq_getElem hj⟩
        obtain ⟨g, rfl⟩ := hS.some (by rw [facRows_len]; omega)
        have hr := hS.range (i := j) (c := facC (ofN n x.1) x.2) (by unfold facRows; rw [List.getElem?_map, hx]; rfl)
        have hjl : (j : Int) < (R.length : Int) := by omega
        have cc := hr 64 (.int .i64 (x.2 : Int)) (by simpa using facC_at (ofN n x.1) x.2)
        clear hr
        by_cases h1 : 1 < x.2
        · have hx1 : 1 < (x.2 : Int) := by omega
          have HV := Lib.hid (show moV (n : Int) f = (0, 0) by rw [HV0.out, hM.out, moG_zero hx h1])
          go_wp2_with fail
          go_ret2
          exact ⟨by rw [HV.out]; rfl, hb⟩
        · have hx1 : ¬ 1 < (x.2 : Int) := by omega
          have HM2 := Lib.hid (show moG 1 R = moG (-s0) (R.drop (j + 1)) by rw [hM.out, moG_next hx h1])
          clear hM
          go_wp2_with fail
          go_roundw
          case rel => exact ⟨j + 1, -s0, rfl, by go_num, by omega, by omega, HM2, hb, hS⟩
          case measure => simp [intOf] <;> omega
      · have hjl : ¬ (j : Int) < (R.length : Int) := by omega
        have HV := Lib.hid (show moV (n : Int) f = (s0, 0) by rw [HV0.out, hM.out, moG_end (by omega)])
        go_wp2_with fail
        go_ret2
        exact ⟨by rw [HV.out]; rfl, hb⟩
set_option maxRecDepth 100000 in
set_option maxHeartbeats 3200000 in
theorem impl_MoebiusOf_any (p : Int) (f : Nat → Nat) (hf : byte f) (w : World) :
    Calls Try.prog 53 #[.int .i64 p, .agg (bcells 64 f)] w fun e w' => e = .returned (.tuple #[.int .i64 (moV p f).1, .int .i64 (moV p f).2]) ∧ Below w.heap.size w w' := by
  go_enter Try.func53, Try.ntmps53
  go_upto_region 1 with (fail)
  obtain ⟨W1, hwo⟩ : ∃ v : World, v = (w.alloc (.cells (bcells 64 (f)) 26)) := ⟨_, rfl⟩
  have B0 : Blk W1 (w.heap.size) 64 26 (f) := by subst hwo; have := (Blk.new w 64 26 (f)); simpa using this
  have hb : Below w.heap.size w W1 := by subst hwo; exact ((Below.refl _ _).alloc (Nat.le_refl _) _)
  rw [← hwo]
  clear hwo
  go_upto_region 2 with (first | (refine wpList_load_any rfl 26 (.tmp 3) rfl _ rfl 64 26 _ (B0) _ Try.underlying26 rfl Try.size26 ?_) | (go_at_call 100; refine (checkSplit_any p f hf 0 (by decide) (by decide) _).mono ?_; rintro e W2 ⟨rfl, hW2⟩; replace B0 := B0.below hW2 B0.lt; replace hb := (hb).trans (hW2.mono (hb).size)))
  rcases spV_cases (p := p) (f := f) (lo := 0) with ⟨c, hs, hc0, hc12⟩ | ⟨hs, hc, hr1, hr2⟩
  · have HV := Lib.hid (moV_bad hs hc0)
    rw [hs]
    clear hs
    have hb1 : ((c : Int) != 0) = true := by simp [hc0]
    go_wp2_with fail
    go_ret2
    exact ⟨by rw [HV.out]; rfl, hb⟩
  · obtain ⟨n, hn, n2, n7⟩ := okP_nat (codeL_zero hc).1
    subst hn
    have lf := lt_of_code hc (f := f) (by simp)
    have hpr := prime_of hc
    have HV0 := Lib.hid (moV_ok hs)
    rw [hs]
    clear hs hc
    obtain ⟨R, hR⟩ : ∃ R, R = run n 64 1 f := ⟨_, rfl⟩
    have HFA := Lib.hid (show ∀ W, Calls Try.prog 105 #[.int .i64 (n : Int), .agg (bcells 64 f)] W fun e w' => ∃ v, e = .returned v ∧ SlL w' W.heap.size 102 65 v (facRows n R) ∧ Below W.heap.size W w' by
      intro W
      have := factorsOf_any n f W hpr lf (by omega) (by omega)
      unfold FaF at this
      rw [← hR] at this
      exact this)
    have hRk := run_ok hpr lf hr1 hr2
    rw [← hR] at HV0 hRk
    obtain ⟨hR12, HWT, HEL⟩ := hRk
    clear hR HWT HEL
    go_upto_region 4 with (fail)
    go_upto_region 5 with (fail)
    go_upto_region 6 with (first | (refine wpList_load_any rfl 26 (.tmp 3) rfl _ rfl 64 26 _ B0 _ Try.underlying26 rfl Try.size26 ?_) | (go_at_call 105; refine (HFA.out _).mono ?_; rintro e W3 ⟨lst, rfl, hS, hW3⟩; replace B0 := B0.below hW3 B0.lt; have hbw := hb.size; replace hb := (hb).trans (hW3.mono (hb).size); replace hS := hS.base hbw; obtain ⟨a0, cap, rfl⟩ : ∃ a cap, lst = .slice a R.length cap := (by rcases hS.shape with ⟨h1, h2⟩ | ⟨g, cap, h1⟩; (· have h3 := congrArg List.length h2; rw [facRows_len] at h3; exact ⟨_, _, by rw [h1, show R.length = 0 from h3]⟩); (· exact ⟨_, _, by rw [h1, facRows_len]⟩))))
    clear HFA hW3 hbw
    try clear hf
    go_wp2_with fail
    go_loopw [7, 20] (fun s i wr => ∃ (j : Nat) (s0 : Int), s = .int .i64 s0 ∧ i = .int .i64 (j : Int) ∧ j ≤ R.length ∧ (s0 = 1 ∨ s0 = -1) ∧ Hid (moG 1 R = moG s0 (R.drop j)) ∧ Below w.heap.size w wr ∧ SlL wr w.heap.size 102 65 (.slice a0 R.length cap) (facRows n R)) (fun _ i _ => R.length - (intOf i).toNat)
    case atStart => exact ⟨0, 1, rfl, rfl, Nat.zero_le _, .inl rfl, Lib.hid rfl, hb, hS⟩
    case round =>
      clear hb hS B0
      obtain ⟨j, s0, rfl, rfl, hjR, hs0, hM, hb, hS⟩ := hrel
      by_cases hj : j < R.length
      · obtain ⟨x, hx⟩ : ∃ x, R[j]? = some x := ⟨_, List.getElem?_eq_getElem hj⟩
        obtain ⟨g, rfl⟩ := hS.some (by rw [facRows_len]; omega)
        have hr := hS.range (i := j) (c := facC (ofN n x.1) x.2) (by unfold facRows; rw [List.getElem?_map, hx]; rfl)
        have hjl : (j : Int) < (R.length : Int) := by omega
        have B1 := hS.top
        have B2 : SzG wr.heap.size wr := Nat.le_refl _
        clear hS
        go_upto_region 7 with (fail)
        have lt_B1 := B1.lt
        have lt_B2 := B2.lt
        go_upto_region 8 with (first | rw [← zero64] | rw [← facC_zero] | (refine wpList_load_mid rfl 102 (.tmp 22) rfl g (j * 65) rfl (facC (ofN n x.1) x.2) _ hr Try.underlying102 rfl (by rw [facC_len]; exact Try.size102) ?_) | (refine wpList_store_rowv rfl 102 (.tmp 9) (.tmp 23) rfl _ rfl (facC (ofN n x.1) x.2).toArray rfl 102 _ ((Row.new wr 102 (facC (fun _ => 0) 0).toArray)) 65 Try.size102 (by simp [facC_len]) (by simp [facC_len]) (facC_all _ _) ?_; try simp only [Act.put]))
        have lt_B1 := B1.lt
        have lt_B2 := B2.lt
        have lhb := hb.size
        have qB1 : SlT ((wr.alloc (.cells (facC (fun _ => 0) 0).toArray 102)).setRow (wr.heap.size) (facC (ofN n x.1) x.2).toArray) w.heap.size wr.heap.size 102 65 (.slice (some ⟨g, 0, none⟩) R.length cap) (facRows n R) := ((B1.alloc (.cells (facC (fun _ => 0) 0).toArray 102)).rowOther (by omega))
        have qB2 : SzG wr.heap.size ((wr.alloc (.cells (facC (fun _ => 0) 0).toArray 102)).setRow (wr.heap.size) (facC (ofN n x.1) x.2).toArray) := ((B2.alloc (.cells (facC (fun _ => 0) 0).toArray 102)).rowOther (by omega))
        have qB3 : Row ((wr.alloc (.cells (facC (fun _ => 0) 0).toArray 102)).setRow (wr.heap.size) (facC (ofN n x.1) x.2).toArray) (wr.heap.size) 102 (facC (ofN n x.1) x.2).toArray := ((Row.new wr 102 (facC (fun _ => 0) 0).toArray).row (facC (ofN n x.1) x.2).toArray)
        have qhb : Below w.heap.size w ((wr.alloc (.cells (facC (fun _ => 0) 0).toArray 102)).setRow (wr.heap.size) (facC (ofN n x.1) x.2).toArray) := (below_row (hb.alloc (by have := hb.size; simp; omega) (.cells (facC (fun _ => 0) 0).toArray 102)) (by omega) _)
        obtain ⟨W4, hwo⟩ : ∃ v : World, v = ((wr.alloc (.cells (facC (fun _ => 0) 0).toArray 102)).setRow (wr.heap.size) (facC (ofN n x.1) x.2).toArray) := ⟨_, rfl⟩
        rw [← hwo] at qB1 qB2 qB3 qhb ⊢
        clear hwo
        clear B1 B2 hb
        have B1 := qB1
        have B2 := qB2
        have B3 := qB3
        have hb := qhb
        clear qB1 qB2 qB3 qhb
        obtain ⟨N1, hNN⟩ : ∃ n : Nat, n = wr.heap.size := ⟨_, rfl⟩
        rw [← hNN] at lt_B1 lt_B2 lhb B3 ⊢
        clear hNN
        have zN1_1 := lt_B1
        have zN1_2 := lt_B2
        have zN1 := lhb
        clear lt_B1 lt_B2 lhb
        try simp only [Act.put, List.setIfInBounds_toArray, List.set_cons_zero, List.set_cons_succ]
        have cc := B3.cell (facC_at _ _)
        clear hr
        by_cases h1 : 1 < x.2
        · have hx1 : 1 < (x.2 : Int) := by omega
          have HV := Lib.hid (show moV (n : Int) f = (0, 0) by rw [HV0.out, hM.out, moG_zero hx h1])
          go_wp2_with fail
          go_ret2
          exact ⟨by rw [HV.out]; rfl, hb⟩
        · have hx1 : ¬ 1 < (x.2 : Int) := by omega
          have HM2 := Lib.hid (show moG 1 R = moG (-s0) (R.drop (j + 1)) by rw [hM.out, moG_next hx h1])
          clear hM
          go_wp2_with fail
          go_roundw
          case rel => exact ⟨j + 1, -s0, rfl, by go_num, by omega, by omega, HM2, hb, B1.1⟩
          case measure => simp [intOf] <;> omega
      · have hjl : ¬ (j : Int) < (R.length : Int) := by omega
        have HV := Lib.hid (show moV (n : Int) f = (s0, 0) by rw [HV0.out, hM.out, moG_end (by omega)])
        go_wp2_with fail
        go_ret2
        exact ⟨by rw [HV.out]; rfl, hb⟩
end Go.Proofs.Ytpeehpaghdddgaa
