/-
  What the rows of this claim rest on: arrays of bytes, walks of the functions, plain mathematics.
-/
import Derived.Test.YtelgefgphhebnaaZv1
import Derived.Defers
import Derived.Recover
import Derived.Handy
import Derived.Deep.CutBlock
section
namespace Go.Proofs.Ytelgefgphhebnaa
open Go Go.RowKit
set_option linter.unusedVariables false
set_option linter.unusedSimpArgs false
set_option maxRecDepth 100000 in
set_option maxHeartbeats 1600000 in
theorem checkPolys_big (p : Int) (fs : List (Nat → Nat)) (hf : ∀ f ∈ fs, byte f) (a : Option Addr) (cap base : Nat) (w : World) (hs : SlL w base 28 64 (.slice a fs.length cap) (plR fs)) (hl : (fs.length : Int) ≤ 1048576) :
 Calls Try.prog 125 #[.int .i64 p, .slice a fs.length cap] w fun e w' => e = .returned (.int .i64 (codeL p fs)) ∧ Below w.heap.size w w' := by
 cases hp : okP p with
 | false =>
  go_enter Try.func125, Try.ntmps125
  go_wp2_with (go_at_call 152; refine (isPrime_any _ _).mono ?_; rintro e w' ⟨rfl, rfl⟩)
  go_ret
  exact ⟨ret_int (codeL_p hp).symm, Below.refl _ _⟩
 | true =>
  go_enter Try.func125, Try.ntmps125
  go_wp2_with (go_at_call 152; refine (isPrime_any _ _).mono ?_; rintro e w' ⟨rfl, rfl⟩)
  go_loopw [12] (fun i wr => ∃ k : Nat, k ≤ fs.length ∧ (∀ j f, j < k → fs[j]? = some f → okA p f = true) ∧ i = .int .i64 (k : Int) ∧ Below w.heap.size w wr) (fun i _ => fs.length - (intOf i).toNat)
  case atStart => exact ⟨0, by omega, fun j f hj => by omega, rfl, Below.refl _ _⟩
  case round =>
   obtain ⟨k, hk, hall, rfl, hb⟩ := hrel
   have HA := Lib.hid hall; clear hall
   by_cases hlt : k < fs.length
   · obtain ⟨f, hfk⟩ : ∃ f, fs[k]? = some f := ⟨_, List.getElem?_eq_getElem hlt⟩
     obtain ⟨b, rfl⟩ := hs.some (by rw [plR_len]; omega)
     have hr := (hs.zw hb).range (plR_at hfk)
     have HK := Lib.hid hfk
     have hbf := hf f (List.mem_of_getElem? hfk)
     clear hfk
     have hb2 := okP_le hp
     cases hkk : okA p f with
     | false =>
      go_wp2_with (first | refine wpList_load_mid rfl 28 _ rfl b (k * 64) rfl _ _ hr Try.underlying28 rfl (by rw [zl]; exact Try.size28) ?_ | refine wpList_store_new rfl 28 _ _ rfl _ 28 64 f rfl rfl rfl Try.size28 ?_ | refine zlb rfl 28 _ rfl _ rfl 64 28 _ (Blk.new _ _ _ _) 5 Try.underlying28 Try.size28 ?_ | (go_at_call 136; refine (IsPoly_any _ _ hbf _).mono ?_; rintro e w' ⟨rfl, hw⟩))
      go_ret
      exact ⟨ret_int (codeL_bad HK.out hkk).symm, hb.trans (((zal _ _).trans (hw.mono (by simp))).mono hb.size)⟩
     | true =>
      go_wp2_with (first | refine wpList_load_mid rfl 28 _ rfl b (k * 64) rfl _ _ hr Try.underlying28 rfl (by rw [zl]; exact Try.size28) ?_ | refine wpList_store_new rfl 28 _ _ rfl _ 28 64 f rfl rfl rfl Try.size28 ?_ | refine zlb rfl 28 _ rfl _ rfl 64 28 _ (Blk.new _ _ _ _) 5 Try.underlying28 Try.size28 ?_ | (go_at_call 136; refine (IsPoly_any _ _ hbf _).mono ?_; rintro e w' ⟨rfl, hw⟩))
      go_roundw
      case rel =>
       refine ⟨k + 1, by omega, fun j g hj hg => ?_, by go_num, hb.trans (((zal _ _).trans (hw.mono (by simp))).mono hb.size)⟩
       by_cases e : j = k
       · subst e
         have := HK.out
         rw [hg] at this
         injection this with this
         subst this
         exact hkk
       · exact HA.out j g (by omega) hg
      case measure => simp [intOf]; omega
   · go_wp2_with fail
     go_ret
     refine ⟨ret_int (codeL_ok hp fun j f hj => HA.out j f ?_ hj).symm, hb⟩
     have := (List.getElem?_eq_some_iff.1 hj).1
     omega
set_option maxRecDepth 100000 in
set_option maxHeartbeats 1600000 in
theorem l01Code_big (p : Int) (fs : List (Nat → Nat)) (hf : ∀ f ∈ fs, byte f) (a : Option Addr) (cap base : Nat) (w : World) (hs : SlL w base 28 64 (.slice a fs.length cap) (plR fs)) (hl : (fs.length : Int) ≤ 1048576) :
 Calls Try.prog 124 #[.int .i64 p, .slice a fs.length cap] w fun e w' => e = .returned (.int .i64 (codeL p fs)) ∧ Below w.heap.size w w' := by
 cases hp : okP p with
 | false =>
  go_enter Try.func124, Try.ntmps124
  go_wp2_with (go_at_call 151; refine (l01Prime_any _ _).mono ?_; rintro e w' ⟨rfl, rfl⟩)
  go_ret
  exact ⟨ret_int (codeL_p hp).symm, Below.refl _ _⟩
 | true =>
  go_enter Try.func124, Try.ntmps124
  go_wp2_with (go_at_call 151; refine (l01Prime_any _ _).mono ?_; rintro e w' ⟨rfl, rfl⟩)
  go_loopw [5] (fun i wr => ∃ k : Nat, k ≤ fs.length ∧ (∀ j f, j < k → fs[j]? = some f → okA p f = true) ∧ i = .int .i64 (k : Int) ∧ Below w.heap.size w wr) (fun i _ => fs.length - (intOf i).toNat)
  case atStart => exact ⟨0, by omega, fun j f hj => by omega, rfl, Below.refl _ _⟩
  case round =>
   obtain ⟨k, hk, hall, rfl, hb⟩ := hrel
   have HA := Lib.hid hall; clear hall
   by_cases hlt : k < fs.length
   · obtain ⟨f, hfk⟩ : ∃ f, fs[k]? = some f := ⟨_, List.getElem?_eq_getElem hlt⟩
     obtain ⟨b, rfl⟩ := hs.some (by rw [plR_len]; omega)
     have hr := (hs.zw hb).range (plR_at hfk)
     have HK := Lib.hid hfk
     have hbf := hf f (List.mem_of_getElem? hfk)
     clear hfk
     cases hkk : okA p f with
     | false =>
      go_wp2_with (first | refine wpList_load_mid rfl 28 _ rfl b (k * 64) rfl _ _ hr Try.underlying28 rfl (by rw [zl]; exact Try.size28) ?_ | (go_at_call 133; refine (l01Is_any _ _ hbf _).mono ?_; rintro e w' ⟨rfl, hw⟩))
      go_ret
      exact ⟨ret_int (codeL_bad HK.out hkk).symm, hb.trans (hw.mono hb.size)⟩
     | true =>
      go_wp2_with (first | refine wpList_load_mid rfl 28 _ rfl b (k * 64) rfl _ _ hr Try.underlying28 rfl (by rw [zl]; exact Try.size28) ?_ | (go_at_call 133; refine (l01Is_any _ _ hbf _).mono ?_; rintro e w' ⟨rfl, hw⟩))
      go_roundw
      case rel =>
       refine ⟨k + 1, by omega, fun j g hj hg => ?_, by go_num, hb.trans (hw.mono hb.size)⟩
       by_cases e : j = k
       · subst e
         have := HK.out
         rw [hg] at this
         injection this with this
         subst this
         exact hkk
       · exact HA.out j g (by omega) hg
      case measure => simp [intOf]; omega
   · go_wp2_with fail
     go_ret
     refine ⟨ret_int (codeL_ok hp fun j f hj => HA.out j f ?_ hj).symm, hb⟩
     have := (List.getElem?_eq_some_iff.1 hj).1
     omega
/-- the code of two actions -/
noncomputable def c7 (p : Int) (V U : List (Nat → Nat)) : Int := if codeL p V = 0 ∧ codeL p U = 0 then (if V.length ≤ 7 ∧ U.length ≤ 7 then 0 else 2) else 1
theorem c7_0 {p : Int} {V U : List (Nat → Nat)} (h1 : codeL p V = 0) (h2 : codeL p U = 0) (h3 : V.length ≤ 7) (h4 : U.length ≤ 7) : c7 p V U = 0 := by unfold c7; rw [if_pos ⟨h1, h2⟩, if_pos ⟨h3, h4⟩]
theorem c7_2 {p : Int} {V U : List (Nat → Nat)} (h1 : codeL p V = 0) (h2 : codeL p U = 0) (h3 : ¬ (V.length ≤ 7 ∧ U.length ≤ 7)) : c7 p V U = 2 := by unfold c7; rw [if_pos ⟨h1, h2⟩, if_neg h3]
theorem c7_1 {p : Int} {V U : List (Nat → Nat)} (h1 : codeL p V = 1) : c7 p V U = 1 := by unfold c7; rw [if_neg (fun a => by omega)]
theorem c7_1' {p : Int} {V U : List (Nat → Nat)} (h1 : codeL p U = 1) : c7 p V U = 1 := by unfold c7; rw [if_neg (fun a => by omega)]
theorem c7_zero {p : Int} {V U : List (Nat → Nat)} (h : c7 p V U = 0) : codeL p V = 0 ∧ codeL p U = 0 ∧ V.length ≤ 7 ∧ U.length ≤ 7 := by
 unfold c7 at h
 by_cases a : codeL p V = 0 ∧ codeL p U = 0
 · rw [if_pos a] at h
   by_cases b : V.length ≤ 7 ∧ U.length ≤ 7
   · exact ⟨a.1, a.2, b.1, b.2⟩
   · rw [if_neg b] at h; omega
 · rw [if_neg a] at h; omega
attribute [irreducible] c7
set_option maxRecDepth 100000 in
set_option maxHeartbeats 1600000 in
theorem l04Lists_any (p : Int) (V U : List (Nat → Nat)) (hVb : ∀ f ∈ V, byte f) (hUb : ∀ f ∈ U, byte f) (hVl : (V.length : Int) ≤ 1048576) (hUl : (U.length : Int) ≤ 1048576) (aV aU : Option Addr) (cV cU qV qU : Nat) (w : World) (hV : SlL w qV 28 64 (.slice aV V.length cV) (plR V)) (hU : SlL w qU 28 64 (.slice aU U.length cU) (plR U)) :
 Calls Try.prog 79 #[.int .i64 p, .slice aV V.length cV, .slice aU U.length cU] w fun e w' => e = .returned (.int .i64 (c7 p V U)) ∧ Below w.heap.size w w' := by
 have H1 := Lib.hid (l01Code_big p V hVb aV cV qV w hV hVl)
 have H2 := Lib.hid (fun W (hW : Below w.heap.size w W) => l01Code_big p U hUb aU cU qU W (hU.zw hW) hUl)
 clear hVb hUb hV hU
 have hb0 := Below.refl w.heap.size w
 rcases codeL_two p V with h1 | h1
 · rw [h1] at H1
   rcases codeL_two p U with h2 | h2
   · rw [h2] at H2
     by_cases l1 : V.length ≤ 7
     · by_cases l2 : U.length ≤ 7
       · have HV := Lib.hid (c7_0 h1 h2 l1 l2)
         have q1 : ¬ (V.length : Int) > 7 := by omega
         have q2 : ¬ (U.length : Int) > 7 := by omega
         have q3 : ¬ max (V.length : Int) (U.length : Int) > 7 := by omega
         clear h1 h2
         go_enter Try.func79, Try.ntmps79
         go_wp2_with (first | (go_at_call 124; with_reducible refine H1.out.mono ?_; rintro e wx ⟨rfl, hx⟩) | (go_at_call 124; with_reducible refine (H2.out _ hx).mono ?_; rintro e wy ⟨rfl, hy⟩))
         go_ret
         exact ⟨by rw [HV.out] <;> rfl, hb0.trans (hx.trans (hy.mono hx.size))⟩
       · have HV := Lib.hid (c7_2 h1 h2 (fun a => l2 a.2))
         have q1 : ¬ (V.length : Int) > 7 := by omega
         have q2 : (U.length : Int) > 7 := by omega
         have q3 : max (V.length : Int) (U.length : Int) > 7 := by omega
         clear h1 h2
         go_enter Try.func79, Try.ntmps79
         go_wp2_with (first | (go_at_call 124; with_reducible refine H1.out.mono ?_; rintro e wx ⟨rfl, hx⟩) | (go_at_call 124; with_reducible refine (H2.out _ hx).mono ?_; rintro e wy ⟨rfl, hy⟩))
         go_ret
         exact ⟨by rw [HV.out] <;> rfl, hb0.trans (hx.trans (hy.mono hx.size))⟩
     · have HV := Lib.hid (c7_2 h1 h2 (fun a => l1 a.1))
       have q1 : (V.length : Int) > 7 := by omega
       have q3 : max (V.length : Int) (U.length : Int) > 7 := by omega
       clear h1 h2
       go_enter Try.func79, Try.ntmps79
       go_wp2_with (first | (go_at_call 124; with_reducible refine H1.out.mono ?_; rintro e wx ⟨rfl, hx⟩) | (go_at_call 124; with_reducible refine (H2.out _ hx).mono ?_; rintro e wy ⟨rfl, hy⟩))
       go_ret
       exact ⟨by rw [HV.out] <;> rfl, hb0.trans (hx.trans (hy.mono hx.size))⟩
   · rw [h2] at H2
     have HV := Lib.hid (c7_1' (V := V) h2)
     clear h1 h2
     go_enter Try.func79, Try.ntmps79
     go_wp2_with (first | (go_at_call 124; with_reducible refine H1.out.mono ?_; rintro e wx ⟨rfl, hx⟩) | (go_at_call 124; with_reducible refine (H2.out _ hx).mono ?_; rintro e wy ⟨rfl, hy⟩))
     go_ret
     exact ⟨by rw [HV.out] <;> rfl, hb0.trans (hx.trans (hy.mono hx.size))⟩
 · rw [h1] at H1
   have HV := Lib.hid (c7_1 (U := U) h1)
   clear h1
   go_enter Try.func79, Try.ntmps79
   go_wp2_with (first | (go_at_call 124; with_reducible refine H1.out.mono ?_; rintro e wx ⟨rfl, hx⟩))
   go_ret
   exact ⟨by rw [HV.out] <;> rfl, hb0.trans hx⟩
set_option maxRecDepth 100000 in
set_option maxHeartbeats 1600000 in
theorem checkActions_any (p : Int) (V U : List (Nat → Nat)) (hVb : ∀ f ∈ V, byte f) (hUb : ∀ f ∈ U, byte f) (hVl : (V.length : Int) ≤ 1048576) (hUl : (U.length : Int) ≤ 1048576) (aV aU : Option Addr) (cV cU qV qU : Nat) (w : World) (hV : SlL w qV 28 64 (.slice aV V.length cV) (plR V)) (hU : SlL w qU 28 64 (.slice aU U.length cU) (plR U)) :
 Calls Try.prog 82 #[.int .i64 p, .slice aV V.length cV, .slice aU U.length cU] w fun e w' => e = .returned (.int .i64 (c7 p V U)) ∧ Below w.heap.size w w' := by
 have H1 := Lib.hid (checkPolys_big p V hVb aV cV qV w hV hVl)
 have H2 := Lib.hid (fun W (hW : Below w.heap.size w W) => checkPolys_big p U hUb aU cU qU W (hU.zw hW) hUl)
 clear hVb hUb hV hU
 have hb0 := Below.refl w.heap.size w
 rcases codeL_two p V with h1 | h1
 · rw [h1] at H1
   rcases codeL_two p U with h2 | h2
   · rw [h2] at H2
     by_cases l1 : V.length ≤ 7
     · by_cases l2 : U.length ≤ 7
       · have HV := Lib.hid (c7_0 h1 h2 l1 l2)
         have q1 : ¬ (V.length : Int) > 7 := by omega
         have q2 : ¬ (U.length : Int) > 7 := by omega
         have q3 : ¬ max (V.length : Int) (U.length : Int) > 7 := by omega
         clear h1 h2
         by_cases hvu : V.length < U.length
         · have hvi : (V.length : Int) < (U.length : Int) := by omega
           go_enter Try.func82, Try.ntmps82
           go_wp2_with (first | (go_at_call 125; with_reducible refine H1.out.mono ?_; rintro e wx ⟨rfl, hx⟩) | (go_at_call 125; with_reducible refine (H2.out _ hx).mono ?_; rintro e wy ⟨rfl, hy⟩))
           all_goals go_ret
           all_goals exact ⟨by rw [HV.out] <;> rfl, hb0.trans (hx.trans (hy.mono hx.size))⟩
         · have hvi : ¬ (V.length : Int) < (U.length : Int) := by omega
           go_enter Try.func82, Try.ntmps82
           go_wp2_with (first | (go_at_call 125; with_reducible refine H1.out.mono ?_; rintro e wx ⟨rfl, hx⟩) | (go_at_call 125; with_reducible refine (H2.out _ hx).mono ?_; rintro e wy ⟨rfl, hy⟩))
           all_goals go_ret
           all_goals exact ⟨by rw [HV.out] <;> rfl, hb0.trans (hx.trans (hy.mono hx.size))⟩
       · have HV := Lib.hid (c7_2 h1 h2 (fun a => l2 a.2))
         have q1 : ¬ (V.length : Int) > 7 := by omega
         have q2 : (U.length : Int) > 7 := by omega
         have q3 : max (V.length : Int) (U.length : Int) > 7 := by omega
         clear h1 h2
         by_cases hvu : V.length < U.length
         · have hvi : (V.length : Int) < (U.length : Int) := by omega
           go_enter Try.func82, Try.ntmps82
           go_wp2_with (first | (go_at_call 125; with_reducible refine H1.out.mono ?_; rintro e wx ⟨rfl, hx⟩) | (go_at_call 125; with_reducible refine (H2.out _ hx).mono ?_; rintro e wy ⟨rfl, hy⟩))
           all_goals go_ret
           all_goals exact ⟨by rw [HV.out] <;> rfl, hb0.trans (hx.trans (hy.mono hx.size))⟩
         · have hvi : ¬ (V.length : Int) < (U.length : Int) := by omega
           go_enter Try.func82, Try.ntmps82
           go_wp2_with (first | (go_at_call 125; with_reducible refine H1.out.mono ?_; rintro e wx ⟨rfl, hx⟩) | (go_at_call 125; with_reducible refine (H2.out _ hx).mono ?_; rintro e wy ⟨rfl, hy⟩))
           all_goals go_ret
           all_goals exact ⟨by rw [HV.out] <;> rfl, hb0.trans (hx.trans (hy.mono hx.size))⟩
     · have HV := Lib.hid (c7_2 h1 h2 (fun a => l1 a.1))
       have q1 : (V.length : Int) > 7 := by omega
       have q3 : max (V.length : Int) (U.length : Int) > 7 := by omega
       clear h1 h2
       by_cases hvu : V.length < U.length
       · have hvi : (V.length : Int) < (U.length : Int) := by omega
         go_enter Try.func82, Try.ntmps82
         go_wp2_with (first | (go_at_call 125; with_reducible refine H1.out.mono ?_; rintro e wx ⟨rfl, hx⟩) | (go_at_call 125; with_reducible refine (H2.out _ hx).mono ?_; rintro e wy ⟨rfl, hy⟩))
         all_goals go_ret
         all_goals exact ⟨by rw [HV.out] <;> rfl, hb0.trans (hx.trans (hy.mono hx.size))⟩
       · have hvi : ¬ (V.length : Int) < (U.length : Int) := by omega
         go_enter Try.func82, Try.ntmps82
         go_wp2_with (first | (go_at_call 125; with_reducible refine H1.out.mono ?_; rintro e wx ⟨rfl, hx⟩) | (go_at_call 125; with_reducible refine (H2.out _ hx).mono ?_; rintro e wy ⟨rfl, hy⟩))
         all_goals go_ret
         all_goals exact ⟨by rw [HV.out] <;> rfl, hb0.trans (hx.trans (hy.mono hx.size))⟩
   · rw [h2] at H2
     have HV := Lib.hid (c7_1' (V := V) h2)
     clear h1 h2
     by_cases hvu : V.length < U.length
     · have hvi : (V.length : Int) < (U.length : Int) := by omega
       go_enter Try.func82, Try.ntmps82
       go_wp2_with (first | (go_at_call 125; with_reducible refine H1.out.mono ?_; rintro e wx ⟨rfl, hx⟩) | (go_at_call 125; with_reducible refine (H2.out _ hx).mono ?_; rintro e wy ⟨rfl, hy⟩))
       all_goals go_ret
       all_goals exact ⟨by rw [HV.out] <;> rfl, hb0.trans (hx.trans (hy.mono hx.size))⟩
     · have hvi : ¬ (V.length : Int) < (U.length : Int) := by omega
       go_enter Try.func82, Try.ntmps82
       go_wp2_with (first | (go_at_call 125; with_reducible refine H1.out.mono ?_; rintro e wx ⟨rfl, hx⟩) | (go_at_call 125; with_reducible refine (H2.out _ hx).mono ?_; rintro e wy ⟨rfl, hy⟩))
       all_goals go_ret
       all_goals exact ⟨by rw [HV.out] <;> rfl, hb0.trans (hx.trans (hy.mono hx.size))⟩
 · rw [h1] at H1
   have HV := Lib.hid (c7_1 (U := U) h1)
   clear h1
   go_enter Try.func82, Try.ntmps82
   go_wp2_with (first | (go_at_call 125; with_reducible refine H1.out.mono ?_; rintro e wx ⟨rfl, hx⟩))
   go_ret
   exact ⟨by rw [HV.out] <;> rfl, hb0.trans hx⟩
end Go.Proofs.Ytelgefgphhebnaa
end
section
namespace Go.Proofs.Ytelgefgphhebnaa
open Go Go.RowKit
set_option linter.unusedVariables false
set_option linter.unusedSimpArgs false
attribute [local irreducible] deg addK strP resP
set_option maxRecDepth 100000 in
set_option maxHeartbeats 1600000 in
theorem withoutZerosBehind_any (a : Option Addr) (n cap : Nat) (R : Nat → Nat → Nat) (w : World) (hs : SlR w a n R) (hnc : n ≤ cap) (hn9 : n ≤ 100000) :
 Calls Try.prog 126 #[.slice a n cap] w fun e w' => e = .returned (.slice a (skN R n + 1).toNat cap) ∧ Below w.heap.size w w' := by
 go_enter Try.func126, Try.ntmps126
 have hb := Below.refl w.heap.size w
 go_wp2_with fail
 go_loopw [0] (fun v wr => ∃ q : Nat, v = .slice a q cap ∧ q ≤ n ∧ Hid (skN R q = skN R n) ∧ Below w.heap.size w wr) (fun v _ => slLen v)
 case atStart => exact ⟨n, rfl, Nat.le_refl _, Lib.hid rfl, hb⟩
 case round =>
  clear hb
  obtain ⟨q, rfl, hqn, hQ, hb⟩ := hrel
  cases q with
  | zero =>
   have hq0 : ¬ (((0 : Nat) : Int) > 0) := by omega
   have HV := Lib.hid (show (skN R n + 1).toNat = 0 by have := hQ.out; rw [skN_z] at this; omega)
   clear hQ
   go_wp2_with fail
   go_ret
   exact ⟨by rw [HV.out]; rfl, hb⟩
  | succ r =>
   obtain ⟨b, nb, t, rfl, hnb, B0⟩ := hs.has (by omega)
   replace B0 := B0.zw hb
   have hq0 : (((r + 1 : Nat) : Int) > 0) := by omega
   have hq1 : ((r + 1 : Nat) : Int) - 1 = (r : Int) := by omega
   have hqr : (r : Int) < ((r + 1 : Nat) : Int) := by omega
   have hr9 : (r : Int) ≤ 100000 := by omega
   have hgd := Try.noGuard28
   have heq := fun W => zeb (P := Try.prog) W 9998 28 5 64 (R r) (fun _ => 0) Try.underlying28 Try.underlying5 Try.size5
   cases hz : eqN 64 (R r) (fun _ => 0) with
   | true =>
    rw [hz] at heq
    have HS := Lib.hid (show skN R r = skN R n by rw [← hQ.out, skN_skip hz])
    clear hz hQ
    have hrc : (r : Int) ≤ (cap : Int) := by omega
    go_wp2_with (first | (refine wpList_load_mid_g rfl 28 (.tmp 11) rfl _ (r * 64) rfl (bl 64 (R r)) _ (B0.rowF (r := nb) (c := 64) (by omega)) Try.underlying28 rfl (by rw [zl]; exact Try.size28) ?_) | rw [← z64])
    go_roundw
    case rel => exact ⟨r, by first | rfl | simp, by omega, HS, hb⟩
    case measure => simp [slLen]
   | false =>
    rw [hz] at heq
    have HV := Lib.hid (show (skN R n + 1).toNat = r + 1 by rw [← hQ.out, skN_stop hz]; omega)
    clear hz hQ
    go_wp2_with (first | (refine wpList_load_mid_g rfl 28 (.tmp 11) rfl _ (r * 64) rfl (bl 64 (R r)) _ (B0.rowF (r := nb) (c := 64) (by omega)) Try.underlying28 rfl (by rw [zl]; exact Try.size28) ?_) | rw [← z64])
    go_ret
    exact ⟨by rw [HV.out]; rfl, hb⟩
end Go.Proofs.Ytelgefgphhebnaa
end
section
namespace Go.Proofs.Ytelgefgphhebnaa
open Go Go.RowKit
set_option linter.unusedVariables false
set_option linter.unusedSimpArgs false
def bdC (p : Int) : List Value := [.int .i64 p]
theorem bdC_len (p : Int) : (bdC p).length = 1 := rfl
theorem bdC_at (p : Int) : (bdC p).toArray[0]? = some (.int .i64 p) := rfl
theorem built_bd (p : Int) : Try.prog.built 98 [(0, .int .i64 p)] = some (bdC p).toArray := by unfold bdC; kernel_rfl
attribute [irreducible] bdC
theorem Try.size98 : (Try.prog.info? 98).map (·.size) = some 1 := by kernel_rfl
/-- the rows of a list, 0 behind -/
def zrow (L : List (Nat → Nat)) (i : Nat) : Nat → Nat := L.getD i fun _ => 0
theorem zrow_at {L : List (Nat → Nat)} {i : Nat} {x : Nat → Nat} (h : L[i]? = some x) : zrow L i = x := by unfold zrow; rw [List.getD_eq_getElem?_getD, h]; rfl
theorem zrow_out {L : List (Nat → Nat)} {i : Nat} (h : L.length ≤ i) : zrow L i = fun _ => 0 := by unfold zrow; rw [List.getD_eq_getElem?_getD, List.getElem?_eq_none h]; rfl
theorem zrow_get {L : List (Nat → Nat)} {i : Nat} (h : i < L.length) : L[i]? = some (zrow L i) := by rw [zrow_at (List.getElem?_eq_getElem h)]; exact List.getElem?_eq_getElem h
theorem zrow_map (L : List (Nat → Nat)) : (List.range L.length).map (zrow L) = L := by
 apply List.ext_getElem?
 intro i
 by_cases h : i < L.length
 · rw [List.getElem?_map, List.getElem?_range h, zrow_get h]; rfl
 · rw [List.getElem?_eq_none (by simp; omega), List.getElem?_eq_none (by omega)]
theorem zrow_all {L : List (Nat → Nat)} {p : Nat} (hp : 0 < p) (h : ∀ x, x ∈ L → ∀ k, k < 64 → x k < p) (i k : Nat) (hk : k < 64) : zrow L i k < p := by
 by_cases hi : i < L.length
 · exact h _ (List.mem_of_getElem? (zrow_get hi)) k hk
 · rw [zrow_out (by omega)]; exact hp
attribute [irreducible] zrow
/-- rows, one behind the other -/
theorem flat_rows (F : Nat → Nat → Nat) (n : Nat) : (plR ((List.range n).map F)).flatten = bl (n * 64) (fl 64 F) := by
 have hlen : (plR ((List.range n).map F)).length = n := by rw [plR_len]; simp
 have hall : ∀ c ∈ plR ((List.range n).map F), c.length = 64 := by
  intro c hc
  unfold plR at hc
  obtain ⟨f, _, rfl⟩ := List.mem_map.1 hc
  exact zl _ _
 apply List.ext_getElem?
 intro k
 by_cases hk : k < n * 64
 · have hd : k / 64 < n := Nat.div_lt_of_lt_mul (by rw [Nat.mul_comm]; exact hk)
   have hm : k % 64 < 64 := Nat.mod_lt _ (by decide)
   have h1 : (plR ((List.range n).map F))[k / 64]? = some (bl 64 (F (k / 64))) := by
    unfold plR
    rw [List.getElem?_map, List.getElem?_map, List.getElem?_range hd]; rfl
   have h2 : (bl 64 (F (k / 64)))[k % 64]? = some (.int .u8 (F (k / 64) (k % 64) : Int)) := by
    unfold bl
    rw [List.getElem?_map, List.getElem?_range hm]; rfl
   have h3 := flat_at (plR ((List.range n).map F)) 64 (k / 64) _ (k % 64) _ hall h1 h2
   rw [show k / 64 * 64 + k % 64 = k by omega] at h3
   rw [h3]
   unfold bl fl
   rw [List.getElem?_map, List.getElem?_range hk]; rfl
 · have hlf : (plR ((List.range n).map F)).flatten.length = n * 64 := by
    rw [List.length_flatten, show (plR ((List.range n).map F)).map List.length = List.replicate n 64 from List.eq_replicate_iff.2 ⟨by rw [List.length_map, hlen], fun x hx => by obtain ⟨c, hc, rfl⟩ := List.mem_map.1 hx; exact hall c hc⟩, List.sum_replicate_nat]
   rw [List.getElem?_eq_none (l := (plR ((List.range n).map F)).flatten) (by omega), List.getElem?_eq_none (by rw [zl]; omega)]
theorem flat_take (L : List (Nat → Nat)) : ∀ q, q ≤ L.length → (plR (L.take q)).flatten = ((plR L).flatten).take (q * 64) := by
 unfold plR
 induction L with
 | nil => intro q hq; have : q = 0 := by simpa using hq
          subst this; rfl
 | cons x L ih =>
  intro q hq
  cases q with
  | zero => simp
  | succ q =>
   have hq' : q ≤ L.length := by simpa using hq
   rw [List.take_succ_cons, List.map_cons, List.map_cons, List.flatten_cons, List.flatten_cons, ih q hq', List.take_append, zl, List.take_of_length_le (l := bl 64 x) (by rw [zl]; omega), show (q + 1) * 64 - 64 = q * 64 by omega]
/-- the first rows of a list -/
theorem slL_take {w : World} {base n cap q : Nat} {a : Option Addr} {L : List (Nat → Nat)} (h : SlL w base 28 64 (.slice a n cap) (plR L)) (hn : n = L.length) (hq : q ≤ L.length) : SlL w base 28 64 (.slice a q cap) (plR (L.take q)) := by
 unfold SlL World.ownsRow at h ⊢
 obtain ⟨h1, h2, h3, h4⟩ := h
 have hlen : (plR (L.take q)).length = q := by rw [plR_len, List.length_take]; omega
 have hall : ∀ c ∈ plR (L.take q), c.length = 64 := by
  intro c hc
  unfold plR at hc
  obtain ⟨f, _, rfl⟩ := List.mem_map.1 hc
  exact zl _ _
 have hfl : (plR (L.take q)).flatten.length = q * 64 := by
  rw [flat_take L q hq, List.length_take, h3, plR_len]
  exact Nat.min_eq_left (Nat.mul_le_mul_right 64 hq)
 refine ⟨h1, hall, by rw [hlen]; exact hfl, ?_⟩
 rcases h4 with ⟨e1, e2⟩ | ⟨g, c, cur, e1, e2, e3, e4, e5, e6, e7⟩
 · left
   injection e1 with e1 e8 e9
   have : q = 0 := by omega
   subst this
   exact ⟨by rw [e1, e9], hlen⟩
 · right
   injection e1 with e1 e8 e9
   refine ⟨g, c, cur, by rw [e1, e9, hlen], e2, e3, by rw [plR_len] at e4; omega, e5, e6, ?_⟩
   rw [hlen, flat_take L q hq, ← e7, List.take_take, plR_len, Nat.min_eq_left (Nat.mul_le_mul_right 64 hq)]
/-- a list that fills its block -/
theorem slL_blk {w : World} {base b : Nat} {L : List (Nat → Nat)} (h : SlL w base 28 64 (.slice (some ⟨b, 0, none⟩) L.length L.length) (plR L)) : Blk w b (L.length * 64) 28 (fl 64 (zrow L)) := by
 unfold SlL World.ownsRow at h
 obtain ⟨h1, h2, h3, h4⟩ := h
 rcases h4 with ⟨e1, e2⟩ | ⟨g, c, cur, e1, e2, e3, e4, e5, e6, e7⟩
 · cases e1
 · injection e1 with e1 e8 e9
   injection e1 with e1
   injection e1 with e1
   subst e1
   rw [plR_len] at e7
   have hf := flat_rows (zrow L) L.length
   rw [zrow_map] at hf
   rw [hf, List.take_of_length_le (by rw [Array.length_toList]; omega)] at e7
   have : cur = zb (L.length * 64) (fl 64 (zrow L)) := by
    apply Array.ext'
    rw [e7]
   rw [this] at e3
   unfold Blk; exact e3
theorem slL_cap {w : World} {base n cap : Nat} {a : Option Addr} {cs : List (List Value)} (h : SlL w base 28 64 (.slice a n cap) cs) : n ≤ cap := by
 unfold SlL World.ownsRow at h
 obtain ⟨h1, h2, h3, h4⟩ := h
 rcases h4 with ⟨e1, e2⟩ | ⟨g, c, cur, e1, e2, e3, e4, e5, e6, e7⟩
 · injection e1 with e1 e8 e9; omega
 · injection e1 with e1 e8 e9; omega
attribute [local irreducible] deg addK okA
set_option maxRecDepth 100000 in
set_option maxHeartbeats 1600000 in
theorem bplus_any (p : Nat) (f g : Nat → Nat) (w : World) (hpr : p = 2 ∨ p = 3 ∨ p = 5 ∨ p = 7) (lf : ∀ k, k < 64 → f k < p) (lg : ∀ k, k < 64 → g k < p) :
 Calls Try.prog 212 #[.agg (bdC (p : Int)).toArray, .agg (zb 64 f), .agg (zb 64 g)] w fun e w' => e = .returned (.agg (zb 64 (addK p f g 1))) ∧ Below w.heap.size w w' := by
 have HSU := Lib.hid (show ∀ W, Calls Try.prog 117 #[.int .i64 (p : Int), .agg (zb 64 f), .agg (zb 64 g)] W fun e w' => e = .returned (.agg (zb 64 (addK p f g 1))) ∧ Below W.heap.size W w' from fun W => by
  rw [addK_one]; exact sum_any p _ _ W (by omega) (by omega) lf lg)
 go_enter Try.func212, Try.ntmps212
 go_upto_region 1 with (fail)
 rw [← z64]
 obtain ⟨W1, hwo⟩ : ∃ v : World, v = ((((w.alloc (.cells (bdC (p : Int)).toArray 98)).alloc (.cells (zb 64 (f)) 28)).alloc (.cells (zb 64 (g)) 28)).alloc (.cells (zb 64 (fun _ => 0)) 28)) := ⟨_, rfl⟩
 have B0 : Row W1 (w.heap.size) 98 (bdC (p : Int)).toArray := by subst hwo; have := ((((Row.new w 98 (bdC (p : Int)).toArray).alloc (.cells (zb 64 (f)) 28)).alloc (.cells (zb 64 (g)) 28)).alloc (.cells (zb 64 (fun _ => 0)) 28)); simpa using this
 have B1 : Blk W1 (w.heap.size + 1) 64 28 (f) := by subst hwo; have := (((Blk.new (w.alloc (.cells (bdC (p : Int)).toArray 98)) 64 28 (f)).alloc (.cells (zb 64 (g)) 28)).alloc (.cells (zb 64 (fun _ => 0)) 28)); simpa using this
 have B2 : Blk W1 (w.heap.size + 1 + 1) 64 28 (g) := by subst hwo; have := ((Blk.new ((w.alloc (.cells (bdC (p : Int)).toArray 98)).alloc (.cells (zb 64 (f)) 28)) 64 28 (g)).alloc (.cells (zb 64 (fun _ => 0)) 28)); simpa using this
 have B3 : Blk W1 (w.heap.size + 1 + 1 + 1) 64 28 (fun _ => 0) := by subst hwo; have := (Blk.new (((w.alloc (.cells (bdC (p : Int)).toArray 98)).alloc (.cells (zb 64 (f)) 28)).alloc (.cells (zb 64 (g)) 28)) 64 28 (fun _ => 0)); simpa using this
 have hb : Below w.heap.size w W1 := by subst hwo; exact (((((Below.refl _ _).alloc (Nat.le_refl _) _).alloc (by simp) _).alloc (by simp; omega) _).alloc (by simp; omega) _)
 rw [← hwo]
 clear hwo
 have cc := B0.cell (i := 0) (v := .int .i64 (p : Int)) (bdC_at (p : Int))
 have lt_B0 := B0.lt
 have lt_B1 := B1.lt
 have lt_B2 := B2.lt
 have lt_B3 := B3.lt
 go_wp2_with (first | rw [← z64] | (refine zla (.tmp 4) B1 Try.underlying28 Try.size28 ?_) | (refine zla (.tmp 5) B2 Try.underlying28 Try.size28 ?_) | (go_at_call 117; refine (HSU.out _).mono ?_; rintro e W2 ⟨rfl, hW2⟩; replace B0 := B0.zw hW2; replace B1 := B1.zw hW2; replace B2 := B2.zw hW2; replace B3 := B3.zw hW2; replace hb := (hb).trans (hW2.mono (hb).size)) | (refine zsr (.tmp 6) (.tmp 11) (addK p f g 1) B3 Try.size28 ?_; try simp only [Act.put]))
 obtain ⟨W3, hwo, hzQ⟩ : ∃ v : World, v = (W2.setRow (w.heap.size + 1 + 1 + 1) (zb 64 (addK p f g 1))) ∧ Row v (w.heap.size) 98 (bdC (p : Int)).toArray ∧ Blk v (w.heap.size + 1) 64 28 (f) ∧ Blk v (w.heap.size + 1 + 1) 64 28 (g) ∧ Blk v (w.heap.size + 1 + 1 + 1) 64 28 (addK p f g 1) ∧ Below w.heap.size w v := ⟨_, rfl, (B0.rowOther (by omega)), (B1.rowOther (by omega)), (B2.rowOther (by omega)), (B3.row (addK p f g 1)), (zr hb (by omega) _)⟩
 rw [← hwo]
 clear hwo B0 B1 B2 B3 hb
 obtain ⟨B0, B1, B2, B3, hb⟩ := hzQ
 try simp only [Act.put, pA, pB, pC]
 refine bodyPost_ret (zrb rfl _ _ _ 64 28 5 _ rfl B3 Try.underlying28 Try.size28) rfl ⟨rfl, hb⟩
set_option maxRecDepth 100000 in
set_option maxHeartbeats 1600000 in
theorem l04Trim_any (a : Option Addr) (n cap base : Nat) (R : Nat → Nat → Nat) (w : World) (hs : SlL w base 28 64 (.slice a n cap) (plR ((List.range n).map R))) (hn9 : n ≤ 100000) :
 Calls Try.prog 81 #[.slice a n cap] w fun e w' => e = .returned (.slice a (skN R n + 1).toNat cap) ∧ Below w.heap.size w w' := by
 have hnc := slL_cap hs
 go_enter Try.func81, Try.ntmps81
 have hb := Below.refl w.heap.size w
 go_wp2_with fail
 go_loopw [0] (fun v wr => ∃ q : Nat, v = .slice a q cap ∧ q ≤ n ∧ Hid (skN R q = skN R n) ∧ Below w.heap.size w wr) (fun v _ => slLen v)
 case atStart => exact ⟨n, rfl, Nat.le_refl _, Lib.hid rfl, hb⟩
 case round =>
  clear hb
  obtain ⟨q, rfl, hqn, hQ, hb⟩ := hrel
  cases q with
  | zero =>
   have hq0 : ¬ (((0 : Nat) : Int) > 0) := by omega
   have HV := Lib.hid (show (skN R n + 1).toNat = 0 by have := hQ.out; rw [skN_z] at this; omega)
   clear hQ
   go_wp2_with fail
   go_ret
   exact ⟨by rw [HV.out]; rfl, hb⟩
  | succ r =>
   obtain ⟨b, rfl⟩ := hs.some (by rw [plR_len, List.length_map, List.length_range]; omega)
   have hrw : (plR ((List.range n).map R))[r]? = some (bl 64 (R r)) := plR_at (by rw [List.getElem?_map, List.getElem?_range (by omega)]; rfl)
   have B0 := (hs.zw hb).range hrw
   clear hrw
   have hq0 : (((r + 1 : Nat) : Int) > 0) := by omega
   have hq1 : ((r + 1 : Nat) : Int) - 1 = (r : Int) := by omega
   have hqr : (r : Int) < ((r + 1 : Nat) : Int) := by omega
   have hr9 : (r : Int) ≤ 100000 := by omega
   have hgd := Try.noGuard28
   have heq := fun W => zeb (P := Try.prog) W 9998 28 5 64 (R r) (fun _ => 0) Try.underlying28 Try.underlying5 Try.size5
   cases hz : eqN 64 (R r) (fun _ => 0) with
   | true =>
    rw [hz] at heq
    have HS := Lib.hid (show skN R r = skN R n by rw [← hQ.out, skN_skip hz])
    clear hz hQ
    have hrc : (r : Int) ≤ (cap : Int) := by omega
    go_wp2_with (first | (refine wpList_load_mid_g rfl 28 (.tmp 11) rfl _ (r * 64) rfl (bl 64 (R r)) _ B0 Try.underlying28 rfl (by rw [zl]; exact Try.size28) ?_) | rw [← z64])
    go_roundw
    case rel => exact ⟨r, by first | rfl | simp, by omega, HS, hb⟩
    case measure => simp [slLen]
   | false =>
    rw [hz] at heq
    have HV := Lib.hid (show (skN R n + 1).toNat = r + 1 by rw [← hQ.out, skN_stop hz]; omega)
    clear hz hQ
    go_wp2_with (first | (refine wpList_load_mid_g rfl 28 (.tmp 11) rfl _ (r * 64) rfl (bl 64 (R r)) _ B0 Try.underlying28 rfl (by rw [zl]; exact Try.size28) ?_) | rw [← z64])
    go_ret
    exact ⟨by rw [HV.out]; rfl, hb⟩
end Go.Proofs.Ytelgefgphhebnaa
end
section
namespace Go.Proofs.Ytelgefgphhebnaa
open Go Go.RowKit
set_option linter.unusedVariables false
set_option linter.unusedSimpArgs false
attribute [local irreducible] deg resP addK strP prd
theorem refuse_ok (x : Int) (h : x ≤ 63) (w : World) : Calls Try.prog 215 #[.int .i64 x] w fun e w' => e = .returned (.tuple #[]) ∧ w = w' := by
 have h1 : ¬ 63 < x := by omega
 go_enter Try.func215, Try.ntmps215
 go_wp2_with fail
 first | go_end0 | skip
 exact ⟨rfl, rfl⟩
theorem refuse_no (x : Int) (h : 63 < x) (w : World) : Calls Try.prog 215 #[.int .i64 x] w fun e w' => e = .panicked [{ v := .iface 130 (.int .i64 3), recovered := false }] ∧ w = w' := by
 go_enter Try.func215, Try.ntmps215
 go_wp2_with fail
 skip
 exact ⟨rfl, rfl, rfl⟩
theorem pow_b6 {p i : Nat} (h1 : 2 ≤ p) (h2 : p ≤ 7) (hi : i ≤ 6) : 1 ≤ p ^ i ∧ p ^ i ≤ 117649 := by
 have a : p ^ i ≤ 7 ^ i := Nat.pow_le_pow_left h2 i
 have b : 7 ^ i ≤ 7 ^ 6 := Nat.pow_le_pow_right (by omega) hi
 have c : 7 ^ 6 = 117649 := by decide
 have d : 0 < p ^ i := Nat.pow_pos (by omega)
 omega
/-- small enough to be raised -/
def smI (p i : Nat) : Prop := i ≤ 20 ∧ p ^ i ≤ 117649
theorem smI_6 {p i : Nat} (h1 : 2 ≤ p) (h2 : p ≤ 7) (hi : i ≤ 6) : smI p i := ⟨by omega, (pow_b6 h1 h2 hi).2⟩
set_option maxRecDepth 100000 in
set_option maxHeartbeats 1600000 in
theorem raised_ok (p i : Nat) (f : Nat → Nat) (w : World) (p2 : 2 ≤ p) (p7 : p ≤ 7) (hi : smI p i) (lf : ∀ k, k < 64 → f k < p) (hd : deg f * ((p ^ i : Nat) : Int) ≤ 63) :
 Calls Try.prog 214 #[.int .i64 (p : Int), .agg (zb 64 f), .int .i64 (i : Int)] w fun e w' => e = .returned (.agg (zb 64 (strP (p ^ i) f))) ∧ Below w.heap.size w w' := by
 have q1 : 1 ≤ p ^ i := Nat.pow_pos (by omega)
 have q2 := hi.2
 have hi20 := hi.1
 have HNO := Lib.hid (fun W => norm_any p i W p2 p7 hi20)
 obtain ⟨Q, hQ⟩ : ∃ Q, Q = p ^ i := ⟨_, rfl⟩
 rw [← hQ] at q1 q2 HNO hd
 have HST := Lib.hid (show ∀ W, Calls Try.prog 132 #[.agg (zb 64 f), .int .i64 (Q : Int)] W fun e w' => e = .returned (.agg (zb 64 (strP (p ^ i) f))) ∧ Below W.heap.size W w' from fun W => by
  rw [← hQ]; exact stretched_any Q f W q1 (by omega) (fun k hk => by have := lf k hk; omega) hd)
 obtain ⟨fb1, fb2⟩ := zdb f
 have mb1 : -117649 ≤ deg f * (Q : Int) := by
  have h := Int.mul_le_mul_of_nonneg_right fb1 (show (0 : Int) ≤ (Q : Int) by omega)
  omega
 have mb2 : deg f * (Q : Int) ≤ 7411887 := by
  have h := Int.mul_le_mul_of_nonneg_right fb2 (show (0 : Int) ≤ (Q : Int) by omega)
  omega
 clear hQ
 go_enter Try.func214, Try.ntmps214
 go_upto_region 1 with (fail)
 rw [← z64]
 obtain ⟨W1, hwo⟩ : ∃ v : World, v = ((w.alloc (.cells (zb 64 (f)) 28)).alloc (.cells (zb 64 fun _ => 0) 28)) := ⟨_, rfl⟩
 have B0 : Blk W1 (w.heap.size) 64 28 (f) := by subst hwo; have := ((Blk.new w 64 28 (f)).alloc (.cells (zb 64 fun _ => 0) 28)); simpa using this
 have B1 : Blk W1 (w.heap.size + 1) 64 28 (fun _ => 0) := by subst hwo; have := (Blk.new (w.alloc (.cells (zb 64 (f)) 28)) 64 28 (fun _ => 0)); simpa using this
 have hb : Below w.heap.size w W1 := by subst hwo; exact (((Below.refl _ _).alloc (Nat.le_refl _) _).alloc (by simp) _)
 rw [← hwo]
 clear hwo
 go_upto_region 2 with (first | (go_at_call 164; refine (HNO.out _).mono ?_; rintro e wS ⟨rfl, rfl⟩))
 go_upto_region 3 with (first | (refine zla (.tmp 4) B0 Try.underlying28 Try.size28 ?_) | (go_at_call 77; refine (degree_any f _).mono ?_; rintro e W2 ⟨rfl, hW2⟩; replace B0 := B0.zw hW2; replace B1 := B1.zw hW2; replace hb := (hb).trans (hW2.mono (hb).size)) | (go_at_call 215; refine (refuse_ok _ hd _).mono ?_; rintro e wS ⟨rfl, rfl⟩))
 have lt_B0 := B0.lt
 have lt_B1 := B1.lt
 go_wp2_with (first | rw [← z64] | (refine zla (.tmp 4) B0 Try.underlying28 Try.size28 ?_) | (go_at_call 132; refine (HST.out _).mono ?_; rintro e W3 ⟨rfl, hW3⟩; replace B0 := B0.zw hW3; replace B1 := B1.zw hW3; replace hb := (hb).trans (hW3.mono (hb).size)) | (refine zsr (.tmp 6) (.tmp 18) (strP (p ^ i) f) B1 Try.size28 ?_; try simp only [Act.put]))
 obtain ⟨W4, hwo, hzQ⟩ : ∃ v : World, v = (W3.setRow (w.heap.size + 1) (zb 64 (strP (p ^ i) f))) ∧ Blk v (w.heap.size) 64 28 (f) ∧ Blk v (w.heap.size + 1) 64 28 (strP (p ^ i) f) ∧ Below w.heap.size w v := ⟨_, rfl, (B0.rowOther (by omega)), (B1.row (strP (p ^ i) f)), (zr hb (by omega) _)⟩
 rw [← hwo]
 clear hwo B0 B1 hb
 obtain ⟨B0, B1, hb⟩ := hzQ
 try simp only [Act.put, pA, pB, pC]
 refine bodyPost_ret (zrb rfl _ _ _ 64 28 5 _ rfl B1 Try.underlying28 Try.size28) rfl ⟨rfl, hb⟩
set_option maxRecDepth 100000 in
set_option maxHeartbeats 1600000 in
theorem raised_no (p i : Nat) (f : Nat → Nat) (w : World) (p2 : 2 ≤ p) (p7 : p ≤ 7) (hi : smI p i) (lf : ∀ k, k < 64 → f k < p) (hd : 63 < deg f * ((p ^ i : Nat) : Int)) :
 Calls Try.prog 214 #[.int .i64 (p : Int), .agg (zb 64 f), .int .i64 (i : Int)] w fun e w' => e = .panicked [{ v := .iface 130 (.int .i64 3), recovered := false }] ∧ Below w.heap.size w w' := by
 have q1 : 1 ≤ p ^ i := Nat.pow_pos (by omega)
 have q2 := hi.2
 have hi20 := hi.1
 have HNO := Lib.hid (fun W => norm_any p i W p2 p7 hi20)
 obtain ⟨Q, hQ⟩ : ∃ Q, Q = p ^ i := ⟨_, rfl⟩
 rw [← hQ] at q1 q2 HNO hd
 obtain ⟨fb1, fb2⟩ := zdb f
 have mb1 : -117649 ≤ deg f * (Q : Int) := by
  have h := Int.mul_le_mul_of_nonneg_right fb1 (show (0 : Int) ≤ (Q : Int) by omega)
  omega
 have mb2 : deg f * (Q : Int) ≤ 7411887 := by
  have h := Int.mul_le_mul_of_nonneg_right fb2 (show (0 : Int) ≤ (Q : Int) by omega)
  omega
 clear hQ
 go_enter Try.func214, Try.ntmps214
 go_upto_region 1 with (fail)
 rw [← z64]
 obtain ⟨W1, hwo⟩ : ∃ v : World, v = ((w.alloc (.cells (zb 64 (f)) 28)).alloc (.cells (zb 64 fun _ => 0) 28)) := ⟨_, rfl⟩
 have B0 : Blk W1 (w.heap.size) 64 28 (f) := by subst hwo; have := ((Blk.new w 64 28 (f)).alloc (.cells (zb 64 fun _ => 0) 28)); simpa using this
 have B1 : Blk W1 (w.heap.size + 1) 64 28 (fun _ => 0) := by subst hwo; have := (Blk.new (w.alloc (.cells (zb 64 (f)) 28)) 64 28 (fun _ => 0)); simpa using this
 have hb : Below w.heap.size w W1 := by subst hwo; exact (((Below.refl _ _).alloc (Nat.le_refl _) _).alloc (by simp) _)
 rw [← hwo]
 clear hwo
 go_upto_region 2 with (first | (go_at_call 164; refine (HNO.out _).mono ?_; rintro e wS ⟨rfl, rfl⟩))
 go_wp2_with (first | (refine zla (.tmp 4) B0 Try.underlying28 Try.size28 ?_) | (go_at_call 77; refine (degree_any f _).mono ?_; rintro e W2 ⟨rfl, hW2⟩; replace B0 := B0.zw hW2; replace B1 := B1.zw hW2; replace hb := (hb).trans (hW2.mono (hb).size)) | (go_at_call 215; refine (refuse_no _ hd _).mono ?_; rintro e wS ⟨rfl, rfl⟩))
 exact ⟨rfl, rfl, hb⟩
end Go.Proofs.Ytelgefgphhebnaa
end
section
namespace Go.Proofs.Ytelgefgphhebnaa
open Go Go.RowKit
set_option linter.unusedVariables false
set_option linter.unusedSimpArgs false
attribute [local irreducible] deg resP addK strP prd
theorem refuse_okB (x : Int) (h : x ≤ 63) (w : World) : Calls Try.prog 215 #[.int .i64 x] w fun e w' => e = .returned (.tuple #[]) ∧ Below w.heap.size w w' := (refuse_ok x h w).mono (by rintro e w' ⟨rfl, rfl⟩; exact ⟨rfl, Below.refl _ _⟩)
theorem refuse_noB (x : Int) (h : 63 < x) (w : World) : Calls Try.prog 215 #[.int .i64 x] w fun e w' => e = .panicked [{ v := .iface 130 (.int .i64 3), recovered := false }] ∧ Below w.heap.size w w' := (refuse_no x h w).mono (by rintro e w' ⟨rfl, rfl⟩; exact ⟨rfl, Below.refl _ _⟩)
set_option maxRecDepth 100000 in
set_option maxHeartbeats 1600000 in
theorem bounded_ok (p : Nat) (f g : Nat → Nat) (w : World) (p2 : 2 ≤ p) (p7 : p ≤ 7) (lf : ∀ k, k < 64 → f k < p) (lg : ∀ k, k < 64 → g k < p) (hds : deg f + deg g ≤ 63) :
 Calls Try.prog 213 #[.int .i64 (p : Int), .agg (zb 64 f), .agg (zb 64 g)] w fun e w' => e = .returned (.agg (zb 64 (prd p f g))) ∧ Below w.heap.size w w' := by
 obtain ⟨fb1, fb2⟩ := zdb f
 obtain ⟨gb1, gb2⟩ := zdb g
 have HPR := Lib.hid (fun W => product_any p f g W p2 p7 lf lg)
 go_enter Try.func213, Try.ntmps213
 go_upto_region 1 with (fail)
 rw [← z64]
 obtain ⟨W1, hwo⟩ : ∃ v : World, v = (((w.alloc (.cells (zb 64 (f)) 28)).alloc (.cells (zb 64 (g)) 28)).alloc (.cells (zb 64 fun _ => 0) 28)) := ⟨_, rfl⟩
 have B0 : Blk W1 (w.heap.size) 64 28 (f) := by subst hwo; have := (((Blk.new w 64 28 (f)).alloc (.cells (zb 64 (g)) 28)).alloc (.cells (zb 64 fun _ => 0) 28)); simpa using this
 have B1 : Blk W1 (w.heap.size + 1) 64 28 (g) := by subst hwo; have := ((Blk.new (w.alloc (.cells (zb 64 (f)) 28)) 64 28 (g)).alloc (.cells (zb 64 fun _ => 0) 28)); simpa using this
 have B2 : Blk W1 (w.heap.size + 1 + 1) 64 28 (fun _ => 0) := by subst hwo; have := (Blk.new ((w.alloc (.cells (zb 64 (f)) 28)).alloc (.cells (zb 64 (g)) 28)) 64 28 (fun _ => 0)); simpa using this
 have hb : Below w.heap.size w W1 := by subst hwo; exact ((((Below.refl _ _).alloc (Nat.le_refl _) _).alloc (by simp) _).alloc (by simp; omega) _)
 rw [← hwo]
 clear hwo
 have lt_B0 : (w.heap.size) < W1.heap.size := B0.lt
 have lt_B1 : (w.heap.size + 1) < W1.heap.size := B1.lt
 have lt_B2 : (w.heap.size + 1 + 1) < W1.heap.size := B2.lt
 have hbase : w.heap.size ≤ W1.heap.size := hb.size
 refine zq Try.mixed (by kernel_rfl) (by kernel_rfl) (fun v => by (simp only [frL, Act.put, pA, pB, pC, Nat.reduceAdd, Nat.zero_add]; exact rfl))
  (fun L v W2 => Below w.heap.size w W2 ∧ W1.heap.size ≤ W2.heap.size ∧ Blk W2 (w.heap.size) 64 28 (f) ∧ Blk W2 (w.heap.size + 1) 64 28 (g) ∧ Blk W2 (w.heap.size + 1 + 1) 64 28 (fun _ => 0) ∧ (L 0 = true → v 0 = (.agg (zb 64 (f)))) ∧ (L 1 = true → v 1 = (.int .i64 (deg f))) ∧ (L 2 = true → v 2 = (.agg (zb 64 (g)))) ∧ (L 3 = true → v 3 = (.int .i64 (deg g))) ∧ (L 4 = true → v 4 = (.int .i64 (deg f + deg g))) ∧ (L 5 = true → v 5 = (.tuple #[]))) ?_ ?_ ?_
 · intro v hv0
   exact ⟨hb.drew, Nat.le_refl _, B0.drew, B1.drew, B2.drew, (fun h => by cases h), (fun h => by cases h), (fun h => by cases h), (fun h => by cases h), (fun h => by cases h), (fun h => by cases h)⟩
 · refine (.cons rfl ?_ (.cons rfl ?_ (.cons rfl ?_ (.cons rfl ?_ (.cons rfl ?_ (.cons rfl ?_ (.nil _)))))))
   all_goals intro L v W2 hd hn ⟨hB, hz, s0, s1, s2, h0, h1, h2, h3, h4, h5⟩ K hK
   · refine zlc s0 Try.underlying28 Try.size28 ?_
     exact hK _ _ _ rfl ⟨hB, hz, s0, s1, s2, (fun _ => rfl), h1, h2, h3, h4, h5⟩
   · have e0 := h0 (zdq hd 0 rfl)
     go_wp2_with (go_at_call 77; refine (degree_any f _).mono ?_; rintro e wy ⟨rfl, hy⟩)
     exact hK _ (.int .i64 (deg f)) _ (by simp only [Act.put, pA, pB, pC, e0]) ⟨hB.trans (hy.mono hB.size), (Nat.le_trans hz hy.size), s0.zw hy, s1.zw hy, s2.zw hy, h0, (fun _ => rfl), h2, h3, h4, h5⟩
   · refine zlc s1 Try.underlying28 Try.size28 ?_
     exact hK _ _ _ rfl ⟨hB, hz, s0, s1, s2, h0, h1, (fun _ => rfl), h3, h4, h5⟩
   · have e2 := h2 (zdq hd 2 rfl)
     go_wp2_with (go_at_call 77; refine (degree_any g _).mono ?_; rintro e wy ⟨rfl, hy⟩)
     exact hK _ (.int .i64 (deg g)) _ (by simp only [Act.put, pA, pB, pC, e2]) ⟨hB.trans (hy.mono hB.size), (Nat.le_trans hz hy.size), s0.zw hy, s1.zw hy, s2.zw hy, h0, h1, h2, (fun _ => rfl), h4, h5⟩
   · have e1 := h1 (zdq hd 1 rfl)
     have e3 := h3 (zdq hd 3 rfl)
     go_wp2_with fail
     exact hK _ (.int .i64 (deg f + deg g)) _ (by simp only [Act.put, pA, pB, pC, e1, e3]) ⟨hB, hz, s0, s1, s2, h0, h1, h2, h3, (fun _ => rfl), h5⟩
   · have e4 := h4 (zdq hd 4 rfl)
     go_wp2_with (go_at_call 215; refine (refuse_okB _ hds _).mono ?_; rintro e wy ⟨rfl, hy⟩)
     exact hK _ (.tuple #[]) _ (by simp only [Act.put, pA, pB, pC, e4]) ⟨hB.trans (hy.mono hB.size), (Nat.le_trans hz hy.size), s0.zw hy, s1.zw hy, s2.zw hy, h0, h1, h2, h3, h4, (fun _ => rfl)⟩
 · intro L v W2 hL ⟨hB, hz, s0, s1, s2, h0, h1, h2, h3, h4, h5⟩
   have e0 := h0 (hL 0 (by decide))
   have e1 := h1 (hL 1 (by decide))
   have e2 := h2 (hL 2 (by decide))
   have e3 := h3 (hL 3 (by decide))
   have e4 := h4 (hL 4 (by decide))
   have e5 := h5 (hL 5 (by decide))
   clear hL h0 h1 h2 h3 h4 h5
   simp only [Exit.then, e0, e1, e2, e3, e4, e5]
   clear e0 e1 e2 e3 e4 e5
   replace B0 := s0
   clear s0
   replace B1 := s1
   clear s1
   replace B2 := s2
   clear s2
   replace hb := hB
   clear hB
   clear hbase hz lt_B0 lt_B1 lt_B2
   go_upto_region 2 with (fail)
   have lt_B0 := B0.lt
   have lt_B1 := B1.lt
   have lt_B2 := B2.lt
   go_wp2_with (first | rw [← z64] | (refine zla (.tmp 4) B0 Try.underlying28 Try.size28 ?_) | (refine zla (.tmp 5) B1 Try.underlying28 Try.size28 ?_) | (go_at_call 118; refine (HPR.out _).mono ?_; rintro e W3 ⟨rfl, hW3⟩; replace B0 := B0.zw hW3; replace B1 := B1.zw hW3; replace B2 := B2.zw hW3; replace hb := (hb).trans (hW3.mono (hb).size)) | (refine zsr (.tmp 6) (.tmp 16) (prd p f g) B2 Try.size28 ?_; try simp only [Act.put]))
   obtain ⟨W4, hwo, hzQ⟩ : ∃ v : World, v = (W3.setRow (w.heap.size + 1 + 1) (zb 64 (prd p f g))) ∧ Blk v (w.heap.size) 64 28 (f) ∧ Blk v (w.heap.size + 1) 64 28 (g) ∧ Blk v (w.heap.size + 1 + 1) 64 28 (prd p f g) ∧ Below w.heap.size w v := ⟨_, rfl, (B0.rowOther (by omega)), (B1.rowOther (by omega)), (B2.row (prd p f g)), (zr hb (by omega) _)⟩
   rw [← hwo]
   clear hwo B0 B1 B2 hb
   obtain ⟨B0, B1, B2, hb⟩ := hzQ
   try simp only [Act.put, pA, pB, pC]
   refine bodyPost_ret (zrb rfl _ _ _ 64 28 5 _ rfl B2 Try.underlying28 Try.size28) rfl ⟨rfl, hb⟩
set_option maxRecDepth 100000 in
set_option maxHeartbeats 1600000 in
theorem bounded_no (p : Nat) (f g : Nat → Nat) (w : World) (p2 : 2 ≤ p) (p7 : p ≤ 7) (lf : ∀ k, k < 64 → f k < p) (lg : ∀ k, k < 64 → g k < p) (hds : 63 < deg f + deg g) :
 Calls Try.prog 213 #[.int .i64 (p : Int), .agg (zb 64 f), .agg (zb 64 g)] w fun e w' => e = .panicked [{ v := .iface 130 (.int .i64 3), recovered := false }] ∧ Below w.heap.size w w' := by
 obtain ⟨fb1, fb2⟩ := zdb f
 obtain ⟨gb1, gb2⟩ := zdb g
 have HPR := Lib.hid (fun W => product_any p f g W p2 p7 lf lg)
 go_enter Try.func213, Try.ntmps213
 go_upto_region 1 with (fail)
 rw [← z64]
 obtain ⟨W1, hwo⟩ : ∃ v : World, v = (((w.alloc (.cells (zb 64 (f)) 28)).alloc (.cells (zb 64 (g)) 28)).alloc (.cells (zb 64 fun _ => 0) 28)) := ⟨_, rfl⟩
 have B0 : Blk W1 (w.heap.size) 64 28 (f) := by subst hwo; have := (((Blk.new w 64 28 (f)).alloc (.cells (zb 64 (g)) 28)).alloc (.cells (zb 64 fun _ => 0) 28)); simpa using this
 have B1 : Blk W1 (w.heap.size + 1) 64 28 (g) := by subst hwo; have := ((Blk.new (w.alloc (.cells (zb 64 (f)) 28)) 64 28 (g)).alloc (.cells (zb 64 fun _ => 0) 28)); simpa using this
 have B2 : Blk W1 (w.heap.size + 1 + 1) 64 28 (fun _ => 0) := by subst hwo; have := (Blk.new ((w.alloc (.cells (zb 64 (f)) 28)).alloc (.cells (zb 64 (g)) 28)) 64 28 (fun _ => 0)); simpa using this
 have hb : Below w.heap.size w W1 := by subst hwo; exact ((((Below.refl _ _).alloc (Nat.le_refl _) _).alloc (by simp) _).alloc (by simp; omega) _)
 rw [← hwo]
 clear hwo
 have lt_B0 : (w.heap.size) < W1.heap.size := B0.lt
 have lt_B1 : (w.heap.size + 1) < W1.heap.size := B1.lt
 have lt_B2 : (w.heap.size + 1 + 1) < W1.heap.size := B2.lt
 have hbase : w.heap.size ≤ W1.heap.size := hb.size
 refine zq Try.mixed (by kernel_rfl) (by kernel_rfl) (fun v => by (simp only [frL, Act.put, pA, pB, pC, Nat.reduceAdd, Nat.zero_add]; exact rfl))
  (fun L v W2 => Below w.heap.size w W2 ∧ W1.heap.size ≤ W2.heap.size ∧ Blk W2 (w.heap.size) 64 28 (f) ∧ Blk W2 (w.heap.size + 1) 64 28 (g) ∧ Blk W2 (w.heap.size + 1 + 1) 64 28 (fun _ => 0) ∧ (L 0 = true → v 0 = (.agg (zb 64 (f)))) ∧ (L 1 = true → v 1 = (.int .i64 (deg f))) ∧ (L 2 = true → v 2 = (.agg (zb 64 (g)))) ∧ (L 3 = true → v 3 = (.int .i64 (deg g))) ∧ (L 4 = true → v 4 = (.int .i64 (deg f + deg g))) ∧ (L 5 = true → False)) ?_ ?_ ?_
 · intro v hv0
   exact ⟨hb.drew, Nat.le_refl _, B0.drew, B1.drew, B2.drew, (fun h => by cases h), (fun h => by cases h), (fun h => by cases h), (fun h => by cases h), (fun h => by cases h), (fun h => by cases h)⟩
 · refine (.cons rfl ?_ (.cons rfl ?_ (.cons rfl ?_ (.cons rfl ?_ (.cons rfl ?_ (.cons rfl ?_ (.nil _)))))))
   all_goals intro L v W2 hd hn ⟨hB, hz, s0, s1, s2, h0, h1, h2, h3, h4, h5⟩ K hK
   · refine zlc s0 Try.underlying28 Try.size28 ?_
     exact hK _ _ _ rfl ⟨hB, hz, s0, s1, s2, (fun _ => rfl), h1, h2, h3, h4, h5⟩
   · have e0 := h0 (zdq hd 0 rfl)
     go_wp2_with (go_at_call 77; refine (degree_any f _).mono ?_; rintro e wy ⟨rfl, hy⟩)
     exact hK _ (.int .i64 (deg f)) _ (by simp only [Act.put, pA, pB, pC, e0]) ⟨hB.trans (hy.mono hB.size), (Nat.le_trans hz hy.size), s0.zw hy, s1.zw hy, s2.zw hy, h0, (fun _ => rfl), h2, h3, h4, h5⟩
   · refine zlc s1 Try.underlying28 Try.size28 ?_
     exact hK _ _ _ rfl ⟨hB, hz, s0, s1, s2, h0, h1, (fun _ => rfl), h3, h4, h5⟩
   · have e2 := h2 (zdq hd 2 rfl)
     go_wp2_with (go_at_call 77; refine (degree_any g _).mono ?_; rintro e wy ⟨rfl, hy⟩)
     exact hK _ (.int .i64 (deg g)) _ (by simp only [Act.put, pA, pB, pC, e2]) ⟨hB.trans (hy.mono hB.size), (Nat.le_trans hz hy.size), s0.zw hy, s1.zw hy, s2.zw hy, h0, h1, h2, (fun _ => rfl), h4, h5⟩
   · have e1 := h1 (zdq hd 1 rfl)
     have e3 := h3 (zdq hd 3 rfl)
     go_wp2_with fail
     exact hK _ (.int .i64 (deg f + deg g)) _ (by simp only [Act.put, pA, pB, pC, e1, e3]) ⟨hB, hz, s0, s1, s2, h0, h1, h2, h3, (fun _ => rfl), h5⟩
   · have e4 := h4 (zdq hd 4 rfl)
     go_wp2_with (go_at_call 215; refine (refuse_noB _ hds _).mono ?_; rintro e wy ⟨rfl, hy⟩)
     first | exact ⟨rfl, rfl, hB.trans (hy.mono hB.size)⟩ | (go_wp2_with fail; exact ⟨rfl, rfl, hB.trans (hy.mono hB.size)⟩)
 · intro L v W2 hL ⟨hB, hz, s0, s1, s2, h0, h1, h2, h3, h4, h5⟩
   exact (h5 (hL 5 (by decide))).elim
end Go.Proofs.Ytelgefgphhebnaa
end
section
namespace Go.Proofs.Ytelgefgphhebnaa
open Go Go.RowKit
set_option linter.unusedVariables false
set_option linter.unusedSimpArgs false
/-- a product that is not refused -/
def gdP (p : Nat) (f g : Nat → Nat) (i : Nat) : Prop := deg g * ((p ^ i : Nat) : Int) ≤ 63 ∧ deg f + deg (strP (p ^ i) g) ≤ 63
def coX (p : Nat) (f g : Nat → Nat) (i : Nat) : Nat → Nat := prd p f (strP (p ^ i) g)
/-- the rows of a product, row i of the one as far as j -/
def coJ (p : Nat) (F G : Nat → Nat → Nat) (i : Nat) (O : Nat → Nat → Nat) : Nat → (Nat → Nat → Nat)
 | 0 => O
 | j + 1 => if eqN 64 (F i) (fun _ => 0) = true ∨ eqN 64 (G j) (fun _ => 0) = true then coJ p F G i O j
  else updR (coJ p F G i O j) (i + j) (addK p (coJ p F G i O j (i + j)) (coX p (F i) (G j) i) 1)
def coR (p : Nat) (F G : Nat → Nat → Nat) (n : Nat) : Nat → (Nat → Nat → Nat)
 | 0 => fun _ _ => 0
 | i + 1 => coJ p F G i (coR p F G n i) n
section
variable {p : Nat} {F G : Nat → Nat → Nat}
theorem coJ_z (i : Nat) (O : Nat → Nat → Nat) : coJ p F G i O 0 = O := rfl
theorem coJ_skip {i j : Nat} {O : Nat → Nat → Nat} (h : eqN 64 (F i) (fun _ => 0) = true ∨ eqN 64 (G j) (fun _ => 0) = true) : coJ p F G i O (j + 1) = coJ p F G i O j := by
 rw [coJ, if_pos h]
theorem coJ_s {i j : Nat} {O : Nat → Nat → Nat} (h : eqN 64 (F i) (fun _ => 0) = false) (h2 : eqN 64 (G j) (fun _ => 0) = false) : coJ p F G i O (j + 1) = updR (coJ p F G i O j) (i + j) (addK p (coJ p F G i O j (i + j)) (coX p (F i) (G j) i) 1) := by
 rw [coJ, if_neg (by rw [h, h2]; simp)]
theorem coR_z (n : Nat) : coR p F G n 0 = fun _ _ => 0 := rfl
theorem coR_s (n i : Nat) : coR p F G n (i + 1) = coJ p F G i (coR p F G n i) n := rfl
theorem coJ_lt {i : Nat} {O : Nat → Nat → Nat} (hp : 0 < p) (hO : ∀ r k, O r k < p) : ∀ j r k, coJ p F G i O j r k < p
 | 0, r, k => hO r k
 | j + 1, r, k => by
  by_cases h : eqN 64 (F i) (fun _ => 0) = true ∨ eqN 64 (G j) (fun _ => 0) = true
  · rw [coJ_skip h]; exact coJ_lt hp hO j r k
  · rw [coJ, if_neg h]
    by_cases e : r = i + j
    · subst e; rw [updR_same]; exact addK_lt hp k
    · rw [updR_other e]; exact coJ_lt hp hO j r k
theorem coR_lt (hp : 0 < p) (n : Nat) : ∀ i r k, coR p F G n i r k < p
 | 0, r, k => hp
 | i + 1, r, k => by rw [coR_s]; exact coJ_lt hp (coR_lt hp n i) n r k
end
attribute [local irreducible] deg addK okA strP prd
set_option maxRecDepth 100000 in
set_option maxHeartbeats 1600000 in
theorem bacross_ok (p i : Nat) (x y : Nat → Nat) (w : World) (hpr : p = 2 ∨ p = 3 ∨ p = 5 ∨ p = 7) (hi : i ≤ 6) (lx : ∀ k, k < 64 → x k < p) (ly : ∀ k, k < 64 → y k < p) (h : gdP p x y i) :
 Calls Try.prog 211 #[.agg (bdC (p : Int)).toArray, .agg (zb 64 x), .int .i64 (i : Int), .agg (zb 64 y)] w fun e w' => e = .returned (.agg (zb 64 (coX p x y i))) ∧ Below w.heap.size w w' := by
 obtain ⟨h1, h2⟩ := h
 unfold coX
 have hsm : smI p i := smI_6 (by omega) (by omega) hi
 have q1 : 1 ≤ p ^ i := Nat.pow_pos (by omega)
 have HRA := Lib.hid (fun W => raised_ok p i y W (by omega) (by omega) hsm ly h1)
 have HBP := Lib.hid (fun W => bounded_ok p x (strP (p ^ i) y) W (by omega) (by omega) lx (fun k hk => (strP_lt (by omega) q1 ly) k hk) h2)
 clear h1 h2 ly lx
 go_enter Try.func211, Try.ntmps211
 go_upto_region 1 with (fail)
 rw [← z64]
 obtain ⟨W1, hwo⟩ : ∃ v : World, v = ((((w.alloc (.cells (bdC (p : Int)).toArray 98)).alloc (.cells (zb 64 (x)) 28)).alloc (.cells (zb 64 (y)) 28)).alloc (.cells (zb 64 (fun _ => 0)) 28)) := ⟨_, rfl⟩
 have B0 : Row W1 (w.heap.size) 98 (bdC (p : Int)).toArray := by subst hwo; have := ((((Row.new w 98 (bdC (p : Int)).toArray).alloc (.cells (zb 64 (x)) 28)).alloc (.cells (zb 64 (y)) 28)).alloc (.cells (zb 64 (fun _ => 0)) 28)); simpa using this
 have B1 : Blk W1 (w.heap.size + 1) 64 28 (x) := by subst hwo; have := (((Blk.new (w.alloc (.cells (bdC (p : Int)).toArray 98)) 64 28 (x)).alloc (.cells (zb 64 (y)) 28)).alloc (.cells (zb 64 (fun _ => 0)) 28)); simpa using this
 have B2 : Blk W1 (w.heap.size + 1 + 1) 64 28 (y) := by subst hwo; have := ((Blk.new ((w.alloc (.cells (bdC (p : Int)).toArray 98)).alloc (.cells (zb 64 (x)) 28)) 64 28 (y)).alloc (.cells (zb 64 (fun _ => 0)) 28)); simpa using this
 have B3 : Blk W1 (w.heap.size + 1 + 1 + 1) 64 28 (fun _ => 0) := by subst hwo; have := (Blk.new (((w.alloc (.cells (bdC (p : Int)).toArray 98)).alloc (.cells (zb 64 (x)) 28)).alloc (.cells (zb 64 (y)) 28)) 64 28 (fun _ => 0)); simpa using this
 have hb : Below w.heap.size w W1 := by subst hwo; exact (((((Below.refl _ _).alloc (Nat.le_refl _) _).alloc (by simp) _).alloc (by simp; omega) _).alloc (by simp; omega) _)
 rw [← hwo]
 clear hwo
 have lt_B0 : (w.heap.size) < W1.heap.size := B0.lt
 have lt_B1 : (w.heap.size + 1) < W1.heap.size := B1.lt
 have lt_B2 : (w.heap.size + 1 + 1) < W1.heap.size := B2.lt
 have lt_B3 : (w.heap.size + 1 + 1 + 1) < W1.heap.size := B3.lt
 have hbase : w.heap.size ≤ W1.heap.size := hb.size
 refine zq Try.mixed (by kernel_rfl) (by kernel_rfl) (fun v => by (simp only [frL, Act.put, pA, pB, pC, Nat.reduceAdd, Nat.zero_add]; exact rfl))
  (fun L v W2 => Below w.heap.size w W2 ∧ Kx [w.heap.size + 1 + 1 + 1] W1 W2 ∧ (∃ g, Blk W2 (w.heap.size + 1 + 1 + 1) 64 28 (g)) ∧ (L 9 = false → Blk W2 (w.heap.size + 1 + 1 + 1) 64 28 (fun _ => 0)) ∧ (L 9 = true → Blk W2 (w.heap.size + 1 + 1 + 1) 64 28 (prd p x (strP (p ^ i) y))) ∧ VF L v [some (.pointer (some ⟨w.heap.size, 0, none⟩)), some (.int .i64 (p : Int)), some (.agg (zb 64 (x))), some (.pointer (some ⟨w.heap.size, 0, none⟩)), some (.int .i64 (p : Int)), some (.agg (zb 64 (y))), some (.int .i64 (i : Int)), some (.agg (zb 64 (strP (p ^ i) y))), some (.agg (zb 64 (prd p x (strP (p ^ i) y)))), none]) ?_ ?_ ?_
 · intro v hv0
   exact ⟨hb.drew, Kx.start _ _, ⟨_, B3.drew⟩, (fun _ => B3.drew), (fun h => by cases h), VF.start⟩
 · refine (.cons rfl ?_ (.cons rfl ?_ (.cons rfl ?_ (.cons rfl ?_ (.cons rfl ?_ (.cons rfl ?_ (.cons rfl ?_ (.cons rfl ?_ (.cons rfl ?_ (.cons rfl ?_ (.nil _)))))))))))
   all_goals intro L v W2 hd hn ⟨hB, hX, x3, q3, n3, V⟩ K hK
   · go_wp2_with fail
     exact hK _ (.pointer (some ⟨w.heap.size, 0, none⟩)) _ (by simp only [Act.put, pA, pB, pC ]) ⟨hB, hX, x3, q3, n3, V.step 0 rfl⟩
   · have e0 := V.at (zdq hd 0 rfl) rfl
     have cc := (B0.kx hX (by simp <;> omega)).cell (i := 0) (v := .int .i64 (p : Int)) (bdC_at (p : Int))
     go_wp2_with fail
     exact hK _ (.int .i64 (p : Int)) _ (by simp only [Act.put, pA, pB, pC, e0]) ⟨hB, hX, x3, q3, n3, V.step 1 rfl⟩
   · refine wp_load_any 28 _ rfl _ rfl 64 28 _ (B1.kx hX (by simp <;> omega)) _ Try.underlying28 rfl Try.size28 ?_
     exact hK _ _ _ rfl ⟨hB, hX, x3, q3, n3, V.step 2 rfl⟩
   · go_wp2_with fail
     exact hK _ (.pointer (some ⟨w.heap.size, 0, none⟩)) _ (by simp only [Act.put, pA, pB, pC ]) ⟨hB, hX, x3, q3, n3, V.step 3 rfl⟩
   · have e3 := V.at (zdq hd 3 rfl) rfl
     have cc := (B0.kx hX (by simp <;> omega)).cell (i := 0) (v := .int .i64 (p : Int)) (bdC_at (p : Int))
     go_wp2_with fail
     exact hK _ (.int .i64 (p : Int)) _ (by simp only [Act.put, pA, pB, pC, e3]) ⟨hB, hX, x3, q3, n3, V.step 4 rfl⟩
   · refine wp_load_any 28 _ rfl _ rfl 64 28 _ (B2.kx hX (by simp <;> omega)) _ Try.underlying28 rfl Try.size28 ?_
     exact hK _ _ _ rfl ⟨hB, hX, x3, q3, n3, V.step 5 rfl⟩
   · go_wp2_with fail
     exact hK _ (.int .i64 (i : Int)) _ (by simp only [Act.put, pA, pB, pC ]) ⟨hB, hX, x3, q3, n3, V.step 6 rfl⟩
   · have e4 := V.at (zdq hd 4 rfl) rfl
     have e5 := V.at (zdq hd 5 rfl) rfl
     have e6 := V.at (zdq hd 6 rfl) rfl
     go_wp2_with (go_at_call 214; refine (HRA.out _).mono ?_; rintro e wy ⟨rfl, hy⟩)
     exact hK _ (.agg (zb 64 (strP (p ^ i) y))) _ (by simp only [Act.put, pA, pB, pC, e4, e5, e6]) ⟨hB.trans (hy.mono hB.size), hX.below hy, (let ⟨g, h⟩ := x3; ⟨g, h.zw hy⟩), (fun h => (q3 h).below hy (q3 h).lt), (fun h => (n3 h).below hy (n3 h).lt), V.step 7 rfl⟩
   · have e1 := V.at (zdq hd 1 rfl) rfl
     have e2 := V.at (zdq hd 2 rfl) rfl
     have e7 := V.at (zdq hd 7 rfl) rfl
     go_wp2_with (go_at_call 213; refine (HBP.out _).mono ?_; rintro e wy ⟨rfl, hy⟩)
     exact hK _ (.agg (zb 64 (prd p x (strP (p ^ i) y)))) _ (by simp only [Act.put, pA, pB, pC, e1, e2, e7]) ⟨hB.trans (hy.mono hB.size), hX.below hy, (let ⟨g, h⟩ := x3; ⟨g, h.zw hy⟩), (fun h => (q3 h).below hy (q3 h).lt), (fun h => (n3 h).below hy (n3 h).lt), V.step 8 rfl⟩
   · have e8 := V.at (zdq hd 8 rfl) rfl
     obtain ⟨gz, hk⟩ := x3
     refine zsb 28 _ _ rfl _ 64 (prd p x (strP (p ^ i) y)) rfl e8 28 gz hk Try.size28 ?_
     exact hK _ undef _ rfl ⟨zr hB (by omega) _, hX.row (by simp) _, ⟨_, hk.row _⟩, (fun h => absurd h (by simp [setL])), (fun _ => hk.row _), V.skip 9 rfl⟩
 · intro L v W2 hL ⟨hB, hX, x3, q3, n3, V⟩
   have r3 := n3 (hL 9 (by decide))
   have e0 := V.at (hL 0 (by decide)) rfl
   have e1 := V.at (hL 1 (by decide)) rfl
   have e2 := V.at (hL 2 (by decide)) rfl
   have e3 := V.at (hL 3 (by decide)) rfl
   have e4 := V.at (hL 4 (by decide)) rfl
   have e5 := V.at (hL 5 (by decide)) rfl
   have e6 := V.at (hL 6 (by decide)) rfl
   have e7 := V.at (hL 7 (by decide)) rfl
   have e8 := V.at (hL 8 (by decide)) rfl
   clear hL x3 q3 n3 V
   replace B0 := B0.kx hX (by simp <;> omega)
   replace B1 := B1.kx hX (by simp <;> omega)
   replace B2 := B2.kx hX (by simp <;> omega)
   clear hX
   simp only [Exit.then, e0, e1, e2, e3, e4, e5, e6, e7, e8]
   clear e0 e1 e2 e3 e4 e5 e6 e7 e8
   replace B3 := r3
   clear r3
   replace hb := hB
   clear hB
   clear hbase lt_B0 lt_B1 lt_B2 lt_B3
   go_wp2_with fail
   refine bodyPost_ret (zrb rfl _ _ _ 64 28 5 _ rfl B3 Try.underlying28 Try.size28) rfl ⟨rfl, hb⟩
set_option maxRecDepth 100000 in
set_option maxHeartbeats 1600000 in
theorem bacross_no1 (p i : Nat) (x y : Nat → Nat) (w : World) (hpr : p = 2 ∨ p = 3 ∨ p = 5 ∨ p = 7) (hi : i ≤ 6) (lx : ∀ k, k < 64 → x k < p) (ly : ∀ k, k < 64 → y k < p) (h1 : 63 < deg y * ((p ^ i : Nat) : Int)) :
 Calls Try.prog 211 #[.agg (bdC (p : Int)).toArray, .agg (zb 64 x), .int .i64 (i : Int), .agg (zb 64 y)] w fun e w' => e = .panicked [{ v := .iface 130 (.int .i64 3), recovered := false }] ∧ Below w.heap.size w w' := by
 have hsm : smI p i := smI_6 (by omega) (by omega) hi
 have q1 : 1 ≤ p ^ i := Nat.pow_pos (by omega)
 have HRA := Lib.hid (fun W => raised_no p i y W (by omega) (by omega) hsm ly h1)
 clear h1 ly lx
 go_enter Try.func211, Try.ntmps211
 go_upto_region 1 with (fail)
 rw [← z64]
 obtain ⟨W1, hwo⟩ : ∃ v : World, v = ((((w.alloc (.cells (bdC (p : Int)).toArray 98)).alloc (.cells (zb 64 (x)) 28)).alloc (.cells (zb 64 (y)) 28)).alloc (.cells (zb 64 (fun _ => 0)) 28)) := ⟨_, rfl⟩
 have B0 : Row W1 (w.heap.size) 98 (bdC (p : Int)).toArray := by subst hwo; have := ((((Row.new w 98 (bdC (p : Int)).toArray).alloc (.cells (zb 64 (x)) 28)).alloc (.cells (zb 64 (y)) 28)).alloc (.cells (zb 64 (fun _ => 0)) 28)); simpa using this
 have B1 : Blk W1 (w.heap.size + 1) 64 28 (x) := by subst hwo; have := (((Blk.new (w.alloc (.cells (bdC (p : Int)).toArray 98)) 64 28 (x)).alloc (.cells (zb 64 (y)) 28)).alloc (.cells (zb 64 (fun _ => 0)) 28)); simpa using this
 have B2 : Blk W1 (w.heap.size + 1 + 1) 64 28 (y) := by subst hwo; have := ((Blk.new ((w.alloc (.cells (bdC (p : Int)).toArray 98)).alloc (.cells (zb 64 (x)) 28)) 64 28 (y)).alloc (.cells (zb 64 (fun _ => 0)) 28)); simpa using this
 have B3 : Blk W1 (w.heap.size + 1 + 1 + 1) 64 28 (fun _ => 0) := by subst hwo; have := (Blk.new (((w.alloc (.cells (bdC (p : Int)).toArray 98)).alloc (.cells (zb 64 (x)) 28)).alloc (.cells (zb 64 (y)) 28)) 64 28 (fun _ => 0)); simpa using this
 have hb : Below w.heap.size w W1 := by subst hwo; exact (((((Below.refl _ _).alloc (Nat.le_refl _) _).alloc (by simp) _).alloc (by simp; omega) _).alloc (by simp; omega) _)
 rw [← hwo]
 clear hwo
 have lt_B0 : (w.heap.size) < W1.heap.size := B0.lt
 have lt_B1 : (w.heap.size + 1) < W1.heap.size := B1.lt
 have lt_B2 : (w.heap.size + 1 + 1) < W1.heap.size := B2.lt
 have lt_B3 : (w.heap.size + 1 + 1 + 1) < W1.heap.size := B3.lt
 have hbase : w.heap.size ≤ W1.heap.size := hb.size
 refine zq Try.mixed (by kernel_rfl) (by kernel_rfl) (fun v => by (simp only [frL, Act.put, pA, pB, pC, Nat.reduceAdd, Nat.zero_add]; exact rfl))
  (fun L v W2 => Below w.heap.size w W2 ∧ W1.heap.size ≤ W2.heap.size ∧ Row W2 (w.heap.size) 98 (bdC (p : Int)).toArray ∧ Blk W2 (w.heap.size + 1) 64 28 (x) ∧ Blk W2 (w.heap.size + 1 + 1) 64 28 (y) ∧ (∃ g, Blk W2 (w.heap.size + 1 + 1 + 1) 64 28 (g)) ∧ (L 9 = false → Blk W2 (w.heap.size + 1 + 1 + 1) 64 28 (fun _ => 0)) ∧ (L 9 = true → Blk W2 (w.heap.size + 1 + 1 + 1) 64 28 (x)) ∧ (L 7 = true → False) ∧ VF L v [some (.pointer (some ⟨w.heap.size, 0, none⟩)), some (.int .i64 (p : Int)), some (.agg (zb 64 (x))), some (.pointer (some ⟨w.heap.size, 0, none⟩)), some (.int .i64 (p : Int)), some (.agg (zb 64 (y))), some (.int .i64 (i : Int)), none, some (.agg (zb 64 (x))), none]) ?_ ?_ ?_
 · intro v hv0
   exact ⟨hb.drew, Nat.le_refl _, B0.drew, B1.drew, B2.drew, ⟨_, B3.drew⟩, (fun _ => B3.drew), (fun h => by cases h), (fun h => by cases h), VF.start⟩
 · refine (.cons rfl ?_ (.cons rfl ?_ (.cons rfl ?_ (.cons rfl ?_ (.cons rfl ?_ (.cons rfl ?_ (.cons rfl ?_ (.cons rfl ?_ (.cons rfl ?_ (.cons rfl ?_ (.nil _)))))))))))
   all_goals intro L v W2 hd hn ⟨hB, hz, s0, s1, s2, x3, q3, n3, h7, V⟩ K hK
   · go_wp2_with fail
     exact hK _ (.pointer (some ⟨w.heap.size, 0, none⟩)) _ (by simp only [Act.put, pA, pB, pC ]) ⟨hB, hz, s0, s1, s2, x3, q3, n3, h7, V.step 0 rfl⟩
   · have e0 := V.at (zdq hd 0 rfl) rfl
     have cc := s0.cell (i := 0) (v := .int .i64 (p : Int)) (bdC_at (p : Int))
     go_wp2_with fail
     exact hK _ (.int .i64 (p : Int)) _ (by simp only [Act.put, pA, pB, pC, e0]) ⟨hB, hz, s0, s1, s2, x3, q3, n3, h7, V.step 1 rfl⟩
   · refine zlc s1 Try.underlying28 Try.size28 ?_
     exact hK _ _ _ rfl ⟨hB, hz, s0, s1, s2, x3, q3, n3, h7, V.step 2 rfl⟩
   · go_wp2_with fail
     exact hK _ (.pointer (some ⟨w.heap.size, 0, none⟩)) _ (by simp only [Act.put, pA, pB, pC ]) ⟨hB, hz, s0, s1, s2, x3, q3, n3, h7, V.step 3 rfl⟩
   · have e3 := V.at (zdq hd 3 rfl) rfl
     have cc := s0.cell (i := 0) (v := .int .i64 (p : Int)) (bdC_at (p : Int))
     go_wp2_with fail
     exact hK _ (.int .i64 (p : Int)) _ (by simp only [Act.put, pA, pB, pC, e3]) ⟨hB, hz, s0, s1, s2, x3, q3, n3, h7, V.step 4 rfl⟩
   · refine zlc s2 Try.underlying28 Try.size28 ?_
     exact hK _ _ _ rfl ⟨hB, hz, s0, s1, s2, x3, q3, n3, h7, V.step 5 rfl⟩
   · go_wp2_with fail
     exact hK _ (.int .i64 (i : Int)) _ (by simp only [Act.put, pA, pB, pC ]) ⟨hB, hz, s0, s1, s2, x3, q3, n3, h7, V.step 6 rfl⟩
   · have e4 := V.at (zdq hd 4 rfl) rfl
     have e5 := V.at (zdq hd 5 rfl) rfl
     have e6 := V.at (zdq hd 6 rfl) rfl
     go_wp2_with (go_at_call 214; refine (HRA.out _).mono ?_; rintro e wy ⟨rfl, hy⟩)
     first | exact ⟨rfl, rfl, hB.trans (hy.mono hB.size)⟩ | (go_wp2_with fail; exact ⟨rfl, rfl, hB.trans (hy.mono hB.size)⟩)
   · exact (h7 (zdq hd 7 rfl)).elim
   · exact (h7 (zdq hd 7 rfl)).elim
 · intro L v W2 hL ⟨hB, hz, s0, s1, s2, x3, q3, n3, h7, V⟩
   exact (h7 (hL 7 (by decide))).elim
set_option maxRecDepth 100000 in
set_option maxHeartbeats 1600000 in
theorem bacross_no2 (p i : Nat) (x y : Nat → Nat) (w : World) (hpr : p = 2 ∨ p = 3 ∨ p = 5 ∨ p = 7) (hi : i ≤ 6) (lx : ∀ k, k < 64 → x k < p) (ly : ∀ k, k < 64 → y k < p) (h1 : deg y * ((p ^ i : Nat) : Int) ≤ 63) (h2 : 63 < deg x + deg (strP (p ^ i) y)) :
 Calls Try.prog 211 #[.agg (bdC (p : Int)).toArray, .agg (zb 64 x), .int .i64 (i : Int), .agg (zb 64 y)] w fun e w' => e = .panicked [{ v := .iface 130 (.int .i64 3), recovered := false }] ∧ Below w.heap.size w w' := by
 have hsm : smI p i := smI_6 (by omega) (by omega) hi
 have q1 : 1 ≤ p ^ i := Nat.pow_pos (by omega)
 have HRA := Lib.hid (fun W => raised_ok p i y W (by omega) (by omega) hsm ly h1)
 have HBP := Lib.hid (fun W => bounded_no p x (strP (p ^ i) y) W (by omega) (by omega) lx (fun k hk => (strP_lt (by omega) q1 ly) k hk) h2)
 clear h1 h2 ly lx
 go_enter Try.func211, Try.ntmps211
 go_upto_region 1 with (fail)
 rw [← z64]
 obtain ⟨W1, hwo⟩ : ∃ v : World, v = ((((w.alloc (.cells (bdC (p : Int)).toArray 98)).alloc (.cells (zb 64 (x)) 28)).alloc (.cells (zb 64 (y)) 28)).alloc (.cells (zb 64 (fun _ => 0)) 28)) := ⟨_, rfl⟩
 have B0 : Row W1 (w.heap.size) 98 (bdC (p : Int)).toArray := by subst hwo; have := ((((Row.new w 98 (bdC (p : Int)).toArray).alloc (.cells (zb 64 (x)) 28)).alloc (.cells (zb 64 (y)) 28)).alloc (.cells (zb 64 (fun _ => 0)) 28)); simpa using this
 have B1 : Blk W1 (w.heap.size + 1) 64 28 (x) := by subst hwo; have := (((Blk.new (w.alloc (.cells (bdC (p : Int)).toArray 98)) 64 28 (x)).alloc (.cells (zb 64 (y)) 28)).alloc (.cells (zb 64 (fun _ => 0)) 28)); simpa using this
 have B2 : Blk W1 (w.heap.size + 1 + 1) 64 28 (y) := by subst hwo; have := ((Blk.new ((w.alloc (.cells (bdC (p : Int)).toArray 98)).alloc (.cells (zb 64 (x)) 28)) 64 28 (y)).alloc (.cells (zb 64 (fun _ => 0)) 28)); simpa using this
 have B3 : Blk W1 (w.heap.size + 1 + 1 + 1) 64 28 (fun _ => 0) := by subst hwo; have := (Blk.new (((w.alloc (.cells (bdC (p : Int)).toArray 98)).alloc (.cells (zb 64 (x)) 28)).alloc (.cells (zb 64 (y)) 28)) 64 28 (fun _ => 0)); simpa using this
 have hb : Below w.heap.size w W1 := by subst hwo; exact (((((Below.refl _ _).alloc (Nat.le_refl _) _).alloc (by simp) _).alloc (by simp; omega) _).alloc (by simp; omega) _)
 rw [← hwo]
 clear hwo
 have lt_B0 : (w.heap.size) < W1.heap.size := B0.lt
 have lt_B1 : (w.heap.size + 1) < W1.heap.size := B1.lt
 have lt_B2 : (w.heap.size + 1 + 1) < W1.heap.size := B2.lt
 have lt_B3 : (w.heap.size + 1 + 1 + 1) < W1.heap.size := B3.lt
 have hbase : w.heap.size ≤ W1.heap.size := hb.size
 refine zq Try.mixed (by kernel_rfl) (by kernel_rfl) (fun v => by (simp only [frL, Act.put, pA, pB, pC, Nat.reduceAdd, Nat.zero_add]; exact rfl))
  (fun L v W2 => Below w.heap.size w W2 ∧ W1.heap.size ≤ W2.heap.size ∧ Row W2 (w.heap.size) 98 (bdC (p : Int)).toArray ∧ Blk W2 (w.heap.size + 1) 64 28 (x) ∧ Blk W2 (w.heap.size + 1 + 1) 64 28 (y) ∧ (∃ g, Blk W2 (w.heap.size + 1 + 1 + 1) 64 28 (g)) ∧ (L 9 = false → Blk W2 (w.heap.size + 1 + 1 + 1) 64 28 (fun _ => 0)) ∧ (L 9 = true → Blk W2 (w.heap.size + 1 + 1 + 1) 64 28 (fun _ => 0)) ∧ (L 8 = true → False) ∧ VF L v [some (.pointer (some ⟨w.heap.size, 0, none⟩)), some (.int .i64 (p : Int)), some (.agg (zb 64 (x))), some (.pointer (some ⟨w.heap.size, 0, none⟩)), some (.int .i64 (p : Int)), some (.agg (zb 64 (y))), some (.int .i64 (i : Int)), some (.agg (zb 64 (strP (p ^ i) y))), none, none]) ?_ ?_ ?_
 · intro v hv0
   exact ⟨hb.drew, Nat.le_refl _, B0.drew, B1.drew, B2.drew, ⟨_, B3.drew⟩, (fun _ => B3.drew), (fun h => by cases h), (fun h => by cases h), VF.start⟩
 · refine (.cons rfl ?_ (.cons rfl ?_ (.cons rfl ?_ (.cons rfl ?_ (.cons rfl ?_ (.cons rfl ?_ (.cons rfl ?_ (.cons rfl ?_ (.cons rfl ?_ (.cons rfl ?_ (.nil _)))))))))))
   all_goals intro L v W2 hd hn ⟨hB, hz, s0, s1, s2, x3, q3, n3, h8, V⟩ K hK
   · go_wp2_with fail
     exact hK _ (.pointer (some ⟨w.heap.size, 0, none⟩)) _ (by simp only [Act.put, pA, pB, pC ]) ⟨hB, hz, s0, s1, s2, x3, q3, n3, h8, V.step 0 rfl⟩
   · have e0 := V.at (zdq hd 0 rfl) rfl
     have cc := s0.cell (i := 0) (v := .int .i64 (p : Int)) (bdC_at (p : Int))
     go_wp2_with fail
     exact hK _ (.int .i64 (p : Int)) _ (by simp only [Act.put, pA, pB, pC, e0]) ⟨hB, hz, s0, s1, s2, x3, q3, n3, h8, V.step 1 rfl⟩
   · refine zlc s1 Try.underlying28 Try.size28 ?_
     exact hK _ _ _ rfl ⟨hB, hz, s0, s1, s2, x3, q3, n3, h8, V.step 2 rfl⟩
   · go_wp2_with fail
     exact hK _ (.pointer (some ⟨w.heap.size, 0, none⟩)) _ (by simp only [Act.put, pA, pB, pC ]) ⟨hB, hz, s0, s1, s2, x3, q3, n3, h8, V.step 3 rfl⟩
   · have e3 := V.at (zdq hd 3 rfl) rfl
     have cc := s0.cell (i := 0) (v := .int .i64 (p : Int)) (bdC_at (p : Int))
     go_wp2_with fail
     exact hK _ (.int .i64 (p : Int)) _ (by simp only [Act.put, pA, pB, pC, e3]) ⟨hB, hz, s0, s1, s2, x3, q3, n3, h8, V.step 4 rfl⟩
   · refine zlc s2 Try.underlying28 Try.size28 ?_
     exact hK _ _ _ rfl ⟨hB, hz, s0, s1, s2, x3, q3, n3, h8, V.step 5 rfl⟩
   · go_wp2_with fail
     exact hK _ (.int .i64 (i : Int)) _ (by simp only [Act.put, pA, pB, pC ]) ⟨hB, hz, s0, s1, s2, x3, q3, n3, h8, V.step 6 rfl⟩
   · have e4 := V.at (zdq hd 4 rfl) rfl
     have e5 := V.at (zdq hd 5 rfl) rfl
     have e6 := V.at (zdq hd 6 rfl) rfl
     go_wp2_with (go_at_call 214; refine (HRA.out _).mono ?_; rintro e wy ⟨rfl, hy⟩)
     exact hK _ (.agg (zb 64 (strP (p ^ i) y))) _ (by simp only [Act.put, pA, pB, pC, e4, e5, e6]) ⟨hB.trans (hy.mono hB.size), (Nat.le_trans hz hy.size), s0.zw hy, s1.zw hy, s2.zw hy, (let ⟨g, h⟩ := x3; ⟨g, h.zw hy⟩), (fun h => (q3 h).below hy (q3 h).lt), (fun h => (n3 h).below hy (n3 h).lt), h8, V.step 7 rfl⟩
   · have e1 := V.at (zdq hd 1 rfl) rfl
     have e2 := V.at (zdq hd 2 rfl) rfl
     have e7 := V.at (zdq hd 7 rfl) rfl
     go_wp2_with (go_at_call 213; refine (HBP.out _).mono ?_; rintro e wy ⟨rfl, hy⟩)
     first | exact ⟨rfl, rfl, hB.trans (hy.mono hB.size)⟩ | (go_wp2_with fail; exact ⟨rfl, rfl, hB.trans (hy.mono hB.size)⟩)
   · exact (h8 (zdq hd 8 rfl)).elim
 · intro L v W2 hL ⟨hB, hz, s0, s1, s2, x3, q3, n3, h8, V⟩
   exact (h8 (hL 8 (by decide))).elim
theorem bacross_no (p i : Nat) (x y : Nat → Nat) (w : World) (hpr : p = 2 ∨ p = 3 ∨ p = 5 ∨ p = 7) (hi : i ≤ 6) (lx : ∀ k, k < 64 → x k < p) (ly : ∀ k, k < 64 → y k < p) (h : ¬ gdP p x y i) :
 Calls Try.prog 211 #[.agg (bdC (p : Int)).toArray, .agg (zb 64 x), .int .i64 (i : Int), .agg (zb 64 y)] w fun e w' => e = .panicked [{ v := .iface 130 (.int .i64 3), recovered := false }] ∧ Below w.heap.size w w' := by
 by_cases h1 : deg y * ((p ^ i : Nat) : Int) ≤ 63
 · by_cases h2 : deg x + deg (strP (p ^ i) y) ≤ 63
   · exact absurd ⟨h1, h2⟩ h
   · exact bacross_no2 p i x y w hpr hi lx ly h1 (by omega)
 · exact bacross_no1 p i x y w hpr hi lx ly (by omega)
theorem coX_lt {p i : Nat} {f g : Nat → Nat} (hp : 0 < p) (k : Nat) : coX p f g i k < p := by unfold coX; exact prd_lt hp k
attribute [irreducible] coX
end Go.Proofs.Ytelgefgphhebnaa
end
section
namespace Go.Proofs.Ytelgefgphhebnaa
open Go Go.RowKit
set_option linter.unusedVariables false
set_option linter.unusedSimpArgs false
/-- none of the first products is refused -/
def okP2 (p : Nat) (F G : Nat → Nat → Nat) (i j : Nat) : Prop := eqN 64 (F i) (fun _ => 0) = false → eqN 64 (G j) (fun _ => 0) = false → gdP p (F i) (G j) i
attribute [local irreducible] deg addK okA strP prd gdP
set_option maxRecDepth 100000 in
set_option maxHeartbeats 1600000 in
theorem skewProductB_ok (p : Nat) (F G : Nat → Nat → Nat) (A B bA bB : Nat) (w : World) (hpr : p = 2 ∨ p = 3 ∨ p = 5 ∨ p = 7) (hA : A ≤ 7) (hB : B ≤ 7)
 (lF : ∀ r k, k < 64 → F r k < p) (lG : ∀ r k, k < 64 → G r k < p) (hgd : (∀ i, i < A → ∀ j, j < B → okP2 p F G i j)) (hf : Blk w bA (A * 64) 28 (fl 64 F)) (hg : Blk w bB (B * 64) 28 (fl 64 G)) :
 Calls Try.prog 88 #[.agg (bdC (p : Int)).toArray, .slice (some ⟨bA, 0, none⟩) A A, .slice (some ⟨bB, 0, none⟩) B B] w fun e w' => ∃ c, e = .returned (.slice (some ⟨c, 0, none⟩) (skN (coR p F G B A) (A + B) + 1).toNat (A + B)) ∧ w.heap.size ≤ c ∧ Blk w' c ((A + B) * 64) 28 (fl 64 (coR p F G B A)) ∧ Below w.heap.size w w' := by
 have p0 : 0 < p := by omega
 obtain ⟨M, hM⟩ : ∃ M : Nat, M = A + B := ⟨_, rfl⟩
 have hMI : (A : Int) + (B : Int) = (M : Int) := by omega
 have hM9 : M ≤ 100000 := by omega
 rw [← hM]
 have HM := Lib.hid hM
 clear hM
 have HGD := Lib.hid hgd
 have HAC := Lib.hid (fun i (hi : i < A) j (hg : gdP p (F i) (G j) i) W => bacross_ok p i (F i) (G j) W hpr (by omega) (lF i) (lG j) hg)
 have HPL := Lib.hid (fun (f g : Nat → Nat) (hf : ∀ k, f k < p) (hg : ∀ k, k < 64 → g k < p) W => bplus_any p f g W hpr (fun k _ => hf k) hg)
 have HJL := Lib.hid (fun i j r k => coJ_lt (p := p) (F := F) (G := G) (i := i) p0 (coR_lt (F := F) (G := G) p0 B i) j r k)
 have HML := Lib.hid (fun i j k (hk : k < 64) => coX_lt (p := p) (f := F i) (g := G j) (i := i) p0 k)
 have HZ := Lib.hid (coR_z (p := p) (F := F) (G := G) B)
 have HS := Lib.hid (coR_s (p := p) (F := F) (G := G) B)
 have HJZ := Lib.hid (coJ_z (p := p) (F := F) (G := G))
 have HJK := Lib.hid (fun i j O h => coJ_skip (p := p) (F := F) (G := G) (i := i) (j := j) (O := O) h)
 have HJS := Lib.hid (fun i j O h h2 => coJ_s (p := p) (F := F) (G := G) (i := i) (j := j) (O := O) h h2)
 have HWZ := Lib.hid (fun (W : World) (c : Nat) (R : Nat → Nat → Nat) (h : Blk W c (M * 64) 28 (fl 64 R)) => withoutZerosBehind_any (some ⟨c, 0, none⟩) M M R W (SlR.of h (Nat.le_refl _)) (Nat.le_refl _) hM9)
 clear lF lG hgd
 go_enter Try.func88, Try.ntmps88
 go_upto_region 1 with (fail)
 obtain ⟨W1, hwo⟩ : ∃ v : World, v = (w.alloc (.cells (bdC (p : Int)).toArray 98)) := ⟨_, rfl⟩
 have B0 : Row W1 (w.heap.size) 98 (bdC (p : Int)).toArray := by subst hwo; have := (Row.new w 98 (bdC (p : Int)).toArray); simpa using this
 have hb : Below w.heap.size w W1 := by subst hwo; exact ((Below.refl _ _).alloc (Nat.le_refl _) _)
 rw [← hwo]
 clear hwo
 go_upto_region 2 with (refine wpList_make_rows _ rfl 30 (.tmp 16) (.tmp 16) rfl 28 Try.underlying30 Try.made28 M hM9 rfl rfl ?_)
 have lt_B0 := B0.lt
 have lhb := hb.size
 obtain ⟨W2, hwo, hzQ⟩ : ∃ v : World, v = (W1.alloc (.cells (zb (M * 64) (fl 64 (fun _ _ => 0))) 28)) ∧ Row v (w.heap.size) 98 (bdC (p : Int)).toArray ∧ Blk v (W1.heap.size) (M * 64) 28 (fl 64 (fun _ _ => 0)) ∧ Below w.heap.size w v := ⟨_, rfl, (B0.alloc (.cells (zb (M * 64) (fl 64 (fun _ _ => 0))) 28)), (Blk.new W1 (M * 64) 28 (fl 64 (fun _ _ => 0))), (hb.alloc (by have := hb.size; simp; omega) (.cells (zb (M * 64) (fl 64 (fun _ _ => 0))) 28))⟩
 rw [← hwo]
 clear hwo B0 hb
 obtain ⟨B0, B1, hb⟩ := hzQ
 obtain ⟨N1, hNN⟩ : ∃ n : Nat, n = W1.heap.size := ⟨_, rfl⟩
 rw [← hNN] at lt_B0 lhb B1 ⊢
 clear hNN
 have zN1_0 := lt_B0
 have zN1 := lhb
 clear lt_B0 lhb
 try simp only [Act.put, pA, pB, pC]
 go_wp2_with fail
 go_loopw [20] (fun c wr => ∃ (i : Nat) (O : Nat → Nat → Nat), c = .int .i64 (i : Int) ∧ i ≤ A ∧ Hid (O = coR p F G B i) ∧ Below w.heap.size w wr ∧ Row wr (w.heap.size) 98 (bdC (p : Int)).toArray ∧ w.heap.size ≤ N1 ∧ Blk wr (N1) (M * 64) 28 (fl 64 O)) (fun c _ => A - (intOf c).toNat)
 case atStart => exact ⟨0, _, rfl, Nat.zero_le _, Lib.hid HZ.out.symm, hb, B0, by omega, B1⟩
 case round =>
  clear hb B0 B1
  obtain ⟨i, O, rfl, hiA, hO, hb, B0, hlw, B1⟩ := hrel
  by_cases hi : i < A
  · have hiI : (i : Int) < (A : Int) := by omega
    have BF := hf.zw hb
    go_upto_region 4 with (fail)
    have B2 := BF
    clear BF
    have lt_B0 := B0.lt
    have lt_B1 := B1.lt
    have lt_B2 := B2.lt
    go_upto_region 5 with (first | rw [← z64] | (refine wpList_load_mid rfl 28 (.tmp 23) rfl _ (i * 64) rfl (bl 64 (F i)) _ (B2.rowF (r := A) (c := 64) (by omega)) Try.underlying28 rfl (by rw [zl]; exact Try.size28) ?_) | (refine wpList_store_blk rfl 28 (.tmp 9) (.tmp 24) rfl _ 64 (F i) rfl rfl 28 _ ((Blk.new wr 64 28 (fun _ => 0))) Try.size28 ?_; try simp only [Act.put]))
    have lt_B0 := B0.lt
    have lt_B1 := B1.lt
    have lt_B2 := B2.lt
    have lhb := hb.size
    obtain ⟨W3, hwo, hzQ⟩ : ∃ v : World, v = ((wr.alloc (.cells (zb 64 (fun _ => 0)) 28)).setRow (wr.heap.size) (zb 64 (F i))) ∧ Row v (w.heap.size) 98 (bdC (p : Int)).toArray ∧ Blk v (N1) (M * 64) 28 (fl 64 O) ∧ Blk v (bA) (A * 64) 28 (fl 64 F) ∧ Blk v (wr.heap.size) 64 28 (F i) ∧ Below w.heap.size w v := ⟨_, rfl, ((B0.alloc (.cells (zb 64 (fun _ => 0)) 28)).rowOther (by omega)), ((B1.alloc (.cells (zb 64 (fun _ => 0)) 28)).rowOther (by omega)), ((B2.alloc (.cells (zb 64 (fun _ => 0)) 28)).rowOther (by omega)), ((Blk.new wr 64 28 (fun _ => 0)).row (F i)), (zr (hb.alloc (by have := hb.size; simp; omega) (.cells (zb 64 (fun _ => 0)) 28)) (by omega) _)⟩
    rw [← hwo]
    clear hwo B0 B1 B2 hb
    obtain ⟨B0, B1, B2, B3, hb⟩ := hzQ
    obtain ⟨N2, hNN⟩ : ∃ n : Nat, n = wr.heap.size := ⟨_, rfl⟩
    rw [← hNN] at lt_B0 lt_B1 lt_B2 lhb B3 ⊢
    clear hNN
    have zN2_0 := lt_B0
    have zN2_1 := lt_B1
    have zN2_2 := lt_B2
    have zN2 := lhb
    clear lt_B0 lt_B1 lt_B2 lhb
    try simp only [Act.put, pA, pB, pC]
    clear B2
    go_wp2_with fail
    go_loopw [27] (fun c wr => ∃ (j : Nat) (O : Nat → Nat → Nat), c = .int .i64 (j : Int) ∧ j ≤ B ∧ Hid (O = coJ p F G i (coR p F G B i) j) ∧ Below w.heap.size w wr ∧ Row wr (w.heap.size) 98 (bdC (p : Int)).toArray ∧ w.heap.size ≤ N1 ∧ Blk wr (N1) (M * 64) 28 (fl 64 O) ∧ w.heap.size ≤ N2 ∧ N2 ≠ N1 ∧ Blk wr (N2) 64 28 (F i)) (fun c _ => B - (intOf c).toNat)
    case atStart => exact ⟨0, O, rfl, Nat.zero_le _, Lib.hid (by rw [HJZ.out, hO.out]), hb, B0, hlw, B1, by omega, by omega, B3⟩
    case round =>
     clear hb B0 B1 B3 hO
     obtain ⟨j, O, rfl, hjB, hO, hb, B0, hlw, B1, hcw, hcl, B3⟩ := hrel
     by_cases hj : j < B
     · have hjI : (j : Int) < (B : Int) := by omega
       have BG := hg.zw hb
       go_upto_region 7 with (fail)
       have B4 := BG
       clear BG
       have lt_B0 := B0.lt
       have lt_B1 := B1.lt
       have lt_B3 := B3.lt
       have lt_B4 := B4.lt
       go_upto_region 8 with (first | rw [← z64] | (refine wpList_load_mid rfl 28 (.tmp 30) rfl _ (j * 64) rfl (bl 64 (G j)) _ (B4.rowF (r := B) (c := 64) (by omega)) Try.underlying28 rfl (by rw [zl]; exact Try.size28) ?_) | (refine wpList_store_blk rfl 28 (.tmp 11) (.tmp 31) rfl _ 64 (G j) rfl rfl 28 _ ((Blk.new wr 64 28 (fun _ => 0))) Try.size28 ?_; try simp only [Act.put]))
       have lt_B0 := B0.lt
       have lt_B1 := B1.lt
       have lt_B3 := B3.lt
       have lt_B4 := B4.lt
       have lhb := hb.size
       obtain ⟨W4, hwo, hzQ⟩ : ∃ v : World, v = ((wr.alloc (.cells (zb 64 (fun _ => 0)) 28)).setRow (wr.heap.size) (zb 64 (G j))) ∧ Row v (w.heap.size) 98 (bdC (p : Int)).toArray ∧ Blk v (N1) (M * 64) 28 (fl 64 O) ∧ Blk v (N2) 64 28 (F i) ∧ Blk v (bB) (B * 64) 28 (fl 64 G) ∧ Blk v (wr.heap.size) 64 28 (G j) ∧ Below w.heap.size w v := ⟨_, rfl, ((B0.alloc (.cells (zb 64 (fun _ => 0)) 28)).rowOther (by omega)), ((B1.alloc (.cells (zb 64 (fun _ => 0)) 28)).rowOther (by omega)), ((B3.alloc (.cells (zb 64 (fun _ => 0)) 28)).rowOther (by omega)), ((B4.alloc (.cells (zb 64 (fun _ => 0)) 28)).rowOther (by omega)), ((Blk.new wr 64 28 (fun _ => 0)).row (G j)), (zr (hb.alloc (by have := hb.size; simp; omega) (.cells (zb 64 (fun _ => 0)) 28)) (by omega) _)⟩
       rw [← hwo]
       clear hwo B0 B1 B3 B4 hb
       obtain ⟨B0, B1, B3, B4, B5, hb⟩ := hzQ
       obtain ⟨N3, hNN⟩ : ∃ n : Nat, n = wr.heap.size := ⟨_, rfl⟩
       rw [← hNN] at lt_B0 lt_B1 lt_B3 lt_B4 lhb B5 ⊢
       clear hNN
       have zN3_0 := lt_B0
       have zN3_1 := lt_B1
       have zN3_3 := lt_B3
       have zN3_4 := lt_B4
       have zN3 := lhb
       clear lt_B0 lt_B1 lt_B3 lt_B4 lhb
       try simp only [Act.put, pA, pB, pC]
       clear B4
       have hgd := Try.noGuard28
       have heqF := fun W => zeb (P := Try.prog) W 9998 28 5 64 (F i) (fun _ => 0) Try.underlying28 Try.underlying5 Try.size5
       have heqG := fun W => zeb (P := Try.prog) W 9998 28 5 64 (G j) (fun _ => 0) Try.underlying28 Try.underlying5 Try.size5
       cases hzF : eqN 64 (F i) (fun _ => 0) with
       | true =>
        rw [hzF] at heqF
        have HK := Lib.hid (HJK.out i j (coR p F G B i) (.inl hzF))
        have HQ9 := Lib.hid (show okP2 p F G i j from fun h => by rw [hzF] at h; cases h)
        clear hzF heqG
        go_wp2_with (first | (refine zla (.tmp 9) B3 Try.underlying28 Try.size28 ?_) | rw [← z64])
        go_roundw
        case rel => exact ⟨j + 1, O, by go_num, by omega, Lib.hid (by rw [HK.out, hO.out]), hb, B0, hlw, B1, hcw, hcl, B3⟩
        case measure => simp [intOf] <;> omega
       | false =>
        rw [hzF] at heqF
        cases hzG : eqN 64 (G j) (fun _ => 0) with
        | true =>
         rw [hzG] at heqG
         have HK := Lib.hid (HJK.out i j (coR p F G B i) (.inr hzG))
         have HQ9 := Lib.hid (show okP2 p F G i j from fun _ h => by rw [hzG] at h; cases h)
         clear hzF hzG
         go_wp2_with (first | (refine zla (.tmp 9) B3 Try.underlying28 Try.size28 ?_) | (refine zlg rfl 28 (.tmp 11) rfl _ rfl 64 28 _ B5 _ Try.underlying28 rfl Try.size28 ?_) | rw [← z64])
         go_roundw
         case rel => exact ⟨j + 1, O, by go_num, by omega, Lib.hid (by rw [HK.out, hO.out]), hb, B0, hlw, B1, hcw, hcl, B3⟩
         case measure => simp [intOf] <;> omega
        | false =>
         rw [hzG] at heqG
         have HK := Lib.hid (HJS.out i j (coR p F G B i) hzF hzG)
         obtain ⟨Q, hQ⟩ : ∃ Q, Q = i + j := ⟨_, rfl⟩
         have hQI : (i : Int) + (j : Int) = (Q : Int) := by omega
         have hQM : Q < M := by have := HM.out; omega
         have hQMI : (Q : Int) < (M : Int) := by omega
         have HQ := Lib.hid hQ
         clear hQ
         have HOL := Lib.hid (show ∀ k, O Q k < p from fun k => by rw [hO.out]; exact HJL.out i j Q k)
         have HQ9 := Lib.hid (show okP2 p F G i j from fun _ _ => HGD.out i hi j hj hzF hzG)
         have HK1 := Lib.hid (HAC.out i hi j (HGD.out i hi j hj hzF hzG))
         have HK2 := Lib.hid (HPL.out (O Q) (coX p (F i) (G j) i) HOL.out (HML.out i j))
         clear hzF hzG
         go_upto_region 9 with (first | (refine zla (.tmp 9) B3 Try.underlying28 Try.size28 ?_) | (refine zlg rfl 28 (.tmp 11) rfl _ rfl 64 28 _ B5 _ Try.underlying28 rfl Try.size28 ?_) | rw [← z64])
         clear heqF heqG hgd
         have lt_B0 : (w.heap.size) < W4.heap.size := B0.lt
         have lt_B1 : (N1) < W4.heap.size := B1.lt
         have lt_B3 : (N2) < W4.heap.size := B3.lt
         have lt_B5 : (N3) < W4.heap.size := B5.lt
         have hbase : w.heap.size ≤ W4.heap.size := hb.size
         refine zq Try.mixed (by kernel_rfl) (by kernel_rfl) (fun v => by (simp only [frL, Act.put, pA, pB, pC, Nat.reduceAdd, Nat.zero_add]; exact rfl))
          (fun L v W5 => Below w.heap.size w W5 ∧ Kx [N1] W4 W5 ∧ (∃ g, Blk W5 (N1) (M * 64) 28 (g)) ∧ (L 20 = false → Blk W5 (N1) (M * 64) 28 (fl 64 O)) ∧ (L 20 = true → Blk W5 (N1) (M * 64) 28 (fl 64 (updR O Q (addK p (O Q) (coX p (F i) (G j) i) 1)))) ∧ VF L v [some (.slice (some ⟨N1, 0, none⟩) M M), some (.int .i64 (i : Int)), some (.int .i64 (j : Int)), some (.int .i64 (Q : Int)), some (.agg (bdC (p : Int)).toArray), some (.iface 98 (.agg (bdC (p : Int)).toArray)), some (.slice (some ⟨N1, 0, none⟩) M M), some (.int .i64 (i : Int)), some (.int .i64 (j : Int)), some (.int .i64 (Q : Int)), some (.pointer (some ⟨N1, Q * 64, none⟩)), some (.agg (zb 64 (O Q))), some (.agg (bdC (p : Int)).toArray), some (.iface 98 (.agg (bdC (p : Int)).toArray)), some (.agg (zb 64 (F i))), some (.int .i64 (i : Int)), some (.agg (zb 64 (G j))), some (.agg (zb 64 (coX p (F i) (G j) i))), some (.agg (zb 64 (addK p (O Q) (coX p (F i) (G j) i) 1))), some (.pointer (some ⟨N1, Q * 64, none⟩)), none]) ?_ ?_ ?_
         · intro v hv0
           exact ⟨hb.drew, Kx.start _ _, ⟨_, B1.drew⟩, (fun _ => B1.drew), (fun h => by cases h), VF.start⟩
         · refine (.cons rfl ?_ (.cons rfl ?_ (.cons rfl ?_ (.cons rfl ?_ (.cons rfl ?_ (.cons rfl ?_ (.cons rfl ?_ (.cons rfl ?_ (.cons rfl ?_ (.cons rfl ?_ (.cons rfl ?_ (.cons rfl ?_ (.cons rfl ?_ (.cons rfl ?_ (.cons rfl ?_ (.cons rfl ?_ (.cons rfl ?_ (.cons rfl ?_ (.cons rfl ?_ (.cons rfl ?_ (.cons rfl ?_ (.nil _))))))))))))))))))))))
           all_goals intro L v W5 hd hn ⟨hB, hX, x1, q1, n1, V⟩ K hK
           · go_wp2_with fail
             exact hK _ (.slice (some ⟨N1, 0, none⟩) M M) _ (by simp only [Act.put, pA, pB, pC ]) ⟨hB, hX, x1, q1, n1, V.step 0 rfl⟩
           · go_wp2_with fail
             exact hK _ (.int .i64 (i : Int)) _ (by simp only [Act.put, pA, pB, pC ]) ⟨hB, hX, x1, q1, n1, V.step 1 rfl⟩
           · go_wp2_with fail
             exact hK _ (.int .i64 (j : Int)) _ (by simp only [Act.put, pA, pB, pC ]) ⟨hB, hX, x1, q1, n1, V.step 2 rfl⟩
           · have e1 := V.at (zdq hd 1 rfl) rfl
             have e2 := V.at (zdq hd 2 rfl) rfl
             go_wp2_with fail
             exact hK _ (.int .i64 (Q : Int)) _ (by simp only [Act.put, pA, pB, pC, e1, e2]) ⟨hB, hX, x1, q1, n1, V.step 3 rfl⟩
           · refine wp_load_rowv 98 _ rfl _ rfl 98 _ (B0.kx hX (by simp <;> omega)) _ Try.underlying98 rfl 1 Try.size98 (by simp [bdC_len]) ?_
             exact hK _ _ _ rfl ⟨hB, hX, x1, q1, n1, V.step 4 rfl⟩
           · have e4 := V.at (zdq hd 4 rfl) rfl
             go_wp2_with fail
             exact hK _ (.iface 98 (.agg (bdC (p : Int)).toArray)) _ (by simp only [Act.put, pA, pB, pC, e4]) ⟨hB, hX, x1, q1, n1, V.step 5 rfl⟩
           · go_wp2_with fail
             exact hK _ (.slice (some ⟨N1, 0, none⟩) M M) _ (by simp only [Act.put, pA, pB, pC ]) ⟨hB, hX, x1, q1, n1, V.step 6 rfl⟩
           · go_wp2_with fail
             exact hK _ (.int .i64 (i : Int)) _ (by simp only [Act.put, pA, pB, pC ]) ⟨hB, hX, x1, q1, n1, V.step 7 rfl⟩
           · go_wp2_with fail
             exact hK _ (.int .i64 (j : Int)) _ (by simp only [Act.put, pA, pB, pC ]) ⟨hB, hX, x1, q1, n1, V.step 8 rfl⟩
           · have e7 := V.at (zdq hd 7 rfl) rfl
             have e8 := V.at (zdq hd 8 rfl) rfl
             go_wp2_with fail
             exact hK _ (.int .i64 (Q : Int)) _ (by simp only [Act.put, pA, pB, pC, e7, e8]) ⟨hB, hX, x1, q1, n1, V.step 9 rfl⟩
           · have e6 := V.at (zdq hd 6 rfl) rfl
             have e9 := V.at (zdq hd 9 rfl) rfl
             go_wp2_with fail
             exact hK _ (.pointer (some ⟨N1, Q * 64, none⟩)) _ (by simp only [Act.put, pA, pB, pC, e6, e9]) ⟨hB, hX, x1, q1, n1, V.step 10 rfl⟩
           · have e10 := V.at (zdq hd 10 rfl) rfl
             have s1 := q1 (by
              cases hL : L 20 with
              | false => rfl
              | true => exact absurd rfl (hn 20 _ rfl hL ⟨11, .phase⟩ (by simp) rfl))
             refine wp_load_mid 28 _ rfl _ (Q * 64) e10 _ _ ((s1).rowF (r := M) (c := 64) (by omega)) Try.underlying28 rfl (by rw [zl]; exact Try.size28) ?_
             exact hK _ _ _ rfl ⟨hB, hX, x1, q1, n1, V.step 11 rfl⟩
           · refine wp_load_rowv 98 _ rfl _ rfl 98 _ (B0.kx hX (by simp <;> omega)) _ Try.underlying98 rfl 1 Try.size98 (by simp [bdC_len]) ?_
             exact hK _ _ _ rfl ⟨hB, hX, x1, q1, n1, V.step 12 rfl⟩
           · have e12 := V.at (zdq hd 12 rfl) rfl
             go_wp2_with fail
             exact hK _ (.iface 98 (.agg (bdC (p : Int)).toArray)) _ (by simp only [Act.put, pA, pB, pC, e12]) ⟨hB, hX, x1, q1, n1, V.step 13 rfl⟩
           · refine wp_load_any 28 _ rfl _ rfl 64 28 _ (B3.kx hX (by simp <;> omega)) _ Try.underlying28 rfl Try.size28 ?_
             exact hK _ _ _ rfl ⟨hB, hX, x1, q1, n1, V.step 14 rfl⟩
           · go_wp2_with fail
             exact hK _ (.int .i64 (i : Int)) _ (by simp only [Act.put, pA, pB, pC ]) ⟨hB, hX, x1, q1, n1, V.step 15 rfl⟩
           · refine wp_load_any 28 _ rfl _ rfl 64 28 _ (B5.kx hX (by simp <;> omega)) _ Try.underlying28 rfl Try.size28 ?_
             exact hK _ _ _ rfl ⟨hB, hX, x1, q1, n1, V.step 16 rfl⟩
           · have e13 := V.at (zdq hd 13 rfl) rfl
             have e14 := V.at (zdq hd 14 rfl) rfl
             have e15 := V.at (zdq hd 15 rfl) rfl
             have e16 := V.at (zdq hd 16 rfl) rfl
             go_wp2_with (go_at_call 211; refine (HK1.out _).mono ?_; rintro e wy ⟨rfl, hy⟩)
             exact hK _ (.agg (zb 64 (coX p (F i) (G j) i))) _ (by simp only [Act.put, pA, pB, pC, e13, e14, e15, e16]) ⟨hB.trans (hy.mono hB.size), hX.below hy, (let ⟨g, h⟩ := x1; ⟨g, h.zw hy⟩), (fun h => (q1 h).below hy (q1 h).lt), (fun h => (n1 h).below hy (n1 h).lt), V.step 17 rfl⟩
           · have e5 := V.at (zdq hd 5 rfl) rfl
             have e11 := V.at (zdq hd 11 rfl) rfl
             have e17 := V.at (zdq hd 17 rfl) rfl
             go_wp2_with (go_at_call 212; refine (HK2.out _).mono ?_; rintro e wy ⟨rfl, hy⟩)
             exact hK _ (.agg (zb 64 (addK p (O Q) (coX p (F i) (G j) i) 1))) _ (by simp only [Act.put, pA, pB, pC, e5, e11, e17]) ⟨hB.trans (hy.mono hB.size), hX.below hy, (let ⟨g, h⟩ := x1; ⟨g, h.zw hy⟩), (fun h => (q1 h).below hy (q1 h).lt), (fun h => (n1 h).below hy (n1 h).lt), V.step 18 rfl⟩
           · have e0 := V.at (zdq hd 0 rfl) rfl
             have e3 := V.at (zdq hd 3 rfl) rfl
             go_wp2_with fail
             exact hK _ (.pointer (some ⟨N1, Q * 64, none⟩)) _ (by simp only [Act.put, pA, pB, pC, e0, e3]) ⟨hB, hX, x1, q1, n1, V.step 19 rfl⟩
           · have e19 := V.at (zdq hd 19 rfl) rfl
             have e18 := V.at (zdq hd 18 rfl) rfl
             obtain ⟨gz, hk, hg⟩ : ∃ gz, Blk W5 (N1) (M * 64) 28 (fl 64 gz) ∧ updR gz (Q) (addK p (O Q) (coX p (F i) (G j) i) 1) = updR O (Q) (addK p (O Q) (coX p (F i) (G j) i) 1) := by
              cases hL : L 20 with
              | false => exact ⟨_, q1 hL, rfl⟩
              | true => exact ⟨_, n1 hL, updR_twice _ _ _⟩
             refine wp_store_rowF 28 _ _ rfl _ (Q) 64 M (addK p (O Q) (coX p (F i) (G j) i) 1) e19 e18 28 gz hk (by omega) (by decide) Try.size28 ?_
             rw [hg]
             exact hK _ undef _ rfl ⟨zr hB (by omega) _, hX.row (by simp) _, ⟨_, hk.row _⟩, (fun h => absurd h (by simp [setL])), (fun _ => hk.row _), V.skip 20 rfl⟩
         · intro L v W5 hL ⟨hB, hX, x1, q1, n1, V⟩
           have r1 := n1 (hL 20 (by decide))
           have e0 := V.at (hL 0 (by decide)) rfl
           have e1 := V.at (hL 1 (by decide)) rfl
           have e2 := V.at (hL 2 (by decide)) rfl
           have e3 := V.at (hL 3 (by decide)) rfl
           have e4 := V.at (hL 4 (by decide)) rfl
           have e5 := V.at (hL 5 (by decide)) rfl
           have e6 := V.at (hL 6 (by decide)) rfl
           have e7 := V.at (hL 7 (by decide)) rfl
           have e8 := V.at (hL 8 (by decide)) rfl
           have e9 := V.at (hL 9 (by decide)) rfl
           have e10 := V.at (hL 10 (by decide)) rfl
           have e11 := V.at (hL 11 (by decide)) rfl
           have e12 := V.at (hL 12 (by decide)) rfl
           have e13 := V.at (hL 13 (by decide)) rfl
           have e14 := V.at (hL 14 (by decide)) rfl
           have e15 := V.at (hL 15 (by decide)) rfl
           have e16 := V.at (hL 16 (by decide)) rfl
           have e17 := V.at (hL 17 (by decide)) rfl
           have e18 := V.at (hL 18 (by decide)) rfl
           have e19 := V.at (hL 19 (by decide)) rfl
           clear hL x1 q1 n1 V
           replace B0 := B0.kx hX (by simp <;> omega)
           replace B3 := B3.kx hX (by simp <;> omega)
           replace B5 := B5.kx hX (by simp <;> omega)
           clear hX
           simp only [Exit.then, e0, e1, e2, e3, e4, e5, e6, e7, e8, e9, e10, e11, e12, e13, e14, e15, e16, e17, e18, e19]
           clear e0 e1 e2 e3 e4 e5 e6 e7 e8 e9 e10 e11 e12 e13 e14 e15 e16 e17 e18 e19
           replace B1 := r1
           clear r1
           replace hb := hB
           clear hB
           clear hbase lt_B0 lt_B1 lt_B3 lt_B5
           go_wp2_with fail
           go_roundw
           case rel => exact ⟨j + 1, _, by go_num, by omega, Lib.hid (by rw [HK.out, ← hO.out, ← HQ.out]), hb, B0, hlw, B1, hcw, hcl, B3⟩
           case measure => simp [intOf] <;> omega
     · have hjI : ¬ (j : Int) < (B : Int) := by omega
       obtain rfl : j = B := by omega
       go_wp2_with fail
       go_roundw
       case rel => exact ⟨i + 1, O, by go_num, by omega, Lib.hid (by rw [HS.out, hO.out]), hb, B0, hlw, B1⟩
       case measure => simp [intOf] <;> omega
  · have hiI : ¬ (i : Int) < (A : Int) := by omega
    obtain rfl : i = A := by omega
    go_upto_region 12 with (fail)
    go_wp2_with (go_at_call 126; refine (HWZ.out _ _ _ B1).mono ?_; rintro e W9 ⟨rfl, hW9⟩; replace B1 := B1.zw hW9; replace hb := hb.trans (hW9.mono hb.size))
    go_ret
    exact ⟨_, by rw [← hO.out]; rfl, by omega, by rw [← hO.out]; exact B1, hb⟩
set_option maxRecDepth 100000 in
set_option maxHeartbeats 1600000 in
theorem skewProductB_no (p : Nat) (F G : Nat → Nat → Nat) (A B bA bB : Nat) (w : World) (hpr : p = 2 ∨ p = 3 ∨ p = 5 ∨ p = 7) (hA : A ≤ 7) (hB : B ≤ 7)
 (lF : ∀ r k, k < 64 → F r k < p) (lG : ∀ r k, k < 64 → G r k < p) (hgd : ¬ (∀ i, i < A → ∀ j, j < B → okP2 p F G i j)) (hf : Blk w bA (A * 64) 28 (fl 64 F)) (hg : Blk w bB (B * 64) 28 (fl 64 G)) :
 Calls Try.prog 88 #[.agg (bdC (p : Int)).toArray, .slice (some ⟨bA, 0, none⟩) A A, .slice (some ⟨bB, 0, none⟩) B B] w fun e w' => e = .panicked [{ v := .iface 130 (.int .i64 3), recovered := false }] ∧ Below w.heap.size w w' := by
 have p0 : 0 < p := by omega
 obtain ⟨M, hM⟩ : ∃ M : Nat, M = A + B := ⟨_, rfl⟩
 have hMI : (A : Int) + (B : Int) = (M : Int) := by omega
 have hM9 : M ≤ 100000 := by omega
 have HM := Lib.hid hM
 clear hM
 have HGD := Lib.hid hgd
 have HAC := Lib.hid (fun i (hi : i < A) j (hg : gdP p (F i) (G j) i) W => bacross_ok p i (F i) (G j) W hpr (by omega) (lF i) (lG j) hg)
 have HAN := Lib.hid (fun i (hi : i < A) j (hg : ¬ gdP p (F i) (G j) i) W => bacross_no p i (F i) (G j) W hpr (by omega) (lF i) (lG j) hg)
 have HPL := Lib.hid (fun (f g : Nat → Nat) (hf : ∀ k, f k < p) (hg : ∀ k, k < 64 → g k < p) W => bplus_any p f g W hpr (fun k _ => hf k) hg)
 have HJL := Lib.hid (fun i j r k => coJ_lt (p := p) (F := F) (G := G) (i := i) p0 (coR_lt (F := F) (G := G) p0 B i) j r k)
 have HML := Lib.hid (fun i j k (hk : k < 64) => coX_lt (p := p) (f := F i) (g := G j) (i := i) p0 k)
 have HZ := Lib.hid (coR_z (p := p) (F := F) (G := G) B)
 have HS := Lib.hid (coR_s (p := p) (F := F) (G := G) B)
 have HJZ := Lib.hid (coJ_z (p := p) (F := F) (G := G))
 have HJK := Lib.hid (fun i j O h => coJ_skip (p := p) (F := F) (G := G) (i := i) (j := j) (O := O) h)
 have HJS := Lib.hid (fun i j O h h2 => coJ_s (p := p) (F := F) (G := G) (i := i) (j := j) (O := O) h h2)
 clear lF lG hgd
 go_enter Try.func88, Try.ntmps88
 go_upto_region 1 with (fail)
 obtain ⟨W1, hwo⟩ : ∃ v : World, v = (w.alloc (.cells (bdC (p : Int)).toArray 98)) := ⟨_, rfl⟩
 have B0 : Row W1 (w.heap.size) 98 (bdC (p : Int)).toArray := by subst hwo; have := (Row.new w 98 (bdC (p : Int)).toArray); simpa using this
 have hb : Below w.heap.size w W1 := by subst hwo; exact ((Below.refl _ _).alloc (Nat.le_refl _) _)
 rw [← hwo]
 clear hwo
 go_upto_region 2 with (refine wpList_make_rows _ rfl 30 (.tmp 16) (.tmp 16) rfl 28 Try.underlying30 Try.made28 M hM9 rfl rfl ?_)
 have lt_B0 := B0.lt
 have lhb := hb.size
 obtain ⟨W2, hwo, hzQ⟩ : ∃ v : World, v = (W1.alloc (.cells (zb (M * 64) (fl 64 (fun _ _ => 0))) 28)) ∧ Row v (w.heap.size) 98 (bdC (p : Int)).toArray ∧ Blk v (W1.heap.size) (M * 64) 28 (fl 64 (fun _ _ => 0)) ∧ Below w.heap.size w v := ⟨_, rfl, (B0.alloc (.cells (zb (M * 64) (fl 64 (fun _ _ => 0))) 28)), (Blk.new W1 (M * 64) 28 (fl 64 (fun _ _ => 0))), (hb.alloc (by have := hb.size; simp; omega) (.cells (zb (M * 64) (fl 64 (fun _ _ => 0))) 28))⟩
 rw [← hwo]
 clear hwo B0 hb
 obtain ⟨B0, B1, hb⟩ := hzQ
 obtain ⟨N1, hNN⟩ : ∃ n : Nat, n = W1.heap.size := ⟨_, rfl⟩
 rw [← hNN] at lt_B0 lhb B1 ⊢
 clear hNN
 have zN1_0 := lt_B0
 have zN1 := lhb
 clear lt_B0 lhb
 try simp only [Act.put, pA, pB, pC]
 go_wp2_with fail
 go_loopw [20] (fun c wr => ∃ (i : Nat) (O : Nat → Nat → Nat), c = .int .i64 (i : Int) ∧ i ≤ A ∧ Hid (O = coR p F G B i) ∧ Hid (∀ a, a < i → ∀ b, b < B → okP2 p F G a b) ∧ Below w.heap.size w wr ∧ Row wr (w.heap.size) 98 (bdC (p : Int)).toArray ∧ w.heap.size ≤ N1 ∧ Blk wr (N1) (M * 64) 28 (fl 64 O)) (fun c _ => A - (intOf c).toNat)
 case atStart => exact ⟨0, _, rfl, Nat.zero_le _, Lib.hid HZ.out.symm, Lib.hid (fun a h => absurd h (Nat.not_lt_zero a)), hb, B0, by omega, B1⟩
 case round =>
  clear hb B0 B1
  obtain ⟨i, O, rfl, hiA, hO, hqO, hb, B0, hlw, B1⟩ := hrel
  by_cases hi : i < A
  · have hiI : (i : Int) < (A : Int) := by omega
    have BF := hf.zw hb
    go_upto_region 4 with (fail)
    have B2 := BF
    clear BF
    have lt_B0 := B0.lt
    have lt_B1 := B1.lt
    have lt_B2 := B2.lt
    go_upto_region 5 with (first | rw [← z64] | (refine wpList_load_mid rfl 28 (.tmp 23) rfl _ (i * 64) rfl (bl 64 (F i)) _ (B2.rowF (r := A) (c := 64) (by omega)) Try.underlying28 rfl (by rw [zl]; exact Try.size28) ?_) | (refine wpList_store_blk rfl 28 (.tmp 9) (.tmp 24) rfl _ 64 (F i) rfl rfl 28 _ ((Blk.new wr 64 28 (fun _ => 0))) Try.size28 ?_; try simp only [Act.put]))
    have lt_B0 := B0.lt
    have lt_B1 := B1.lt
    have lt_B2 := B2.lt
    have lhb := hb.size
    obtain ⟨W3, hwo, hzQ⟩ : ∃ v : World, v = ((wr.alloc (.cells (zb 64 (fun _ => 0)) 28)).setRow (wr.heap.size) (zb 64 (F i))) ∧ Row v (w.heap.size) 98 (bdC (p : Int)).toArray ∧ Blk v (N1) (M * 64) 28 (fl 64 O) ∧ Blk v (bA) (A * 64) 28 (fl 64 F) ∧ Blk v (wr.heap.size) 64 28 (F i) ∧ Below w.heap.size w v := ⟨_, rfl, ((B0.alloc (.cells (zb 64 (fun _ => 0)) 28)).rowOther (by omega)), ((B1.alloc (.cells (zb 64 (fun _ => 0)) 28)).rowOther (by omega)), ((B2.alloc (.cells (zb 64 (fun _ => 0)) 28)).rowOther (by omega)), ((Blk.new wr 64 28 (fun _ => 0)).row (F i)), (zr (hb.alloc (by have := hb.size; simp; omega) (.cells (zb 64 (fun _ => 0)) 28)) (by omega) _)⟩
    rw [← hwo]
    clear hwo B0 B1 B2 hb
    obtain ⟨B0, B1, B2, B3, hb⟩ := hzQ
    obtain ⟨N2, hNN⟩ : ∃ n : Nat, n = wr.heap.size := ⟨_, rfl⟩
    rw [← hNN] at lt_B0 lt_B1 lt_B2 lhb B3 ⊢
    clear hNN
    have zN2_0 := lt_B0
    have zN2_1 := lt_B1
    have zN2_2 := lt_B2
    have zN2 := lhb
    clear lt_B0 lt_B1 lt_B2 lhb
    try simp only [Act.put, pA, pB, pC]
    clear B2
    go_wp2_with fail
    go_loopw [27] (fun c wr => ∃ (j : Nat) (O : Nat → Nat → Nat), c = .int .i64 (j : Int) ∧ j ≤ B ∧ Hid (O = coJ p F G i (coR p F G B i) j) ∧ Hid (∀ b, b < j → okP2 p F G i b) ∧ Below w.heap.size w wr ∧ Row wr (w.heap.size) 98 (bdC (p : Int)).toArray ∧ w.heap.size ≤ N1 ∧ Blk wr (N1) (M * 64) 28 (fl 64 O) ∧ w.heap.size ≤ N2 ∧ N2 ≠ N1 ∧ Blk wr (N2) 64 28 (F i)) (fun c _ => B - (intOf c).toNat)
    case atStart => exact ⟨0, O, rfl, Nat.zero_le _, Lib.hid (by rw [HJZ.out, hO.out]), Lib.hid (fun a h => absurd h (Nat.not_lt_zero a)), hb, B0, hlw, B1, by omega, by omega, B3⟩
    case round =>
     clear hb B0 B1 B3 hO
     obtain ⟨j, O, rfl, hjB, hO, hqI, hb, B0, hlw, B1, hcw, hcl, B3⟩ := hrel
     by_cases hj : j < B
     · have hjI : (j : Int) < (B : Int) := by omega
       have BG := hg.zw hb
       go_upto_region 7 with (fail)
       have B4 := BG
       clear BG
       have lt_B0 := B0.lt
       have lt_B1 := B1.lt
       have lt_B3 := B3.lt
       have lt_B4 := B4.lt
       go_upto_region 8 with (first | rw [← z64] | (refine wpList_load_mid rfl 28 (.tmp 30) rfl _ (j * 64) rfl (bl 64 (G j)) _ (B4.rowF (r := B) (c := 64) (by omega)) Try.underlying28 rfl (by rw [zl]; exact Try.size28) ?_) | (refine wpList_store_blk rfl 28 (.tmp 11) (.tmp 31) rfl _ 64 (G j) rfl rfl 28 _ ((Blk.new wr 64 28 (fun _ => 0))) Try.size28 ?_; try simp only [Act.put]))
       have lt_B0 := B0.lt
       have lt_B1 := B1.lt
       have lt_B3 := B3.lt
       have lt_B4 := B4.lt
       have lhb := hb.size
       obtain ⟨W4, hwo, hzQ⟩ : ∃ v : World, v = ((wr.alloc (.cells (zb 64 (fun _ => 0)) 28)).setRow (wr.heap.size) (zb 64 (G j))) ∧ Row v (w.heap.size) 98 (bdC (p : Int)).toArray ∧ Blk v (N1) (M * 64) 28 (fl 64 O) ∧ Blk v (N2) 64 28 (F i) ∧ Blk v (bB) (B * 64) 28 (fl 64 G) ∧ Blk v (wr.heap.size) 64 28 (G j) ∧ Below w.heap.size w v := ⟨_, rfl, ((B0.alloc (.cells (zb 64 (fun _ => 0)) 28)).rowOther (by omega)), ((B1.alloc (.cells (zb 64 (fun _ => 0)) 28)).rowOther (by omega)), ((B3.alloc (.cells (zb 64 (fun _ => 0)) 28)).rowOther (by omega)), ((B4.alloc (.cells (zb 64 (fun _ => 0)) 28)).rowOther (by omega)), ((Blk.new wr 64 28 (fun _ => 0)).row (G j)), (zr (hb.alloc (by have := hb.size; simp; omega) (.cells (zb 64 (fun _ => 0)) 28)) (by omega) _)⟩
       rw [← hwo]
       clear hwo B0 B1 B3 B4 hb
       obtain ⟨B0, B1, B3, B4, B5, hb⟩ := hzQ
       obtain ⟨N3, hNN⟩ : ∃ n : Nat, n = wr.heap.size := ⟨_, rfl⟩
       rw [← hNN] at lt_B0 lt_B1 lt_B3 lt_B4 lhb B5 ⊢
       clear hNN
       have zN3_0 := lt_B0
       have zN3_1 := lt_B1
       have zN3_3 := lt_B3
       have zN3_4 := lt_B4
       have zN3 := lhb
       clear lt_B0 lt_B1 lt_B3 lt_B4 lhb
       try simp only [Act.put, pA, pB, pC]
       clear B4
       have hgd := Try.noGuard28
       have heqF := fun W => zeb (P := Try.prog) W 9998 28 5 64 (F i) (fun _ => 0) Try.underlying28 Try.underlying5 Try.size5
       have heqG := fun W => zeb (P := Try.prog) W 9998 28 5 64 (G j) (fun _ => 0) Try.underlying28 Try.underlying5 Try.size5
       cases hzF : eqN 64 (F i) (fun _ => 0) with
       | true =>
        rw [hzF] at heqF
        have HK := Lib.hid (HJK.out i j (coR p F G B i) (.inl hzF))
        have HQ9 := Lib.hid (show okP2 p F G i j from fun h => by rw [hzF] at h; cases h)
        clear hzF heqG
        go_wp2_with (first | (refine zla (.tmp 9) B3 Try.underlying28 Try.size28 ?_) | rw [← z64])
        go_roundw
        case rel => exact ⟨j + 1, O, by go_num, by omega, Lib.hid (by rw [HK.out, hO.out]), Lib.hid (fun b hb2 => by
         by_cases e : b = j
         · subst e; exact HQ9.out
         · exact hqI.out b (by omega)), hb, B0, hlw, B1, hcw, hcl, B3⟩
        case measure => simp [intOf] <;> omega
       | false =>
        rw [hzF] at heqF
        cases hzG : eqN 64 (G j) (fun _ => 0) with
        | true =>
         rw [hzG] at heqG
         have HK := Lib.hid (HJK.out i j (coR p F G B i) (.inr hzG))
         have HQ9 := Lib.hid (show okP2 p F G i j from fun _ h => by rw [hzG] at h; cases h)
         clear hzF hzG
         go_wp2_with (first | (refine zla (.tmp 9) B3 Try.underlying28 Try.size28 ?_) | (refine zlg rfl 28 (.tmp 11) rfl _ rfl 64 28 _ B5 _ Try.underlying28 rfl Try.size28 ?_) | rw [← z64])
         go_roundw
         case rel => exact ⟨j + 1, O, by go_num, by omega, Lib.hid (by rw [HK.out, hO.out]), Lib.hid (fun b hb2 => by
          by_cases e : b = j
          · subst e; exact HQ9.out
          · exact hqI.out b (by omega)), hb, B0, hlw, B1, hcw, hcl, B3⟩
         case measure => simp [intOf] <;> omega
        | false =>
         rw [hzG] at heqG
         have HK := Lib.hid (HJS.out i j (coR p F G B i) hzF hzG)
         obtain ⟨Q, hQ⟩ : ∃ Q, Q = i + j := ⟨_, rfl⟩
         have hQI : (i : Int) + (j : Int) = (Q : Int) := by omega
         have hQM : Q < M := by have := HM.out; omega
         have hQMI : (Q : Int) < (M : Int) := by omega
         have HQ := Lib.hid hQ
         clear hQ
         have HOL := Lib.hid (show ∀ k, O Q k < p from fun k => by rw [hO.out]; exact HJL.out i j Q k)
         by_cases hgp : gdP p (F i) (G j) i
         · have hgp2 := hgp
           have HQ9 := Lib.hid (show okP2 p F G i j from fun _ _ => hgp2)
           have HK1 := Lib.hid (HAC.out i hi j (hgp2))
           have HK2 := Lib.hid (HPL.out (O Q) (coX p (F i) (G j) i) HOL.out (HML.out i j))
           clear hzF hzG hgp
           go_upto_region 9 with (first | (refine zla (.tmp 9) B3 Try.underlying28 Try.size28 ?_) | (refine zlg rfl 28 (.tmp 11) rfl _ rfl 64 28 _ B5 _ Try.underlying28 rfl Try.size28 ?_) | rw [← z64])
           clear heqF heqG hgd
           have lt_B0 : (w.heap.size) < W4.heap.size := B0.lt
           have lt_B1 : (N1) < W4.heap.size := B1.lt
           have lt_B3 : (N2) < W4.heap.size := B3.lt
           have lt_B5 : (N3) < W4.heap.size := B5.lt
           have hbase : w.heap.size ≤ W4.heap.size := hb.size
           refine zq Try.mixed (by kernel_rfl) (by kernel_rfl) (fun v => by (simp only [frL, Act.put, pA, pB, pC, Nat.reduceAdd, Nat.zero_add]; exact rfl))
            (fun L v W5 => Below w.heap.size w W5 ∧ Kx [N1] W4 W5 ∧ (∃ g, Blk W5 (N1) (M * 64) 28 (g)) ∧ (L 20 = false → Blk W5 (N1) (M * 64) 28 (fl 64 O)) ∧ (L 20 = true → Blk W5 (N1) (M * 64) 28 (fl 64 (updR O Q (addK p (O Q) (coX p (F i) (G j) i) 1)))) ∧ VF L v [some (.slice (some ⟨N1, 0, none⟩) M M), some (.int .i64 (i : Int)), some (.int .i64 (j : Int)), some (.int .i64 (Q : Int)), some (.agg (bdC (p : Int)).toArray), some (.iface 98 (.agg (bdC (p : Int)).toArray)), some (.slice (some ⟨N1, 0, none⟩) M M), some (.int .i64 (i : Int)), some (.int .i64 (j : Int)), some (.int .i64 (Q : Int)), some (.pointer (some ⟨N1, Q * 64, none⟩)), some (.agg (zb 64 (O Q))), some (.agg (bdC (p : Int)).toArray), some (.iface 98 (.agg (bdC (p : Int)).toArray)), some (.agg (zb 64 (F i))), some (.int .i64 (i : Int)), some (.agg (zb 64 (G j))), some (.agg (zb 64 (coX p (F i) (G j) i))), some (.agg (zb 64 (addK p (O Q) (coX p (F i) (G j) i) 1))), some (.pointer (some ⟨N1, Q * 64, none⟩)), none]) ?_ ?_ ?_
           · intro v hv0
             exact ⟨hb.drew, Kx.start _ _, ⟨_, B1.drew⟩, (fun _ => B1.drew), (fun h => by cases h), VF.start⟩
           · refine (.cons rfl ?_ (.cons rfl ?_ (.cons rfl ?_ (.cons rfl ?_ (.cons rfl ?_ (.cons rfl ?_ (.cons rfl ?_ (.cons rfl ?_ (.cons rfl ?_ (.cons rfl ?_ (.cons rfl ?_ (.cons rfl ?_ (.cons rfl ?_ (.cons rfl ?_ (.cons rfl ?_ (.cons rfl ?_ (.cons rfl ?_ (.cons rfl ?_ (.cons rfl ?_ (.cons rfl ?_ (.cons rfl ?_ (.nil _))))))))))))))))))))))
             all_goals intro L v W5 hd hn ⟨hB, hX, x1, q1, n1, V⟩ K hK
             · go_wp2_with fail
               exact hK _ (.slice (some ⟨N1, 0, none⟩) M M) _ (by simp only [Act.put, pA, pB, pC ]) ⟨hB, hX, x1, q1, n1, V.step 0 rfl⟩
             · go_wp2_with fail
               exact hK _ (.int .i64 (i : Int)) _ (by simp only [Act.put, pA, pB, pC ]) ⟨hB, hX, x1, q1, n1, V.step 1 rfl⟩
             · go_wp2_with fail
               exact hK _ (.int .i64 (j : Int)) _ (by simp only [Act.put, pA, pB, pC ]) ⟨hB, hX, x1, q1, n1, V.step 2 rfl⟩
             · have e1 := V.at (zdq hd 1 rfl) rfl
               have e2 := V.at (zdq hd 2 rfl) rfl
               go_wp2_with fail
               exact hK _ (.int .i64 (Q : Int)) _ (by simp only [Act.put, pA, pB, pC, e1, e2]) ⟨hB, hX, x1, q1, n1, V.step 3 rfl⟩
             · refine wp_load_rowv 98 _ rfl _ rfl 98 _ (B0.kx hX (by simp <;> omega)) _ Try.underlying98 rfl 1 Try.size98 (by simp [bdC_len]) ?_
               exact hK _ _ _ rfl ⟨hB, hX, x1, q1, n1, V.step 4 rfl⟩
             · have e4 := V.at (zdq hd 4 rfl) rfl
               go_wp2_with fail
               exact hK _ (.iface 98 (.agg (bdC (p : Int)).toArray)) _ (by simp only [Act.put, pA, pB, pC, e4]) ⟨hB, hX, x1, q1, n1, V.step 5 rfl⟩
             · go_wp2_with fail
               exact hK _ (.slice (some ⟨N1, 0, none⟩) M M) _ (by simp only [Act.put, pA, pB, pC ]) ⟨hB, hX, x1, q1, n1, V.step 6 rfl⟩
             · go_wp2_with fail
               exact hK _ (.int .i64 (i : Int)) _ (by simp only [Act.put, pA, pB, pC ]) ⟨hB, hX, x1, q1, n1, V.step 7 rfl⟩
             · go_wp2_with fail
               exact hK _ (.int .i64 (j : Int)) _ (by simp only [Act.put, pA, pB, pC ]) ⟨hB, hX, x1, q1, n1, V.step 8 rfl⟩
             · have e7 := V.at (zdq hd 7 rfl) rfl
               have e8 := V.at (zdq hd 8 rfl) rfl
               go_wp2_with fail
               exact hK _ (.int .i64 (Q : Int)) _ (by simp only [Act.put, pA, pB, pC, e7, e8]) ⟨hB, hX, x1, q1, n1, V.step 9 rfl⟩
             · have e6 := V.at (zdq hd 6 rfl) rfl
               have e9 := V.at (zdq hd 9 rfl) rfl
               go_wp2_with fail
               exact hK _ (.pointer (some ⟨N1, Q * 64, none⟩)) _ (by simp only [Act.put, pA, pB, pC, e6, e9]) ⟨hB, hX, x1, q1, n1, V.step 10 rfl⟩
             · have e10 := V.at (zdq hd 10 rfl) rfl
               have s1 := q1 (by
                cases hL : L 20 with
                | false => rfl
                | true => exact absurd rfl (hn 20 _ rfl hL ⟨11, .phase⟩ (by simp) rfl))
               refine wp_load_mid 28 _ rfl _ (Q * 64) e10 _ _ ((s1).rowF (r := M) (c := 64) (by omega)) Try.underlying28 rfl (by rw [zl]; exact Try.size28) ?_
               exact hK _ _ _ rfl ⟨hB, hX, x1, q1, n1, V.step 11 rfl⟩
             · refine wp_load_rowv 98 _ rfl _ rfl 98 _ (B0.kx hX (by simp <;> omega)) _ Try.underlying98 rfl 1 Try.size98 (by simp [bdC_len]) ?_
               exact hK _ _ _ rfl ⟨hB, hX, x1, q1, n1, V.step 12 rfl⟩
             · have e12 := V.at (zdq hd 12 rfl) rfl
               go_wp2_with fail
               exact hK _ (.iface 98 (.agg (bdC (p : Int)).toArray)) _ (by simp only [Act.put, pA, pB, pC, e12]) ⟨hB, hX, x1, q1, n1, V.step 13 rfl⟩
             · refine wp_load_any 28 _ rfl _ rfl 64 28 _ (B3.kx hX (by simp <;> omega)) _ Try.underlying28 rfl Try.size28 ?_
               exact hK _ _ _ rfl ⟨hB, hX, x1, q1, n1, V.step 14 rfl⟩
             · go_wp2_with fail
               exact hK _ (.int .i64 (i : Int)) _ (by simp only [Act.put, pA, pB, pC ]) ⟨hB, hX, x1, q1, n1, V.step 15 rfl⟩
             · refine wp_load_any 28 _ rfl _ rfl 64 28 _ (B5.kx hX (by simp <;> omega)) _ Try.underlying28 rfl Try.size28 ?_
               exact hK _ _ _ rfl ⟨hB, hX, x1, q1, n1, V.step 16 rfl⟩
             · have e13 := V.at (zdq hd 13 rfl) rfl
               have e14 := V.at (zdq hd 14 rfl) rfl
               have e15 := V.at (zdq hd 15 rfl) rfl
               have e16 := V.at (zdq hd 16 rfl) rfl
               go_wp2_with (go_at_call 211; refine (HK1.out _).mono ?_; rintro e wy ⟨rfl, hy⟩)
               exact hK _ (.agg (zb 64 (coX p (F i) (G j) i))) _ (by simp only [Act.put, pA, pB, pC, e13, e14, e15, e16]) ⟨hB.trans (hy.mono hB.size), hX.below hy, (let ⟨g, h⟩ := x1; ⟨g, h.zw hy⟩), (fun h => (q1 h).below hy (q1 h).lt), (fun h => (n1 h).below hy (n1 h).lt), V.step 17 rfl⟩
             · have e5 := V.at (zdq hd 5 rfl) rfl
               have e11 := V.at (zdq hd 11 rfl) rfl
               have e17 := V.at (zdq hd 17 rfl) rfl
               go_wp2_with (go_at_call 212; refine (HK2.out _).mono ?_; rintro e wy ⟨rfl, hy⟩)
               exact hK _ (.agg (zb 64 (addK p (O Q) (coX p (F i) (G j) i) 1))) _ (by simp only [Act.put, pA, pB, pC, e5, e11, e17]) ⟨hB.trans (hy.mono hB.size), hX.below hy, (let ⟨g, h⟩ := x1; ⟨g, h.zw hy⟩), (fun h => (q1 h).below hy (q1 h).lt), (fun h => (n1 h).below hy (n1 h).lt), V.step 18 rfl⟩
             · have e0 := V.at (zdq hd 0 rfl) rfl
               have e3 := V.at (zdq hd 3 rfl) rfl
               go_wp2_with fail
               exact hK _ (.pointer (some ⟨N1, Q * 64, none⟩)) _ (by simp only [Act.put, pA, pB, pC, e0, e3]) ⟨hB, hX, x1, q1, n1, V.step 19 rfl⟩
             · have e19 := V.at (zdq hd 19 rfl) rfl
               have e18 := V.at (zdq hd 18 rfl) rfl
               obtain ⟨gz, hk, hg⟩ : ∃ gz, Blk W5 (N1) (M * 64) 28 (fl 64 gz) ∧ updR gz (Q) (addK p (O Q) (coX p (F i) (G j) i) 1) = updR O (Q) (addK p (O Q) (coX p (F i) (G j) i) 1) := by
                cases hL : L 20 with
                | false => exact ⟨_, q1 hL, rfl⟩
                | true => exact ⟨_, n1 hL, updR_twice _ _ _⟩
               refine wp_store_rowF 28 _ _ rfl _ (Q) 64 M (addK p (O Q) (coX p (F i) (G j) i) 1) e19 e18 28 gz hk (by omega) (by decide) Try.size28 ?_
               rw [hg]
               exact hK _ undef _ rfl ⟨zr hB (by omega) _, hX.row (by simp) _, ⟨_, hk.row _⟩, (fun h => absurd h (by simp [setL])), (fun _ => hk.row _), V.skip 20 rfl⟩
           · intro L v W5 hL ⟨hB, hX, x1, q1, n1, V⟩
             have r1 := n1 (hL 20 (by decide))
             have e0 := V.at (hL 0 (by decide)) rfl
             have e1 := V.at (hL 1 (by decide)) rfl
             have e2 := V.at (hL 2 (by decide)) rfl
             have e3 := V.at (hL 3 (by decide)) rfl
             have e4 := V.at (hL 4 (by decide)) rfl
             have e5 := V.at (hL 5 (by decide)) rfl
             have e6 := V.at (hL 6 (by decide)) rfl
             have e7 := V.at (hL 7 (by decide)) rfl
             have e8 := V.at (hL 8 (by decide)) rfl
             have e9 := V.at (hL 9 (by decide)) rfl
             have e10 := V.at (hL 10 (by decide)) rfl
             have e11 := V.at (hL 11 (by decide)) rfl
             have e12 := V.at (hL 12 (by decide)) rfl
             have e13 := V.at (hL 13 (by decide)) rfl
             have e14 := V.at (hL 14 (by decide)) rfl
             have e15 := V.at (hL 15 (by decide)) rfl
             have e16 := V.at (hL 16 (by decide)) rfl
             have e17 := V.at (hL 17 (by decide)) rfl
             have e18 := V.at (hL 18 (by decide)) rfl
             have e19 := V.at (hL 19 (by decide)) rfl
             clear hL x1 q1 n1 V
             replace B0 := B0.kx hX (by simp <;> omega)
             replace B3 := B3.kx hX (by simp <;> omega)
             replace B5 := B5.kx hX (by simp <;> omega)
             clear hX
             simp only [Exit.then, e0, e1, e2, e3, e4, e5, e6, e7, e8, e9, e10, e11, e12, e13, e14, e15, e16, e17, e18, e19]
             clear e0 e1 e2 e3 e4 e5 e6 e7 e8 e9 e10 e11 e12 e13 e14 e15 e16 e17 e18 e19
             replace B1 := r1
             clear r1
             replace hb := hB
             clear hB
             clear hbase lt_B0 lt_B1 lt_B3 lt_B5
             go_wp2_with fail
             go_roundw
             case rel => exact ⟨j + 1, _, by go_num, by omega, Lib.hid (by rw [HK.out, ← hO.out, ← HQ.out]), Lib.hid (fun b hb2 => by
              by_cases e : b = j
              · subst e; exact HQ9.out
              · exact hqI.out b (by omega)), hb, B0, hlw, B1, hcw, hcl, B3⟩
             case measure => simp [intOf] <;> omega
         · have HK1 := Lib.hid (HAN.out i hi j hgp)
           clear hzF hzG hgp
           go_upto_region 9 with (first | (refine zla (.tmp 9) B3 Try.underlying28 Try.size28 ?_) | (refine zlg rfl 28 (.tmp 11) rfl _ rfl 64 28 _ B5 _ Try.underlying28 rfl Try.size28 ?_) | rw [← z64])
           clear heqF heqG hgd
           have lt_B0 : (w.heap.size) < W4.heap.size := B0.lt
           have lt_B1 : (N1) < W4.heap.size := B1.lt
           have lt_B3 : (N2) < W4.heap.size := B3.lt
           have lt_B5 : (N3) < W4.heap.size := B5.lt
           have hbase : w.heap.size ≤ W4.heap.size := hb.size
           refine zq Try.mixed (by kernel_rfl) (by kernel_rfl) (fun v => by (simp only [frL, Act.put, pA, pB, pC, Nat.reduceAdd, Nat.zero_add]; exact rfl))
            (fun L v W5 => Below w.heap.size w W5 ∧ W4.heap.size ≤ W5.heap.size ∧ Row W5 (w.heap.size) 98 (bdC (p : Int)).toArray ∧ (∃ g, Blk W5 (N1) (M * 64) 28 (g)) ∧ (L 20 = false → Blk W5 (N1) (M * 64) 28 (fl 64 O)) ∧ (L 20 = true → Blk W5 (N1) (M * 64) 28 (fl 64 (updR O Q (F i)))) ∧ Blk W5 (N2) 64 28 (F i) ∧ Blk W5 (N3) 64 28 (G j) ∧ (L 17 = true → False) ∧ VF L v [some (.slice (some ⟨N1, 0, none⟩) M M), some (.int .i64 (i : Int)), some (.int .i64 (j : Int)), some (.int .i64 (Q : Int)), some (.agg (bdC (p : Int)).toArray), some (.iface 98 (.agg (bdC (p : Int)).toArray)), some (.slice (some ⟨N1, 0, none⟩) M M), some (.int .i64 (i : Int)), some (.int .i64 (j : Int)), some (.int .i64 (Q : Int)), some (.pointer (some ⟨N1, Q * 64, none⟩)), some (.agg (zb 64 (O Q))), some (.agg (bdC (p : Int)).toArray), some (.iface 98 (.agg (bdC (p : Int)).toArray)), some (.agg (zb 64 (F i))), some (.int .i64 (i : Int)), some (.agg (zb 64 (G j))), none, some (.agg (zb 64 (F i))), some (.pointer (some ⟨N1, Q * 64, none⟩)), none]) ?_ ?_ ?_
           · intro v hv0
             exact ⟨hb.drew, Nat.le_refl _, B0.drew, ⟨_, B1.drew⟩, (fun _ => B1.drew), (fun h => by cases h), B3.drew, B5.drew, (fun h => by cases h), VF.start⟩
           · refine (.cons rfl ?_ (.cons rfl ?_ (.cons rfl ?_ (.cons rfl ?_ (.cons rfl ?_ (.cons rfl ?_ (.cons rfl ?_ (.cons rfl ?_ (.cons rfl ?_ (.cons rfl ?_ (.cons rfl ?_ (.cons rfl ?_ (.cons rfl ?_ (.cons rfl ?_ (.cons rfl ?_ (.cons rfl ?_ (.cons rfl ?_ (.cons rfl ?_ (.cons rfl ?_ (.cons rfl ?_ (.cons rfl ?_ (.nil _))))))))))))))))))))))
             all_goals intro L v W5 hd hn ⟨hB, hz, s0, x1, q1, n1, s2, s3, h17, V⟩ K hK
             · go_wp2_with fail
               exact hK _ (.slice (some ⟨N1, 0, none⟩) M M) _ (by simp only [Act.put, pA, pB, pC ]) ⟨hB, hz, s0, x1, q1, n1, s2, s3, h17, V.step 0 rfl⟩
             · go_wp2_with fail
               exact hK _ (.int .i64 (i : Int)) _ (by simp only [Act.put, pA, pB, pC ]) ⟨hB, hz, s0, x1, q1, n1, s2, s3, h17, V.step 1 rfl⟩
             · go_wp2_with fail
               exact hK _ (.int .i64 (j : Int)) _ (by simp only [Act.put, pA, pB, pC ]) ⟨hB, hz, s0, x1, q1, n1, s2, s3, h17, V.step 2 rfl⟩
             · have e1 := V.at (zdq hd 1 rfl) rfl
               have e2 := V.at (zdq hd 2 rfl) rfl
               go_wp2_with fail
               exact hK _ (.int .i64 (Q : Int)) _ (by simp only [Act.put, pA, pB, pC, e1, e2]) ⟨hB, hz, s0, x1, q1, n1, s2, s3, h17, V.step 3 rfl⟩
             · refine wp_load_rowv 98 _ rfl _ rfl 98 _ s0 _ Try.underlying98 rfl 1 Try.size98 (by simp [bdC_len]) ?_
               exact hK _ _ _ rfl ⟨hB, hz, s0, x1, q1, n1, s2, s3, h17, V.step 4 rfl⟩
             · have e4 := V.at (zdq hd 4 rfl) rfl
               go_wp2_with fail
               exact hK _ (.iface 98 (.agg (bdC (p : Int)).toArray)) _ (by simp only [Act.put, pA, pB, pC, e4]) ⟨hB, hz, s0, x1, q1, n1, s2, s3, h17, V.step 5 rfl⟩
             · go_wp2_with fail
               exact hK _ (.slice (some ⟨N1, 0, none⟩) M M) _ (by simp only [Act.put, pA, pB, pC ]) ⟨hB, hz, s0, x1, q1, n1, s2, s3, h17, V.step 6 rfl⟩
             · go_wp2_with fail
               exact hK _ (.int .i64 (i : Int)) _ (by simp only [Act.put, pA, pB, pC ]) ⟨hB, hz, s0, x1, q1, n1, s2, s3, h17, V.step 7 rfl⟩
             · go_wp2_with fail
               exact hK _ (.int .i64 (j : Int)) _ (by simp only [Act.put, pA, pB, pC ]) ⟨hB, hz, s0, x1, q1, n1, s2, s3, h17, V.step 8 rfl⟩
             · have e7 := V.at (zdq hd 7 rfl) rfl
               have e8 := V.at (zdq hd 8 rfl) rfl
               go_wp2_with fail
               exact hK _ (.int .i64 (Q : Int)) _ (by simp only [Act.put, pA, pB, pC, e7, e8]) ⟨hB, hz, s0, x1, q1, n1, s2, s3, h17, V.step 9 rfl⟩
             · have e6 := V.at (zdq hd 6 rfl) rfl
               have e9 := V.at (zdq hd 9 rfl) rfl
               go_wp2_with fail
               exact hK _ (.pointer (some ⟨N1, Q * 64, none⟩)) _ (by simp only [Act.put, pA, pB, pC, e6, e9]) ⟨hB, hz, s0, x1, q1, n1, s2, s3, h17, V.step 10 rfl⟩
             · have e10 := V.at (zdq hd 10 rfl) rfl
               have s1 := q1 (by
                cases hL : L 20 with
                | false => rfl
                | true => exact absurd rfl (hn 20 _ rfl hL ⟨11, .phase⟩ (by simp) rfl))
               refine wp_load_mid 28 _ rfl _ (Q * 64) e10 _ _ ((s1).rowF (r := M) (c := 64) (by omega)) Try.underlying28 rfl (by rw [zl]; exact Try.size28) ?_
               exact hK _ _ _ rfl ⟨hB, hz, s0, x1, q1, n1, s2, s3, h17, V.step 11 rfl⟩
             · refine wp_load_rowv 98 _ rfl _ rfl 98 _ s0 _ Try.underlying98 rfl 1 Try.size98 (by simp [bdC_len]) ?_
               exact hK _ _ _ rfl ⟨hB, hz, s0, x1, q1, n1, s2, s3, h17, V.step 12 rfl⟩
             · have e12 := V.at (zdq hd 12 rfl) rfl
               go_wp2_with fail
               exact hK _ (.iface 98 (.agg (bdC (p : Int)).toArray)) _ (by simp only [Act.put, pA, pB, pC, e12]) ⟨hB, hz, s0, x1, q1, n1, s2, s3, h17, V.step 13 rfl⟩
             · refine zlc s2 Try.underlying28 Try.size28 ?_
               exact hK _ _ _ rfl ⟨hB, hz, s0, x1, q1, n1, s2, s3, h17, V.step 14 rfl⟩
             · go_wp2_with fail
               exact hK _ (.int .i64 (i : Int)) _ (by simp only [Act.put, pA, pB, pC ]) ⟨hB, hz, s0, x1, q1, n1, s2, s3, h17, V.step 15 rfl⟩
             · refine zlc s3 Try.underlying28 Try.size28 ?_
               exact hK _ _ _ rfl ⟨hB, hz, s0, x1, q1, n1, s2, s3, h17, V.step 16 rfl⟩
             · have e13 := V.at (zdq hd 13 rfl) rfl
               have e14 := V.at (zdq hd 14 rfl) rfl
               have e15 := V.at (zdq hd 15 rfl) rfl
               have e16 := V.at (zdq hd 16 rfl) rfl
               go_wp2_with (go_at_call 211; refine (HK1.out _).mono ?_; rintro e wy ⟨rfl, hy⟩)
               first | exact ⟨rfl, rfl, hB.trans (hy.mono hB.size)⟩ | (go_wp2_with fail; exact ⟨rfl, rfl, hB.trans (hy.mono hB.size)⟩)
             · exact (h17 (zdq hd 17 rfl)).elim
             · exact (h17 (zdq hd 17 rfl)).elim
             · exact (h17 (zdq hd 17 rfl)).elim
           · intro L v W5 hL ⟨hB, hz, s0, x1, q1, n1, s2, s3, h17, V⟩
             exact (h17 (hL 17 (by decide))).elim
     · have hjI : ¬ (j : Int) < (B : Int) := by omega
       obtain rfl : j = B := by omega
       go_wp2_with fail
       go_roundw
       case rel => exact ⟨i + 1, O, by go_num, by omega, Lib.hid (by rw [HS.out, hO.out]), Lib.hid (fun a ha => by
        by_cases e : a = i
        · subst e; exact hqI.out
        · exact hqO.out a (by omega)), hb, B0, hlw, B1⟩
       case measure => simp [intOf] <;> omega
  · have hiI : ¬ (i : Int) < (A : Int) := by omega
    obtain rfl : i = A := by omega
    exact absurd hqO.out HGD.out
end Go.Proofs.Ytelgefgphhebnaa
end
section
namespace Go.Proofs.Ytelgefgphhebnaa
open Go Go.RowKit
set_option linter.unusedVariables false
/-- a list whose block lies before top -/
def SlU (w : World) (base top : Nat) (e : TypeId) (size : Nat) (v : Value) (cs : List (List Value)) : Prop := SlT w base top e size v cs ∧ top ≤ w.heap.size
theorem SlU.lt {w : World} {base top : Nat} {e : TypeId} {size : Nat} {v : Value} {cs : List (List Value)} (h : SlU w base top e size v cs) : top ≤ w.heap.size := h.2
theorem SlU.alloc {w : World} {base top : Nat} {e : TypeId} {size : Nat} {v : Value} {cs : List (List Value)} (h : SlU w base top e size v cs) (o : Obj) : SlU (w.alloc o) base top e size v cs := ⟨h.1.alloc o, by have := h.2; simp; omega⟩
theorem SlU.drew {w : World} {base top : Nat} {e : TypeId} {size : Nat} {v : Value} {cs : List (List Value)} (h : SlU w base top e size v cs) : SlU w.drew base top e size v cs := ⟨h.1.drew, h.2⟩
theorem SlU.below {w w' : World} {base top : Nat} {e : TypeId} {size : Nat} {v : Value} {cs : List (List Value)} (h : SlU w base top e size v cs) (hb : Below w.heap.size w w') (_ : top ≤ w.heap.size) : SlU w' base top e size v cs := ⟨h.1.below hb h.1.lt, Nat.le_trans h.2 hb.size⟩
theorem SlU.zw {w w' : World} {base top : Nat} {e : TypeId} {size : Nat} {v : Value} {cs : List (List Value)} (h : SlU w base top e size v cs) (hb : Below w.heap.size w w') : SlU w' base top e size v cs := SlU.below h hb (SlU.lt h)
theorem SlU.rowOther {w : World} {base top : Nat} {e : TypeId} {size : Nat} {v : Value} {cs : List (List Value)} (h : SlU w base top e size v cs) {k : Nat} {xs : Array Value} (hk : top ≤ k) : SlU (w.setRow k xs) base top e size v cs := ⟨h.1.rowOther (.inr hk), by have := h.2; simpa [World.setRow] using this⟩
theorem SlU.setOther {w : World} {base top : Nat} {e : TypeId} {size : Nat} {v x : Value} {cs : List (List Value)} (h : SlU w base top e size v cs) {a : Addr} (ha : top ≤ a.block) : SlU (w.setCell a x) base top e size v cs := ⟨h.1.setOther (.inr ha), by have := h.2; simpa using this⟩

end Go.Proofs.Ytelgefgphhebnaa
end
section
namespace Go.Proofs.Ytelgefgphhebnaa
set_option linter.unusedVariables false
/-- numbers modulo p at all places, and 0 from 64 on -/
def cln (p : Nat) (f : Nat → Nat) : Prop := (∀ k, f k < p) ∧ ∀ k, 64 ≤ k → f k = 0
/-- v, less the multiple of w that leaves 0 at the lead of w -/
def clr (p : Nat) (v w : Nat → Nat) : Nat → Nat := addK p v w (-(v (deg w).toNat : Int))
theorem clr_at (p : Nat) {v w : Nat → Nat} {t : Nat} (h : deg w = (t : Int)) (k : Nat) : clr p v w k = (((v k : Int) - (v t : Int) * (w k : Int)) % (p : Int)).toNat := by
 unfold clr addK
 rw [h, Int.toNat_natCast, Int.neg_mul, ← Int.sub_eq_add_neg]
theorem clr_cast {p : Nat} (hp : 0 < p) {v w : Nat → Nat} {t : Nat} (h : deg w = (t : Int)) (k : Nat) : ((clr p v w k : Nat) : Int) = ((v k : Int) - (v t : Int) * (w k : Int)) % (p : Int) := by
 rw [clr_at p h k, Int.toNat_of_nonneg (Int.emod_nonneg _ (by omega))]
theorem clr_cln {p : Nat} (hp : 0 < p) {v w : Nat → Nat} (hv : ∀ k, 64 ≤ k → v k = 0) (hw : cln p w) : cln p (clr p v w) := by
 refine ⟨fun k => ?_, fun k hk => ?_⟩
 · unfold clr addK
   have h1 := Int.emod_lt_of_pos ((v k : Int) + -(v (deg w).toNat : Int) * (w k : Int)) (show (0 : Int) < (p : Int) by omega)
   have h2 := Int.emod_nonneg ((v k : Int) + -(v (deg w).toNat : Int) * (w k : Int)) (show (p : Int) ≠ 0 by omega)
   omega
 · unfold clr addK
   rw [hv k hk, hw.2 k hk]
   simp
/-- the degrees s, the rows D of them -/
def Sy (p d : Nat) (s : List Nat) (D : Nat → Nat → Nat) : Prop := s.Nodup ∧ ∀ t, t ∈ s → t < d ∧ deg (D t) = (t : Int) ∧ cln p (D t) ∧ D t t = 1 ∧ ∀ u, u ∈ s → u ≠ t → D t u = 0
/-- the rows behind a new one -/
def nwD (p n : Nat) (x : Nat → Nat) (D : Nat → Nat → Nat) : Nat → Nat → Nat := fun t => if t = n then x else clr p (D t) x
theorem Sy.step {p d n : Nat} (hp : 2 ≤ p) {s : List Nat} {D : Nat → Nat → Nat} (h : Sy p d s D) {x : Nat → Nat} (hx : cln p x) (hd : deg x = (n : Int)) (hn : n < d) (hd4 : d ≤ 64) (h1 : x n = 1) (h0 : ∀ t, t ∈ s → x t = 0) : n ∉ s ∧ Sy p d (s ++ [n]) (nwD p n x D) := by
 have hns : n ∉ s := fun hs => by have := h0 n hs; omega
 refine ⟨hns, ?_, ?_⟩
 · rw [List.nodup_append]
   refine ⟨h.1, by simp, ?_⟩
   intro a ha b hb e
   rw [List.mem_singleton] at hb
   subst e; subst hb
   exact hns ha
 · intro t ht
   by_cases e : t = n
   · subst e
     unfold nwD
     rw [if_pos rfl]
     refine ⟨hn, hd, hx, h1, fun u hu hut => ?_⟩
     rcases List.mem_append.1 hu with hu | hu
     · exact h0 u hu
     · rw [List.mem_singleton] at hu; exact absurd hu hut
   · have ht2 : t ∈ s := by
      rcases List.mem_append.1 ht with ht | ht
      · exact ht
      · rw [List.mem_singleton] at ht; exact absurd ht e
     obtain ⟨a1, a2, a3, a4, a5⟩ := h.2 t ht2
     have key : ∀ k, ((clr p (D t) x k : Nat) : Int) = ((D t k : Int) - (D t n : Int) * (x k : Int)) % (p : Int) := fun k => clr_cast (by omega) hd k
     have own : ∀ k, (x k = 0 ∨ D t n = 0) → clr p (D t) x k = D t k := by
      intro k hk
      have h3 := key k
      have h4 : (D t n : Int) * (x k : Int) = 0 := by
       rcases hk with hk | hk
       · rw [hk]; simp
       · rw [hk]; simp
      rw [h4, Int.sub_zero, Int.emod_eq_of_lt (by omega) (by have := a3.1 k; omega)] at h3
      exact Int.ofNat.inj h3
     unfold nwD
     rw [if_neg e]
     refine ⟨a1, ?_, clr_cln (by omega) a3.2 hx, ?_, ?_⟩
     · -- the degree stays
       obtain ⟨b1, b2, b3⟩ := deg_top a2
       obtain ⟨c1, c2, c3⟩ := deg_top hd
       have ht1 : clr p (D t) x t = D t t := own t (.inl (h0 t ht2))
       have hz : ∀ k, t < k → k < 64 → clr p (D t) x k = 0 := by
        intro k hk1 hk2
        by_cases hkn : n < k
        · rw [own k (.inl (c3 k hkn hk2))]; exact b3 k hk1 hk2
        · by_cases htn : t < n
          · rw [own k (.inr (b3 n htn (by omega)))]; exact b3 k hk1 hk2
          · exfalso; omega
       have hle : deg (clr p (D t) x) ≤ (t : Int) := deg_le (by omega) (fun k hk1 hk2 => hz k (by omega) hk2)
       rcases deg_spec (clr p (D t) x) with ⟨_, hall⟩ | ⟨e1, e2, e3, e4, e5⟩
       · exact absurd (hall t b1) (by rw [ht1, a4]; decide)
       · rw [e3] at hle ⊢
         by_cases he : e1 < t
         · exact absurd (e5 t he b1) (by rw [ht1, a4]; decide)
         · omega
     · rw [own t (.inl (h0 t ht2))]; exact a4
     · intro u hu hut
       rcases List.mem_append.1 hu with hu | hu
       · rw [own u (.inl (h0 u hu))]; exact a5 u hu hut
       · rw [List.mem_singleton] at hu
         subst hu
         have h3 := key u
         rw [h1, Int.natCast_one, Int.mul_one, Int.sub_self] at h3
         simpa using h3
end Go.Proofs.Ytelgefgphhebnaa
end
section
namespace Go.Proofs.Ytelgefgphhebnaa
open Go Go.RowKit
set_option linter.unusedVariables false
set_option linter.unusedSimpArgs false
theorem c7_fld {p : Int} {Va Ua : List (Nat → Nat)} (h : c7 p Va Ua = 0) : ∃ n : Nat, p = (n : Int) ∧ (n = 2 ∨ n = 3 ∨ n = 5 ∨ n = 7) ∧ (∀ x, x ∈ Va → ∀ k, k < 64 → x k < n) ∧ (∀ x, x ∈ Ua → ∀ k, k < 64 → x k < n) ∧ Va.length ≤ 7 ∧ Ua.length ≤ 7 := by
 obtain ⟨h1, h2, h3, h4⟩ := c7_zero h
 obtain ⟨a1, a2⟩ := codeL_zero h1
 obtain ⟨_, b2⟩ := codeL_zero h2
 obtain ⟨n, hn, _, _⟩ := okP_nat a1
 refine ⟨n, hn, ?_, fun x hx k hk => ?_, fun x hx k hk => ?_, h3, h4⟩
 · have := okP_cases a1; omega
 · have := okA_lt (a2 x hx) hk; omega
 · have := okA_lt (b2 x hx) hk; omega
theorem take_rows (R : Nat → Nat → Nat) {q M : Nat} (h : q ≤ M) : ((List.range M).map R).take q = (List.range q).map R := by
 rw [← List.map_take, List.take_range, Nat.min_eq_left h]
attribute [local irreducible] deg addK okA
end Go.Proofs.Ytelgefgphhebnaa
end
section
namespace Go.Proofs.Ytelgefgphhebnaa
open Go Go.RowKit
set_option linter.unusedVariables false
set_option linter.unusedSimpArgs false
theorem One.setc {w : World} {b : Nat} {t : TypeId} {v x : Value} (h : One w b t v) : One (w.setCell ⟨b, 0, none⟩ x) b t x := by
 unfold One at *
 rw [heap_setCell_same _ _ _ _ _ _ h]; rfl
end Go.Proofs.Ytelgefgphhebnaa
end
section
namespace Go.Proofs.Ytelgefgphhebnaa
open Go Go.RowKit
set_option linter.unusedVariables false
set_option linter.unusedSimpArgs false
/-- the product of two actions -/
def cmR (p : Nat) (Va Ua : List (Nat → Nat)) : Nat → Nat → Nat := coR p (zrow Va) (zrow Ua) Ua.length Va.length
def cmM (Va Ua : List (Nat → Nat)) : Nat := Va.length + Ua.length
def cmL (p : Nat) (Va Ua : List (Nat → Nat)) : List (Nat → Nat) := (List.range (skN (cmR p Va Ua) (cmM Va Ua) + 1).toNat).map (cmR p Va Ua)
/-- no product is refused -/
def cmG (p : Nat) (Va Ua : List (Nat → Nat)) : Prop := ∀ i, i < Va.length → ∀ j, j < Ua.length → okP2 p (zrow Va) (zrow Ua) i j
open Classical in
noncomputable def cpV (p : Int) (Va Ua : List (Nat → Nat)) : List (Nat → Nat) × Int := if c7 p Va Ua = 0 then (if cmG p.toNat Va Ua then (cmL p.toNat Va Ua, 0) else ([], 3)) else ([], c7 p Va Ua)
theorem cpV_0 {n : Nat} {Va Ua : List (Nat → Nat)} (h : c7 (n : Int) Va Ua = 0) (h2 : cmG n Va Ua) : cpV (n : Int) Va Ua = (cmL n Va Ua, 0) := by unfold cpV; rw [if_pos h, Int.toNat_natCast, if_pos h2]
theorem cpV_3 {n : Nat} {Va Ua : List (Nat → Nat)} (h : c7 (n : Int) Va Ua = 0) (h2 : ¬ cmG n Va Ua) : cpV (n : Int) Va Ua = ([], 3) := by unfold cpV; rw [if_pos h, Int.toNat_natCast, if_neg h2]
theorem cpV_n {p : Int} {Va Ua : List (Nat → Nat)} (h : c7 p Va Ua ≠ 0) : cpV p Va Ua = ([], c7 p Va Ua) := by unfold cpV; rw [if_neg h]
theorem cmL_len (p : Nat) (Va Ua : List (Nat → Nat)) : (cmL p Va Ua).length ≤ cmM Va Ua := by
 unfold cmL; rw [List.length_map, List.length_range]
 have := (skN_bounds (cmR p Va Ua) (cmM Va Ua)).2
 omega
theorem cpV_len (p : Int) (Va Ua : List (Nat → Nat)) : (cpV p Va Ua).1.length ≤ 14 := by
 by_cases h : c7 p Va Ua = 0
 · obtain ⟨n, rfl, _, _, _, l1, l2⟩ := c7_fld h
   by_cases h2 : cmG n Va Ua
   · rw [cpV_0 h h2]
     have := cmL_len n Va Ua
     unfold cmM at this
     show (cmL n Va Ua).length ≤ 14
     omega
   · rw [cpV_3 h h2]; exact Nat.zero_le _
 · rw [cpV_n h]; exact Nat.zero_le _
theorem cmL_trim {w : World} {base n c : Nat} {a : Option Addr} {Va Ua : List (Nat → Nat)} (h : SlL w base 28 64 (.slice a (cmM Va Ua) c) (plR ((List.range (cmM Va Ua)).map (cmR n Va Ua)))) :
 SlL w base 28 64 (.slice a (skN (cmR n Va Ua) (cmM Va Ua) + 1).toNat c) (plR (cmL n Va Ua)) := by
 have hq : (skN (cmR n Va Ua) (cmM Va Ua) + 1).toNat ≤ cmM Va Ua := by have := (skN_bounds (cmR n Va Ua) (cmM Va Ua)).2; omega
 have := slL_take h (by simp) (q := (skN (cmR n Va Ua) (cmM Va Ua) + 1).toNat) (by rw [List.length_map, List.length_range]; exact hq)
 rw [take_rows _ hq] at this
 exact this
attribute [irreducible] cpV cmL
attribute [local irreducible] deg addK okA cmR cmM cmG
theorem results_tc {P : Program} {fn : Func} {p q : Tmp} {ty2 : TypeId} (h : fn.results = #[.tmp p, .cell q ty2]) (tmps : Array Value) (w : World) (u : Value) (hp : tmps.getD p undef = u) (b2 : Nat) (t2 : TypeId) (v : Value)
 (hq : tmps.getD q undef = .pointer (some ⟨b2, 0, none⟩)) (hb2 : One w b2 t2 v) (k : IntKind) (hu2 : P.underlying ty2 = some (.int k)) :
 (results fn tmps).run P w = .ok (.tuple #[u, v]) w := by
 have hp' : tmps[p]?.getD undef = u := by simpa using hp
 have hq' : tmps[q]?.getD undef = .pointer (some ⟨b2, 0, none⟩) := by simpa using hq
 have hc := hb2.cell
 have hagg : (isAgg ty2).run P w = .ok false w := by
  unfold isAgg
  rw [Sem.run_bind, run_underlying hu2 w]
  rfl
 have hl : (loadVar ty2 ⟨b2, 0, none⟩).run P w = .ok v w := by
  simp [loadVar, Sem.run_bind, hagg, go_sem, hc]
 simp [results, h, hp', hq', asAddr, hl]
set_option maxRecDepth 100000 in
set_option maxHeartbeats 1600000 in
theorem door_caughtP (b : Nat) (x : Int) (w : World) (hb : One w b 2 (.int .i64 x)) :
 CallsD Try.prog 127 #[.pointer (some ⟨b, 0, none⟩)] (.panicking ({ v := Value.iface 130 (.int .i64 3), recovered := false } :: [])) w fun e u' w' =>
  e = .returned (.tuple #[]) ∧ u' = .panicking ({ v := Value.iface 130 (.int .i64 3), recovered := true } :: []) ∧ w' = w.setCell ⟨b, 0, none⟩ (.int .i64 3) := by
 have hta : ∀ w : World, (Instr.typeAssert (.iface 130 (.int .i64 3)) 20 130 false).run Try.prog w = .ok (.int .i64 3) w := fun _ => by kernel_rfl
 have hc := hb.cell
 have hz := hb.frozen 0
 refine callsD_of_wpS Try.func127 rfl fun c₀ cs hu => ?_
 apply wpS_seq
 apply wpS_region
 simp [wpOpsS, go_sem, recoverD, hu, Try.ntmps127, Exit.thenS]
 refine wpS_of_wp ?_
 show Code.wp _ _ _ { tmps := #[.pointer (some ⟨b, 0, none⟩), Value.iface 130 (.int .i64 3), Value.iface 130 (.int .i64 3), undef, undef, undef, undef], defers := [] } _
 go_wp2_with fail
 cases c₀
 simp_all [bodyPostS, results, Try.results127]
set_option maxRecDepth 100000 in
set_option maxHeartbeats 1600000 in
theorem door_idleP (b : Nat) (w : World) :
 CallsD Try.prog 127 #[.pointer (some ⟨b, 0, none⟩)] .returning w fun e u' w' => e = .returned (.tuple #[]) ∧ u' = .returning ∧ w' = w := by
 refine callsD_of_wpS Try.func127 rfl fun c₀ cs hu => ?_
 apply wpS_seq
 apply wpS_region
 simp [wpOpsS, go_sem, recoverD, hu, Try.ntmps127, Exit.thenS]
 refine wpS_of_wp ?_
 show Code.wp _ _ _ { tmps := #[.pointer (some ⟨b, 0, none⟩), .nilIface, .nilIface, undef, undef, undef, undef], defers := [] } _
 go_wp2_with fail
 cases c₀
 simp_all [bodyPostS, results, Try.results127]
set_option maxRecDepth 100000 in
set_option maxHeartbeats 1600000 in
theorem door_Compose (c1 c2 c3 : Value) (R : List (Nat → Nat)) (w : World) (H : ∀ W, Below w.heap.size w W → Calls Try.prog 87 #[c1, c2, c3] W fun e w' => ∃ v, e = .returned v ∧ SlL w' W.heap.size 28 64 v (plR R) ∧ Below W.heap.size W w') :
 Calls Try.prog 86 #[.func (.func 87) #[] #[c1, c2, c3]] w fun e w' => ∃ v, e = .returned (.tuple #[v, .int .i64 0]) ∧ SlL w' w.heap.size 28 64 v (plR R) ∧ Below w.heap.size w w' := by
 have HH := Lib.hid H
 clear H
 have hmf : ∀ (fn : Fn) (first cap : Array Value) (w : World), (Instr.makeFunc fn first cap).run Try.prog w = .ok (.func fn first cap) w := fun _ _ _ _ => rfl
 go_enter_defers Try.func86, Try.ntmps86
 go_upto_region 1 with (fail)
 obtain ⟨W1, hwo⟩ : ∃ v : World, v = (w.alloc (.cells #[.int .i64 0] 2)) := ⟨_, rfl⟩
 have B1 : One W1 (w.heap.size) 2 (.int .i64 0) := by subst hwo; exact One.new w 2 (.int .i64 0)
 have hb : Below w.heap.size w W1 := by subst hwo; exact (Below.refl _ _).alloc (Nat.le_refl _) _
 rw [← hwo]
 clear hwo
 go_upto_region 2 with (fail)
 clear hmf
 have lt1 := B1.lt
 go_wp2_with (first | (go_at_call 87; refine (HH.out _ hb).mono ?_; rintro e W2 ⟨v, rfl, hS, hW2⟩; replace B1 := B1.zw hW2; replace hb := hb.trans (hW2.mono hb.size); have cc1 := B1.cell; have z1 := B1.frozen 0))
 have D1 : One (W2.setCell ⟨w.heap.size, 0, none⟩ (.int .i64 0)) (w.heap.size) 2 (.int .i64 0) := B1.setc
 have hb2 : Below w.heap.size w (W2.setCell ⟨w.heap.size, 0, none⟩ (.int .i64 0)) := hb.setCell (by dsimp only; omega) _
 have hS2 := (hS.setOther (x := .int .i64 0) (a := ⟨w.heap.size, 0, none⟩) (by dsimp only; omega)).base (base' := w.heap.size) (by omega)
 refine leaves_cons (f := 127) (args := #[.pointer (some ⟨w.heap.size, 0, none⟩)]) (by simp) (by simp [go_sem]) ?_
 refine (door_idleP (w.heap.size) _).mono ?_
 rintro e u' w'' ⟨rfl, rfl, rfl⟩
 exact ⟨_, results_tc rfl _ _ v rfl _ 2 (.int .i64 0) rfl D1 .i64 Try.underlying2, _, rfl, hS2, hb2⟩
set_option maxRecDepth 100000 in
set_option maxHeartbeats 1600000 in
theorem door_ComposeN (c1 c2 c3 : Value) (R : List (Nat → Nat)) (w : World) (H : ∀ W, Below w.heap.size w W → Calls Try.prog 87 #[c1, c2, c3] W fun e w' => e = .panicked [{ v := .iface 130 (.int .i64 3), recovered := false }] ∧ Below W.heap.size W w') :
 Calls Try.prog 86 #[.func (.func 87) #[] #[c1, c2, c3]] w fun e w' => e = .returned (.tuple #[.slice none 0 0, .int .i64 3]) ∧ Below w.heap.size w w' := by
 have HH := Lib.hid H
 clear H
 have hmf : ∀ (fn : Fn) (first cap : Array Value) (w : World), (Instr.makeFunc fn first cap).run Try.prog w = .ok (.func fn first cap) w := fun _ _ _ _ => rfl
 go_enter_defers Try.func86, Try.ntmps86
 go_upto_region 1 with (fail)
 obtain ⟨W1, hwo⟩ : ∃ v : World, v = (w.alloc (.cells #[.int .i64 0] 2)) := ⟨_, rfl⟩
 have B1 : One W1 (w.heap.size) 2 (.int .i64 0) := by subst hwo; exact One.new w 2 (.int .i64 0)
 have hb : Below w.heap.size w W1 := by subst hwo; exact (Below.refl _ _).alloc (Nat.le_refl _) _
 rw [← hwo]
 clear hwo
 go_upto_region 2 with (fail)
 clear hmf
 have lt1 := B1.lt
 go_wp2_with (first | (go_at_call 87; refine (HH.out _ hb).mono ?_; rintro e W2 ⟨rfl, hW2⟩; replace B1 := B1.zw hW2; replace hb := hb.trans (hW2.mono hb.size); have cc1 := B1.cell; have z1 := B1.frozen 0))
 have D1 : One (W2.setCell ⟨w.heap.size, 0, none⟩ (.int .i64 3)) (w.heap.size) 2 (.int .i64 3) := B1.setc
 have hb2 : Below w.heap.size w (W2.setCell ⟨w.heap.size, 0, none⟩ (.int .i64 3)) := hb.setCell (by dsimp only; omega) _
 refine leaves_cons (f := 127) (args := #[.pointer (some ⟨w.heap.size, 0, none⟩)]) (by simp) (by simp [go_sem]) ?_
 refine (door_caughtP (w.heap.size) 0 _ B1).mono ?_
 rintro e u' w'' ⟨rfl, rfl, rfl⟩
 exact ⟨_, results_tc rfl _ _ (.slice none 0 0) rfl _ 2 (.int .i64 3) rfl D1 .i64 Try.underlying2, rfl, hb2⟩
set_option maxRecDepth 100000 in
set_option maxHeartbeats 1600000 in
theorem ComposeC_ok (n : Nat) (Va Ua : List (Nat → Nat)) (bV bU d1 d2 d3 : Nat) (w : World) (hpr : n = 2 ∨ n = 3 ∨ n = 5 ∨ n = 7) (lV : ∀ r k, k < 64 → zrow Va r k < n) (lU : ∀ r k, k < 64 → zrow Ua r k < n) (l1 : Va.length ≤ 7) (l2 : Ua.length ≤ 7) (hgd : cmG n Va Ua)
 (B0 : One w d1 2 (.int .i64 (n : Int))) (B1 : One w d2 30 (.slice (some ⟨bV, 0, none⟩) Va.length Va.length)) (B2 : One w d3 30 (.slice (some ⟨bU, 0, none⟩) Ua.length Ua.length)) (hf : Blk w bV (Va.length * 64) 28 (fl 64 (zrow Va))) (hg : Blk w bU (Ua.length * 64) 28 (fl 64 (zrow Ua))) :
 Calls Try.prog 87 #[.pointer (some ⟨d1, 0, none⟩), .pointer (some ⟨d2, 0, none⟩), .pointer (some ⟨d3, 0, none⟩)] w fun e w' => ∃ v, e = .returned v ∧ SlL w' w.heap.size 28 64 v (plR (cmL n Va Ua)) ∧ Below w.heap.size w w' := by
 unfold cmG at hgd
 have HSP := Lib.hid (skewProductB_ok n (zrow Va) (zrow Ua) Va.length Ua.length bV bU w hpr l1 l2 lV lU hgd hf hg)
 have HL := Lib.hid (fun (W : World) (b c : Nat) (hb : b ≤ c) (h : Blk W c ((Va.length + Ua.length) * 64) 28 (fl 64 (coR n (zrow Va) (zrow Ua) Ua.length Va.length))) => show SlL W b 28 64 (.slice (some ⟨c, 0, none⟩) (skN (coR n (zrow Va) (zrow Ua) Ua.length Va.length) (Va.length + Ua.length) + 1).toNat (Va.length + Ua.length)) (plR (cmL n Va Ua)) from by
  have h2 : Blk W c (cmM Va Ua * 64) 28 (fl 64 (cmR n Va Ua)) := by unfold cmR cmM; exact h
  have h3 := cmL_trim (slL_ofBlk h2 hb (by unfold cmM maxLen; omega))
  unfold cmR cmM at h3; exact h3)
 clear hgd lV lU hf hg
 go_enter Try.func87, Try.ntmps87
 go_wp2_with (first | (refine zlo rfl 2 (.tmp 0) rfl _ rfl 2 (.int .i64 (n : Int)) B0 _ Try.underlying2 rfl ?_) | (refine zlo rfl 30 (.tmp 1) rfl _ rfl 30 (.slice (some ⟨bV, 0, none⟩) Va.length Va.length) B1 _ Try.underlying30 rfl ?_) | (refine zlo rfl 30 (.tmp 2) rfl _ rfl 30 (.slice (some ⟨bU, 0, none⟩) Ua.length Ua.length) B2 _ Try.underlying30 rfl ?_) | (refine zbo rfl 98 _ rfl (bdC (n : Int)).toArray (by rw [Array.toList_map]; exact built_bd (n : Int)) ?_) | (go_at_call 88; refine HSP.out.mono ?_; rintro e wy ⟨c, rfl, hc, sc, hy⟩))
 go_ret
 exact ⟨_, rfl, HL.out _ _ _ hc sc, hy⟩
set_option maxRecDepth 100000 in
set_option maxHeartbeats 1600000 in
theorem ComposeC_no (n : Nat) (Va Ua : List (Nat → Nat)) (bV bU d1 d2 d3 : Nat) (w : World) (hpr : n = 2 ∨ n = 3 ∨ n = 5 ∨ n = 7) (lV : ∀ r k, k < 64 → zrow Va r k < n) (lU : ∀ r k, k < 64 → zrow Ua r k < n) (l1 : Va.length ≤ 7) (l2 : Ua.length ≤ 7) (hgd : ¬ cmG n Va Ua)
 (B0 : One w d1 2 (.int .i64 (n : Int))) (B1 : One w d2 30 (.slice (some ⟨bV, 0, none⟩) Va.length Va.length)) (B2 : One w d3 30 (.slice (some ⟨bU, 0, none⟩) Ua.length Ua.length)) (hf : Blk w bV (Va.length * 64) 28 (fl 64 (zrow Va))) (hg : Blk w bU (Ua.length * 64) 28 (fl 64 (zrow Ua))) :
 Calls Try.prog 87 #[.pointer (some ⟨d1, 0, none⟩), .pointer (some ⟨d2, 0, none⟩), .pointer (some ⟨d3, 0, none⟩)] w fun e w' => e = .panicked [{ v := .iface 130 (.int .i64 3), recovered := false }] ∧ Below w.heap.size w w' := by
 unfold cmG at hgd
 have HSP := Lib.hid (skewProductB_no n (zrow Va) (zrow Ua) Va.length Ua.length bV bU w hpr l1 l2 lV lU hgd hf hg)
 clear hgd lV lU hf hg
 go_enter Try.func87, Try.ntmps87
 go_wp2_with (first | (refine zlo rfl 2 (.tmp 0) rfl _ rfl 2 (.int .i64 (n : Int)) B0 _ Try.underlying2 rfl ?_) | (refine zlo rfl 30 (.tmp 1) rfl _ rfl 30 (.slice (some ⟨bV, 0, none⟩) Va.length Va.length) B1 _ Try.underlying30 rfl ?_) | (refine zlo rfl 30 (.tmp 2) rfl _ rfl 30 (.slice (some ⟨bU, 0, none⟩) Ua.length Ua.length) B2 _ Try.underlying30 rfl ?_) | (refine zbo rfl 98 _ rfl (bdC (n : Int)).toArray (by rw [Array.toList_map]; exact built_bd (n : Int)) ?_) | (go_at_call 88; refine HSP.out.mono ?_; rintro e wy ⟨rfl, hy⟩))
 exact ⟨rfl, rfl, hy⟩
set_option maxRecDepth 100000 in
set_option maxHeartbeats 1600000 in
theorem impl_ComposeActions_any (p : Int) (Va Ua : List (Nat → Nat)) (hVb : ∀ f ∈ Va, byte f) (hUb : ∀ f ∈ Ua, byte f) (hVl : (Va.length : Int) ≤ 1048576) (hUl : (Ua.length : Int) ≤ 1048576) (bV bU qV qU : Nat) (w : World) (hV : SlL w qV 28 64 (.slice (some ⟨bV, 0, none⟩) Va.length Va.length) (plR Va)) (hU : SlL w qU 28 64 (.slice (some ⟨bU, 0, none⟩) Ua.length Ua.length) (plR Ua)) :
 Calls Try.prog 46 #[.int .i64 p, .slice (some ⟨bV, 0, none⟩) Va.length Va.length, .slice (some ⟨bU, 0, none⟩) Ua.length Ua.length] w fun e w' => ∃ v, e = .returned (.tuple #[v, .int .i64 (cpV p Va Ua).2]) ∧ SlL w' w.heap.size 28 64 v (plR (cpV p Va Ua).1) ∧ Below w.heap.size w w' := by
 have HCK := Lib.hid (fun W (hW : Below w.heap.size w W) => checkActions_any p Va Ua hVb hUb hVl hUl _ _ _ _ qV qU W (hV.zw hW) (hU.zw hW))
 obtain ⟨C, hC⟩ : ∃ C, c7 p Va Ua = C := ⟨_, rfl⟩
 rw [hC] at HCK
 have FV := slL_blk hV
 have FU := slL_blk hU
 clear hV hU hVb hUb
 go_enter Try.func46, Try.ntmps46
 go_upto_region 1 with (fail)
 obtain ⟨W1, hwo⟩ : ∃ v : World, v = (((w.alloc (.cells #[(.int .i64 p)] 2)).alloc (.cells #[(.slice (some ⟨bV, 0, none⟩) Va.length Va.length)] 30)).alloc (.cells #[(.slice (some ⟨bU, 0, none⟩) Ua.length Ua.length)] 30)) := ⟨_, rfl⟩
 have B0 : One W1 (w.heap.size) 2 (.int .i64 p) := by subst hwo; have := (((One.new w 2 (.int .i64 p)).alloc (.cells #[(.slice (some ⟨bV, 0, none⟩) Va.length Va.length)] 30)).alloc (.cells #[(.slice (some ⟨bU, 0, none⟩) Ua.length Ua.length)] 30)); simpa using this
 have B1 : One W1 (w.heap.size + 1) 30 (.slice (some ⟨bV, 0, none⟩) Va.length Va.length) := by subst hwo; have := ((One.new (w.alloc (.cells #[(.int .i64 p)] 2)) 30 (.slice (some ⟨bV, 0, none⟩) Va.length Va.length)).alloc (.cells #[(.slice (some ⟨bU, 0, none⟩) Ua.length Ua.length)] 30)); simpa using this
 have B2 : One W1 (w.heap.size + 1 + 1) 30 (.slice (some ⟨bU, 0, none⟩) Ua.length Ua.length) := by subst hwo; have := (One.new ((w.alloc (.cells #[(.int .i64 p)] 2)).alloc (.cells #[(.slice (some ⟨bV, 0, none⟩) Va.length Va.length)] 30)) 30 (.slice (some ⟨bU, 0, none⟩) Ua.length Ua.length)); simpa using this
 have hb : Below w.heap.size w W1 := by subst hwo; exact ((((Below.refl _ _).alloc (Nat.le_refl _) _).alloc (by simp) _).alloc (by simp; omega) _)
 rw [← hwo]
 clear hwo
 have hmf : ∀ (fn : Fn) (first cap : Array Value) (w : World), (Instr.makeFunc fn first cap).run Try.prog w = .ok (.func fn first cap) w := fun _ _ _ _ => rfl
 by_cases h0 : C = 0
 · have hck := hC.trans h0
   subst h0
   clear hC
   obtain ⟨n, rfl, hpr, lV, lU, l1, l2⟩ := c7_fld hck
   have gV := zrow_all (L := Va) (by omega) lV
   have gU := zrow_all (L := Ua) (by omega) lU
   by_cases hgd : cmG n Va Ua
   · have HV := Lib.hid (cpV_0 hck hgd)
     have HDO := Lib.hid (fun (d1 d2 d3 : Nat) (W : World) (h1 : One W d1 2 (.int .i64 (n : Int))) (h2 : One W d2 30 (.slice (some ⟨bV, 0, none⟩) Va.length Va.length)) (h3 : One W d3 30 (.slice (some ⟨bU, 0, none⟩) Ua.length Ua.length)) (h4 : Blk W bV (Va.length * 64) 28 (fl 64 (zrow Va))) (h5 : Blk W bU (Ua.length * 64) 28 (fl 64 (zrow Ua))) => door_Compose (.pointer (some ⟨d1, 0, none⟩)) (.pointer (some ⟨d2, 0, none⟩)) (.pointer (some ⟨d3, 0, none⟩)) (cmL n Va Ua) W (fun W' hW => ComposeC_ok n Va Ua bV bU d1 d2 d3 W' hpr gV gU l1 l2 hgd (h1.zw hW) (h2.zw hW) (h3.zw hW) (h4.zw hW) (h5.zw hW)))
     clear hck lV lU gV gU hgd
     go_wp2_with (first | (refine zlo rfl 2 (.tmp 3) rfl _ rfl 2 (.int .i64 (n : Int)) B0 _ Try.underlying2 rfl ?_) | (refine zlo rfl 30 (.tmp 4) rfl _ rfl 30 (.slice (some ⟨bV, 0, none⟩) Va.length Va.length) B1 _ Try.underlying30 rfl ?_) | (refine zlo rfl 30 (.tmp 5) rfl _ rfl 30 (.slice (some ⟨bU, 0, none⟩) Ua.length Ua.length) B2 _ Try.underlying30 rfl ?_) | (go_at_call 82; refine (HCK.out _ hb).mono ?_; rintro e wx ⟨rfl, hx⟩; replace B0 := B0.zw hx; replace B1 := B1.zw hx; replace B2 := B2.zw hx; replace hb := hb.trans (hx.mono hb.size)) | (go_at_call 86; refine (HDO.out _ _ _ _ B0 B1 B2 (FV.zw hb) (FU.zw hb)).mono ?_; rintro e wy ⟨v, rfl, hS, hy⟩))
     go_ret2
     exact ⟨_, by rw [HV.out]; rfl, by rw [HV.out]; exact hS.base hb.size, hb.trans (hy.mono hb.size)⟩
   · have HV := Lib.hid (cpV_3 hck hgd)
     have HDO := Lib.hid (fun (d1 d2 d3 : Nat) (W : World) (h1 : One W d1 2 (.int .i64 (n : Int))) (h2 : One W d2 30 (.slice (some ⟨bV, 0, none⟩) Va.length Va.length)) (h3 : One W d3 30 (.slice (some ⟨bU, 0, none⟩) Ua.length Ua.length)) (h4 : Blk W bV (Va.length * 64) 28 (fl 64 (zrow Va))) (h5 : Blk W bU (Ua.length * 64) 28 (fl 64 (zrow Ua))) => door_ComposeN (.pointer (some ⟨d1, 0, none⟩)) (.pointer (some ⟨d2, 0, none⟩)) (.pointer (some ⟨d3, 0, none⟩)) [] W (fun W' hW => ComposeC_no n Va Ua bV bU d1 d2 d3 W' hpr gV gU l1 l2 hgd (h1.zw hW) (h2.zw hW) (h3.zw hW) (h4.zw hW) (h5.zw hW)))
     clear hck lV lU gV gU hgd
     go_wp2_with (first | (refine zlo rfl 2 (.tmp 3) rfl _ rfl 2 (.int .i64 (n : Int)) B0 _ Try.underlying2 rfl ?_) | (refine zlo rfl 30 (.tmp 4) rfl _ rfl 30 (.slice (some ⟨bV, 0, none⟩) Va.length Va.length) B1 _ Try.underlying30 rfl ?_) | (refine zlo rfl 30 (.tmp 5) rfl _ rfl 30 (.slice (some ⟨bU, 0, none⟩) Ua.length Ua.length) B2 _ Try.underlying30 rfl ?_) | (go_at_call 82; refine (HCK.out _ hb).mono ?_; rintro e wx ⟨rfl, hx⟩; replace B0 := B0.zw hx; replace B1 := B1.zw hx; replace B2 := B2.zw hx; replace hb := hb.trans (hx.mono hb.size)) | (go_at_call 86; refine (HDO.out _ _ _ _ B0 B1 B2 (FV.zw hb) (FU.zw hb)).mono ?_; rintro e wy ⟨rfl, hy⟩))
     go_ret2
     exact ⟨_, by rw [HV.out]; rfl, by rw [HV.out, plR_nil]; exact SlL.nil _ _ (hb.trans (hy.mono hb.size)).size, hb.trans (hy.mono hb.size)⟩
 · have HV := Lib.hid (cpV_n (show c7 p Va Ua ≠ 0 by rw [hC]; exact h0))
   rw [hC] at HV
   have hC1 : (C != 0) = true := by simp [h0]
   clear hC FV FU
   go_wp2_with (first | (refine zlo rfl 2 (.tmp 3) rfl _ rfl 2 (.int .i64 p) B0 _ Try.underlying2 rfl ?_) | (refine zlo rfl 30 (.tmp 4) rfl _ rfl 30 (.slice (some ⟨bV, 0, none⟩) Va.length Va.length) B1 _ Try.underlying30 rfl ?_) | (refine zlo rfl 30 (.tmp 5) rfl _ rfl 30 (.slice (some ⟨bU, 0, none⟩) Ua.length Ua.length) B2 _ Try.underlying30 rfl ?_) | (go_at_call 82; refine (HCK.out _ hb).mono ?_; rintro e wx ⟨rfl, hx⟩; replace B0 := B0.zw hx; replace B1 := B1.zw hx; replace B2 := B2.zw hx; replace hb := hb.trans (hx.mono hb.size)))
   go_ret2
   exact ⟨_, by rw [HV.out]; rfl, by rw [HV.out, plR_nil]; exact SlL.nil _ _ hb.size, hb⟩
end Go.Proofs.Ytelgefgphhebnaa
end
section
namespace Go.Proofs.Ytelgefgphhebnaa
open Go Go.RowKit
set_option linter.unusedVariables false
set_option linter.unusedSimpArgs false
theorem spS_skip {q j : Nat} {x : Nat → Nat} (hq : 1 ≤ q) (h : x j = 0) (k : Nat) : spS q x j k = spS q x (j + 1) k := by
 have h1 := spS_s (q := q) (j := j) (x := x) hq k
 rw [← h1]
 by_cases hk : k = j * q
 · rw [if_pos hk, h]
   unfold spS
   by_cases h2 : k % q = 0 ∧ k / q < j
   · exfalso
     have e : k / q = j := by rw [hk]; exact Nat.mul_div_cancel j (by omega)
     have := h2.2
     omega
   · rw [if_neg h2]
 · rw [if_neg hk]
theorem deg_last {f : Nat → Nat} {n : Nat} (h : deg f = (n : Int)) : f n ≠ 0 := by
 rcases deg_spec f with ⟨a, _⟩ | ⟨d, hd, a, b, _⟩
 · omega
 · have : d = n := by omega
   subst this; exact b
attribute [local irreducible] deg strP spS prd addK
set_option maxRecDepth 100000 in
set_option maxHeartbeats 1600000 in
theorem l04Raise_ok (p i : Nat) (a : Nat → Nat) (w : World) (p2 : 2 ≤ p) (p7 : p ≤ 7) (hi : i ≤ 20) (la : ∀ k, k < 64 → a k < p) (hd : deg a * ((p ^ i : Nat) : Int) ≤ 63) :
 Calls Try.prog 84 #[.int .i64 (p : Int), .agg (zb 64 a), .int .i64 (i : Int)] w fun e w' => e = .returned (.tuple #[.agg (zb 64 (strP (p ^ i) a)), .bool true]) ∧ Below w.heap.size w w' := by
 obtain ⟨gb1, gb2⟩ := zdb a
 obtain ⟨NN, hNN⟩ : ∃ NN : Nat, deg a = (NN : Int) - 1 := ⟨(deg a + 1).toNat, by omega⟩
 have HD := Lib.hid hNN
 have hN6 : NN ≤ 64 := by omega
 have hQ1 : 1 ≤ p ^ i := Nat.pow_pos (by omega)
 have HPS := Lib.hid (fun s : Nat => Nat.pow_succ p s)
 have HPM := Lib.hid (fun (s t : Nat) (h : s ≤ t) => Nat.pow_le_pow_right (n := p) (by omega) h)
 have HQ := Lib.hid (show ∀ j, j < NN → ∀ s, s ≤ i → j * p ^ s ≤ 63 from fun j hj s hs => by
  rw [hNN] at hd
  have h1 : (j : Int) * ((p ^ i : Nat) : Int) ≤ ((NN : Int) - 1) * ((p ^ i : Nat) : Int) := Int.mul_le_mul_of_nonneg_right (by omega) (by omega)
  have h2 : (j : Int) * ((p ^ i : Nat) : Int) ≤ 63 := by omega
  have h3 : j * p ^ i ≤ 63 := by exact_mod_cast h2
  exact Nat.le_trans (Nat.mul_le_mul_left j (HPM.out s i hs)) h3)
 have HV := Lib.hid (zbc (spS_end (q := p ^ i) (x := a) (n := NN) (by omega)))
 have HSS := Lib.hid (fun j k => spS_s (q := p ^ i) (j := j) (x := a) hQ1 k)
 have HSK := Lib.hid (fun j (h : a j = 0) k => spS_skip (q := p ^ i) (j := j) (x := a) hQ1 h k)
 have HZ := Lib.hid (spS_z (p ^ i) a)
 clear hNN hd hQ1
 go_enter Try.func84, Try.ntmps84
 go_upto_region 1 with (fail)
 rw [← z64]
 obtain ⟨W1, hwo⟩ : ∃ v : World, v = ((w.alloc (.cells (zb 64 (a)) 28)).alloc (.cells (zb 64 fun _ => 0) 28)) := ⟨_, rfl⟩
 have B0 : Blk W1 (w.heap.size) 64 28 (a) := by subst hwo; have := ((Blk.new w 64 28 (a)).alloc (.cells (zb 64 fun _ => 0) 28)); simpa using this
 have B1 : Blk W1 (w.heap.size + 1) 64 28 (fun _ => 0) := by subst hwo; have := (Blk.new (w.alloc (.cells (zb 64 (a)) 28)) 64 28 (fun _ => 0)); simpa using this
 have hb : Below w.heap.size w W1 := by subst hwo; exact (((Below.refl _ _).alloc (Nat.le_refl _) _).alloc (by simp) _)
 rw [← hwo]
 clear hwo
 have lt_B0 := B0.lt
 have lt_B1 := B1.lt
 go_upto_region 2 with (first | rw [← z64] | (refine zla (.tmp 4) B0 Try.underlying28 Try.size28 ?_) | (go_at_call 106; refine (l01Deg_any a _).mono ?_; rintro e W2 ⟨rfl, hW2⟩; replace B0 := B0.zw hW2; replace B1 := B1.zw hW2; replace hb := (hb).trans (hW2.mono (hb).size); rw [HD.out]) | (refine wpList_store_blk rfl 28 (.tmp 8) (.tmp 13) rfl _ 64 (fun _ => 0) rfl rfl 28 _ ((Blk.new W2 64 28 (fun _ => 0))) Try.size28 ?_; try simp only [Act.put]; go_upto_region 2 with (fail)))
 have lt_B0 := B0.lt
 have lt_B1 := B1.lt
 have lhb := hb.size
 obtain ⟨W3, hwo, hzQ⟩ : ∃ v : World, v = ((W2.alloc (.cells (zb 64 fun _ => 0) 28)).setRow (W2.heap.size) (zb 64 (fun _ => 0))) ∧ Blk v (w.heap.size) 64 28 (a) ∧ Blk v (w.heap.size + 1) 64 28 (fun _ => 0) ∧ Blk v (W2.heap.size) 64 28 (fun _ => 0) ∧ Below w.heap.size w v := ⟨_, rfl, ((B0.alloc (.cells (zb 64 fun _ => 0) 28)).rowOther (by omega)), ((B1.alloc (.cells (zb 64 fun _ => 0) 28)).rowOther (by omega)), ((Blk.new W2 64 28 (fun _ => 0)).row (fun _ => 0)), (zr (hb.alloc (by have := hb.size; simp; omega) (.cells (zb 64 fun _ => 0) 28)) (by omega) _)⟩
 rw [← hwo]
 clear hwo B0 B1 hb
 obtain ⟨B0, B1, B2, hb⟩ := hzQ
 obtain ⟨N1, hNN⟩ : ∃ n : Nat, n = W2.heap.size := ⟨_, rfl⟩
 rw [← hNN] at lt_B0 lt_B1 lhb B2 ⊢
 clear hNN
 have zN1_0 := lt_B0
 have zN1_1 := lt_B1
 have zN1 := lhb
 clear lt_B0 lt_B1 lhb
 try simp only [Act.put, pA, pB, pC]
 go_wp2_with fail
 go_loopw [10] (fun c wr => ∃ j : Nat, c = .int .i64 (j : Int) ∧ j ≤ NN ∧ Below w.heap.size w wr ∧ Blk wr (w.heap.size) 64 28 a ∧ Blk wr (w.heap.size + 1) 64 28 (fun _ => 0) ∧ Blk wr (N1) 64 28 (spS (p ^ i) a j)) (fun c _ => NN - (intOf c).toNat)
 case atStart => exact ⟨0, rfl, Nat.zero_le _, hb, B0, B1, by rw [HZ.out]; exact B2⟩
 case round =>
  clear hb B0 B1 B2
  obtain ⟨j, rfl, hjn, hb, B0, B1, B2⟩ := hrel
  by_cases hj : j < NN
  · have hji : (j : Int) ≤ (NN : Int) - 1 := by omega
    have hj6 : j < 64 := by omega
    have haj := la j hj6
    by_cases ha : a j = 0
    · have cc : wr.cell? ⟨w.heap.size, j, none⟩ = some (.int .u8 0) := by have h := B0.cell (i := j) hj6; rw [ha] at h; exact h
      have HZ2 := Lib.hid (fun k => HSK.out j ha k)
      clear ha haj
      go_wp2_with fail
      go_roundw
      case rel => exact ⟨j + 1, by go_num, by omega, hb, B0, B1, B2.congr (fun k _ => HZ2.out k)⟩
      case measure => simp [intOf] <;> omega
    · have HA := Lib.hid ha
      obtain ⟨C, hC⟩ : ∃ C, C = a j := ⟨_, rfl⟩
      have HC := Lib.hid hC
      have hC0 : ¬ (C : Int) = 0 := by omega
      have hCb : ((C : Int) == 0) = false := by simp; omega
      have hC7 : C < p := by rw [hC]; exact haj
      have cc : wr.cell? ⟨w.heap.size, j, none⟩ = some (.int .u8 (C : Int)) := by have h := B0.cell (i := j) hj6; rw [← hC] at h; exact h
      clear ha haj hC
      go_wp2_with fail
      clear cc
      go_loopw [11, 12] (fun x y wr => ∃ (s A : Nat), x = .int .i64 (A : Int) ∧ y = .int .i64 (s : Int) ∧ s ≤ i ∧ Hid (A = j * p ^ s) ∧ A ≤ 63 ∧ Below w.heap.size w wr ∧ Blk wr (w.heap.size) 64 28 a ∧ Blk wr (w.heap.size + 1) 64 28 (fun _ => 0) ∧ Blk wr (N1) 64 28 (spS (p ^ i) a j)) (fun _ y _ => i - (intOf y).toNat)
      case atStart => exact ⟨0, j, rfl, rfl, Nat.zero_le _, Lib.hid (by rw [Nat.pow_zero, Nat.mul_one]), by omega, hb, B0, B1, B2⟩
      case round =>
       clear hb B0 B1 B2
       obtain ⟨s, A, rfl, rfl, hsi, hA, hA6, hb, B0, B1, B2⟩ := hrel
       by_cases hs : s < i
       · have hsI : (s : Int) < (i : Int) := by omega
         by_cases hA0 : 0 < A
         · have hAI : (0 : Int) < (A : Int) := by omega
           have hAg : (A : Int) > 0 := by omega
           obtain ⟨A2, hA2⟩ : ∃ A2, A2 = A * p := ⟨_, rfl⟩
           have HA2 := Lib.hid (show A2 = j * p ^ (s + 1) by rw [hA2, hA.out, HPS.out, Nat.mul_assoc])
           have hAp : (A : Int) * (p : Int) = (A2 : Int) := by rw [hA2]; push_cast; rfl
           have hA2b : A2 ≤ 441 := by rw [hA2]; exact Nat.le_trans (Nat.mul_le_mul hA6 p7) (by decide)
           clear hA2
           have hA26 : A2 ≤ 63 := by have h := HQ.out j hj (s + 1) (by omega); rw [← HA2.out] at h; exact h
           go_upto_region 11 with (first | rw [hAp])
           go_wp2_with fail
           go_roundw
           case rel => exact ⟨s + 1, A2, rfl, by go_num, by omega, HA2, hA26, hb, B0, B1, B2⟩
           case measure => simp [intOf] <;> omega
         · obtain rfl : A = 0 := by omega
           have hAg : ¬ (((0 : Nat) : Int) > 0) := by omega
           have hAI : ¬ ((0 : Int) < ((0 : Nat) : Int)) := by omega
           have HAQ := Lib.hid (show 0 = j * p ^ i by (have h := hA.out; have h2 : 0 < p ^ s := Nat.pow_pos (by omega); have h3 : j = 0 := (by rcases Nat.mul_eq_zero.1 h.symm with h4 | h4 <;> omega); rw [h3, Nat.zero_mul]))
           have HSJ := Lib.hid (show ∀ k, (if k = 0 then a j else spS (p ^ i) a j k) = spS (p ^ i) a (j + 1) k from fun k => by rw [HAQ.out]; exact HSS.out j k)
           have cc : wr.cell? ⟨w.heap.size, j, none⟩ = some (.int .u8 (C : Int)) := by have h := B0.cell (i := j) hj6; rw [← HC.out] at h; exact h
           have hA64 : 0 < 64 := by omega
           have c5 := B2.cell (i := 0) hA64
           have zz := B2.frozen 0
           go_upto_region 4 with (fail)
           clear cc c5 zz
           have lt_B0 := B0.lt
           have lt_B1 := B1.lt
           have lt_B2 := B2.lt
           have qB0 : Blk (wr.setCell ⟨N1, 0, none⟩ (.int .u8 ((C : Int)))) (w.heap.size) 64 28 (a) := (B0.setOther (by show (w.heap.size) ≠ (N1); omega))
           have qB1 : Blk (wr.setCell ⟨N1, 0, none⟩ (.int .u8 ((C : Int)))) (w.heap.size + 1) 64 28 (fun _ => 0) := (B1.setOther (by show (w.heap.size + 1) ≠ (N1); omega))
           have qB2 : Blk (wr.setCell ⟨N1, 0, none⟩ (.int .u8 ((C : Int)))) (N1) 64 28 (spS (p ^ i) a (j + 1)) := ((B2.set (v := C) (rfl)).congr (fun k _ => by have h := HSJ.out k; rw [← HC.out] at h; exact h))
           have qhb : Below w.heap.size w (wr.setCell ⟨N1, 0, none⟩ (.int .u8 ((C : Int)))) := (hb.setCell (by show w.heap.size ≤ (N1); omega) _)
           obtain ⟨W4, hwo⟩ : ∃ v : World, v = (wr.setCell ⟨N1, 0, none⟩ (.int .u8 ((C : Int)))) := ⟨_, rfl⟩
           rw [← hwo] at qB0 qB1 qB2 qhb ⊢
           clear hwo
           clear B0 B1 B2 hb
           have B0 := qB0
           have B1 := qB1
           have B2 := qB2
           have hb := qhb
           clear qB0 qB1 qB2 qhb
           try simp only [Act.put, pA, pB, pC]
           go_wp2_with fail
           go_roundw
           case rel => exact ⟨j + 1, by go_num, by omega, hb, B0, B1, B2⟩
           case measure => simp [intOf] <;> omega
       · have hsI : ¬ (s : Int) < (i : Int) := by omega
         obtain rfl : s = i := by omega
         have HAQ := Lib.hid (show A = j * p ^ s by exact hA.out)
         have HSJ := Lib.hid (show ∀ k, (if k = A then a j else spS (p ^ s) a j k) = spS (p ^ s) a (j + 1) k from fun k => by rw [HAQ.out]; exact HSS.out j k)
         have cc : wr.cell? ⟨w.heap.size, j, none⟩ = some (.int .u8 (C : Int)) := by have h := B0.cell (i := j) hj6; rw [← HC.out] at h; exact h
         have hA64 : A < 64 := by omega
         have c5 := B2.cell (i := A) hA64
         have zz := B2.frozen A
         go_upto_region 4 with (fail)
         clear cc c5 zz
         have lt_B0 := B0.lt
         have lt_B1 := B1.lt
         have lt_B2 := B2.lt
         have qB0 : Blk (wr.setCell ⟨N1, A, none⟩ (.int .u8 ((C : Int)))) (w.heap.size) 64 28 (a) := (B0.setOther (by show (w.heap.size) ≠ (N1); omega))
         have qB1 : Blk (wr.setCell ⟨N1, A, none⟩ (.int .u8 ((C : Int)))) (w.heap.size + 1) 64 28 (fun _ => 0) := (B1.setOther (by show (w.heap.size + 1) ≠ (N1); omega))
         have qB2 : Blk (wr.setCell ⟨N1, A, none⟩ (.int .u8 ((C : Int)))) (N1) 64 28 (spS (p ^ s) a (j + 1)) := ((B2.set (v := C) (rfl)).congr (fun k _ => by have h := HSJ.out k; rw [← HC.out] at h; exact h))
         have qhb : Below w.heap.size w (wr.setCell ⟨N1, A, none⟩ (.int .u8 ((C : Int)))) := (hb.setCell (by show w.heap.size ≤ (N1); omega) _)
         obtain ⟨W4, hwo⟩ : ∃ v : World, v = (wr.setCell ⟨N1, A, none⟩ (.int .u8 ((C : Int)))) := ⟨_, rfl⟩
         rw [← hwo] at qB0 qB1 qB2 qhb ⊢
         clear hwo
         clear B0 B1 B2 hb
         have B0 := qB0
         have B1 := qB1
         have B2 := qB2
         have hb := qhb
         clear qB0 qB1 qB2 qhb
         try simp only [Act.put, pA, pB, pC]
         go_wp2_with fail
         go_roundw
         case rel => exact ⟨j + 1, by go_num, by omega, hb, B0, B1, B2⟩
         case measure => simp [intOf] <;> omega
  · have hji : ¬ (j : Int) ≤ (NN : Int) - 1 := by omega
    obtain rfl : j = NN := by omega
    go_upto_region 14 with (fail)
    have lt_B0 := B0.lt
    have lt_B1 := B1.lt
    have lt_B2 := B2.lt
    go_wp2_with (first | rw [← z64] | (refine zla (.tmp 8) B2 Try.underlying28 Try.size28 ?_) | (refine zsr (.tmp 6) (.tmp 46) (spS (p ^ i) a j) B1 Try.size28 ?_; try simp only [Act.put]; go_wp2_with fail))
    obtain ⟨W4, hwo, hzQ⟩ : ∃ v : World, v = (wr.setRow (w.heap.size + 1) (zb 64 (spS (p ^ i) a j))) ∧ Blk v (w.heap.size) 64 28 (a) ∧ Blk v (w.heap.size + 1) 64 28 (spS (p ^ i) a j) ∧ Blk v (N1) 64 28 (spS (p ^ i) a j) ∧ Below w.heap.size w v := ⟨_, rfl, (B0.rowOther (by omega)), (B1.row (spS (p ^ i) a j)), (B2.rowOther (by omega)), (zr hb (by omega) _)⟩
    rw [← hwo]
    clear hwo B0 B1 B2 hb
    obtain ⟨B0, B1, B2, hb⟩ := hzQ
    try simp only [Act.put, pA, pB, pC]
    refine bodyPost_ret (results_bt rfl _ _ _ 64 28 5 _ rfl B1 Try.underlying28 Try.size28) rfl ⟨by rw [HV.out]; rfl, hb⟩
set_option maxRecDepth 100000 in
set_option maxHeartbeats 1600000 in
theorem l04Raise_no (p i : Nat) (a : Nat → Nat) (w : World) (p2 : 2 ≤ p) (p7 : p ≤ 7) (hi : i ≤ 20) (la : ∀ k, k < 64 → a k < p) (hd : 63 < deg a * ((p ^ i : Nat) : Int)) :
 Calls Try.prog 84 #[.int .i64 (p : Int), .agg (zb 64 a), .int .i64 (i : Int)] w fun e w' => e = .returned (.tuple #[.agg (zb 64 (fun _ => 0)), .bool false]) ∧ Below w.heap.size w w' := by
 obtain ⟨gb1, gb2⟩ := zdb a
 obtain ⟨NN, hNN⟩ : ∃ NN : Nat, deg a = (NN : Int) - 1 := ⟨(deg a + 1).toNat, by omega⟩
 have HD := Lib.hid hNN
 have hN6 : NN ≤ 64 := by omega
 have hQ1 : 1 ≤ p ^ i := Nat.pow_pos (by omega)
 have HPS := Lib.hid (fun s : Nat => Nat.pow_succ p s)
 have HPM := Lib.hid (fun (s t : Nat) (h : s ≤ t) => Nat.pow_le_pow_right (n := p) (by omega) h)
 have HQ := Lib.hid (show ∀ j, j < NN → ∀ s, s ≤ i → True from fun _ _ _ _ => trivial)
 have HEND := Lib.hid (show ¬ ∀ t, t < NN → a t ≠ 0 → t * p ^ i ≤ 63 from fun h => by
  by_cases h0 : NN = 0
  · subst h0; rw [hNN] at hd
    have : (((0 : Nat) : Int) - 1) * ((p ^ i : Nat) : Int) = -((p ^ i : Nat) : Int) := by simp
    omega
  · have h1 := h (NN - 1) (by omega) (deg_last (by omega))
    rw [hNN] at hd
    have h2 : ((NN : Int) - 1) * ((p ^ i : Nat) : Int) = (((NN - 1) * p ^ i : Nat) : Int) := by push_cast; congr 1; omega
    omega)
 have HSS := Lib.hid (fun j k => spS_s (q := p ^ i) (j := j) (x := a) hQ1 k)
 have HSK := Lib.hid (fun j (h : a j = 0) k => spS_skip (q := p ^ i) (j := j) (x := a) hQ1 h k)
 have HZ := Lib.hid (spS_z (p ^ i) a)
 clear hNN hd hQ1
 go_enter Try.func84, Try.ntmps84
 go_upto_region 1 with (fail)
 rw [← z64]
 obtain ⟨W1, hwo⟩ : ∃ v : World, v = ((w.alloc (.cells (zb 64 (a)) 28)).alloc (.cells (zb 64 fun _ => 0) 28)) := ⟨_, rfl⟩
 have B0 : Blk W1 (w.heap.size) 64 28 (a) := by subst hwo; have := ((Blk.new w 64 28 (a)).alloc (.cells (zb 64 fun _ => 0) 28)); simpa using this
 have B1 : Blk W1 (w.heap.size + 1) 64 28 (fun _ => 0) := by subst hwo; have := (Blk.new (w.alloc (.cells (zb 64 (a)) 28)) 64 28 (fun _ => 0)); simpa using this
 have hb : Below w.heap.size w W1 := by subst hwo; exact (((Below.refl _ _).alloc (Nat.le_refl _) _).alloc (by simp) _)
 rw [← hwo]
 clear hwo
 have lt_B0 := B0.lt
 have lt_B1 := B1.lt
 go_upto_region 2 with (first | rw [← z64] | (refine zla (.tmp 4) B0 Try.underlying28 Try.size28 ?_) | (go_at_call 106; refine (l01Deg_any a _).mono ?_; rintro e W2 ⟨rfl, hW2⟩; replace B0 := B0.zw hW2; replace B1 := B1.zw hW2; replace hb := (hb).trans (hW2.mono (hb).size); rw [HD.out]) | (refine wpList_store_blk rfl 28 (.tmp 8) (.tmp 13) rfl _ 64 (fun _ => 0) rfl rfl 28 _ ((Blk.new W2 64 28 (fun _ => 0))) Try.size28 ?_; try simp only [Act.put]; go_upto_region 2 with (fail)))
 have lt_B0 := B0.lt
 have lt_B1 := B1.lt
 have lhb := hb.size
 obtain ⟨W3, hwo, hzQ⟩ : ∃ v : World, v = ((W2.alloc (.cells (zb 64 fun _ => 0) 28)).setRow (W2.heap.size) (zb 64 (fun _ => 0))) ∧ Blk v (w.heap.size) 64 28 (a) ∧ Blk v (w.heap.size + 1) 64 28 (fun _ => 0) ∧ Blk v (W2.heap.size) 64 28 (fun _ => 0) ∧ Below w.heap.size w v := ⟨_, rfl, ((B0.alloc (.cells (zb 64 fun _ => 0) 28)).rowOther (by omega)), ((B1.alloc (.cells (zb 64 fun _ => 0) 28)).rowOther (by omega)), ((Blk.new W2 64 28 (fun _ => 0)).row (fun _ => 0)), (zr (hb.alloc (by have := hb.size; simp; omega) (.cells (zb 64 fun _ => 0) 28)) (by omega) _)⟩
 rw [← hwo]
 clear hwo B0 B1 hb
 obtain ⟨B0, B1, B2, hb⟩ := hzQ
 obtain ⟨N1, hNN⟩ : ∃ n : Nat, n = W2.heap.size := ⟨_, rfl⟩
 rw [← hNN] at lt_B0 lt_B1 lhb B2 ⊢
 clear hNN
 have zN1_0 := lt_B0
 have zN1_1 := lt_B1
 have zN1 := lhb
 clear lt_B0 lt_B1 lhb
 try simp only [Act.put, pA, pB, pC]
 go_wp2_with fail
 go_loopw [10] (fun c wr => ∃ j : Nat, c = .int .i64 (j : Int) ∧ j ≤ NN ∧ Hid (∀ t, t < j → a t ≠ 0 → t * p ^ i ≤ 63) ∧ Below w.heap.size w wr ∧ Blk wr (w.heap.size) 64 28 a ∧ Blk wr (w.heap.size + 1) 64 28 (fun _ => 0) ∧ Blk wr (N1) 64 28 (spS (p ^ i) a j)) (fun c _ => NN - (intOf c).toNat)
 case atStart => exact ⟨0, rfl, Nat.zero_le _, Lib.hid (fun t h => absurd h (Nat.not_lt_zero t)), hb, B0, B1, by rw [HZ.out]; exact B2⟩
 case round =>
  clear hb B0 B1 B2
  obtain ⟨j, rfl, hjn, hno, hb, B0, B1, B2⟩ := hrel
  by_cases hj : j < NN
  · have hji : (j : Int) ≤ (NN : Int) - 1 := by omega
    have hj6 : j < 64 := by omega
    have haj := la j hj6
    by_cases ha : a j = 0
    · have cc : wr.cell? ⟨w.heap.size, j, none⟩ = some (.int .u8 0) := by have h := B0.cell (i := j) hj6; rw [ha] at h; exact h
      have HZ2 := Lib.hid (fun k => HSK.out j ha k)
      have HNO := Lib.hid (show ∀ t, t < j + 1 → a t ≠ 0 → t * p ^ i ≤ 63 from fun t h1 h2 => by
       by_cases e : t = j
       · subst e; exact absurd ha h2
       · exact hno.out t (by omega) h2)
      clear ha haj
      go_wp2_with fail
      go_roundw
      case rel => exact ⟨j + 1, by go_num, by omega, HNO, hb, B0, B1, B2.congr (fun k _ => HZ2.out k)⟩
      case measure => simp [intOf] <;> omega
    · have HA := Lib.hid ha
      obtain ⟨C, hC⟩ : ∃ C, C = a j := ⟨_, rfl⟩
      have HC := Lib.hid hC
      have hC0 : ¬ (C : Int) = 0 := by omega
      have hCb : ((C : Int) == 0) = false := by simp; omega
      have hC7 : C < p := by rw [hC]; exact haj
      have cc : wr.cell? ⟨w.heap.size, j, none⟩ = some (.int .u8 (C : Int)) := by have h := B0.cell (i := j) hj6; rw [← hC] at h; exact h
      clear ha haj hC
      go_wp2_with fail
      clear cc
      go_loopw [11, 12] (fun x y wr => ∃ (s A : Nat), x = .int .i64 (A : Int) ∧ y = .int .i64 (s : Int) ∧ s ≤ i ∧ Hid (A = j * p ^ s) ∧ A ≤ 63 ∧ Below w.heap.size w wr ∧ Blk wr (w.heap.size) 64 28 a ∧ Blk wr (w.heap.size + 1) 64 28 (fun _ => 0) ∧ Blk wr (N1) 64 28 (spS (p ^ i) a j)) (fun _ y _ => i - (intOf y).toNat)
      case atStart => exact ⟨0, j, rfl, rfl, Nat.zero_le _, Lib.hid (by rw [Nat.pow_zero, Nat.mul_one]), by omega, hb, B0, B1, B2⟩
      case round =>
       clear hb B0 B1 B2
       obtain ⟨s, A, rfl, rfl, hsi, hA, hA6, hb, B0, B1, B2⟩ := hrel
       by_cases hs : s < i
       · have hsI : (s : Int) < (i : Int) := by omega
         by_cases hA0 : 0 < A
         · have hAI : (0 : Int) < (A : Int) := by omega
           have hAg : (A : Int) > 0 := by omega
           obtain ⟨A2, hA2⟩ : ∃ A2, A2 = A * p := ⟨_, rfl⟩
           have HA2 := Lib.hid (show A2 = j * p ^ (s + 1) by rw [hA2, hA.out, HPS.out, Nat.mul_assoc])
           have hAp : (A : Int) * (p : Int) = (A2 : Int) := by rw [hA2]; push_cast; rfl
           have hA2b : A2 ≤ 441 := by rw [hA2]; exact Nat.le_trans (Nat.mul_le_mul hA6 p7) (by decide)
           clear hA2
           by_cases hA26 : A2 ≤ 63
           · skip
             go_upto_region 11 with (first | rw [hAp])
             go_wp2_with fail
             go_roundw
             case rel => exact ⟨s + 1, A2, rfl, by go_num, by omega, HA2, hA26, hb, B0, B1, B2⟩
             case measure => simp [intOf] <;> omega
           · have hA27 : (A2 : Int) > 63 := by omega
             go_upto_region 11 with (first | rw [hAp])
             go_upto_region 12 with (fail)
             have lt_B0 := B0.lt
             have lt_B1 := B1.lt
             have lt_B2 := B2.lt
             go_wp2_with (first | rw [← z64] | (refine zsr (.tmp 6) (.tmp 40) (fun _ => 0) B1 Try.size28 ?_; try simp only [Act.put]; go_wp2_with fail))
             obtain ⟨W4, hwo, hzQ⟩ : ∃ v : World, v = (wr.setRow (w.heap.size + 1) (zb 64 (fun _ => 0))) ∧ Blk v (w.heap.size) 64 28 (a) ∧ Blk v (w.heap.size + 1) 64 28 (fun _ => 0) ∧ Blk v (N1) 64 28 (spS (p ^ i) a j) ∧ Below w.heap.size w v := ⟨_, rfl, (B0.rowOther (by omega)), (B1.row (fun _ => 0)), (B2.rowOther (by omega)), (zr hb (by omega) _)⟩
             rw [← hwo]
             clear hwo B0 B1 B2 hb
             obtain ⟨B0, B1, B2, hb⟩ := hzQ
             try simp only [Act.put, pA, pB, pC]
             refine bodyPost_ret (results_bt rfl _ _ _ 64 28 5 _ rfl B1 Try.underlying28 Try.size28) rfl ⟨rfl, hb⟩
         · obtain rfl : A = 0 := by omega
           have hAg : ¬ (((0 : Nat) : Int) > 0) := by omega
           have hAI : ¬ ((0 : Int) < ((0 : Nat) : Int)) := by omega
           have HAQ := Lib.hid (show 0 = j * p ^ i by (have h := hA.out; have h2 : 0 < p ^ s := Nat.pow_pos (by omega); have h3 : j = 0 := (by rcases Nat.mul_eq_zero.1 h.symm with h4 | h4 <;> omega); rw [h3, Nat.zero_mul]))
           have HSJ := Lib.hid (show ∀ k, (if k = 0 then a j else spS (p ^ i) a j k) = spS (p ^ i) a (j + 1) k from fun k => by rw [HAQ.out]; exact HSS.out j k)
           have cc : wr.cell? ⟨w.heap.size, j, none⟩ = some (.int .u8 (C : Int)) := by have h := B0.cell (i := j) hj6; rw [← HC.out] at h; exact h
           have hA64 : 0 < 64 := by omega
           have c5 := B2.cell (i := 0) hA64
           have zz := B2.frozen 0
           have HNO := Lib.hid (show ∀ t, t < j + 1 → a t ≠ 0 → t * p ^ i ≤ 63 from fun t h1 h2 => by
            by_cases e : t = j
            · subst e; have := HAQ.out; omega
            · exact hno.out t (by omega) h2)
           go_upto_region 4 with (fail)
           clear cc c5 zz
           have lt_B0 := B0.lt
           have lt_B1 := B1.lt
           have lt_B2 := B2.lt
           have qB0 : Blk (wr.setCell ⟨N1, 0, none⟩ (.int .u8 ((C : Int)))) (w.heap.size) 64 28 (a) := (B0.setOther (by show (w.heap.size) ≠ (N1); omega))
           have qB1 : Blk (wr.setCell ⟨N1, 0, none⟩ (.int .u8 ((C : Int)))) (w.heap.size + 1) 64 28 (fun _ => 0) := (B1.setOther (by show (w.heap.size + 1) ≠ (N1); omega))
           have qB2 : Blk (wr.setCell ⟨N1, 0, none⟩ (.int .u8 ((C : Int)))) (N1) 64 28 (spS (p ^ i) a (j + 1)) := ((B2.set (v := C) (rfl)).congr (fun k _ => by have h := HSJ.out k; rw [← HC.out] at h; exact h))
           have qhb : Below w.heap.size w (wr.setCell ⟨N1, 0, none⟩ (.int .u8 ((C : Int)))) := (hb.setCell (by show w.heap.size ≤ (N1); omega) _)
           obtain ⟨W4, hwo⟩ : ∃ v : World, v = (wr.setCell ⟨N1, 0, none⟩ (.int .u8 ((C : Int)))) := ⟨_, rfl⟩
           rw [← hwo] at qB0 qB1 qB2 qhb ⊢
           clear hwo
           clear B0 B1 B2 hb
           have B0 := qB0
           have B1 := qB1
           have B2 := qB2
           have hb := qhb
           clear qB0 qB1 qB2 qhb
           try simp only [Act.put, pA, pB, pC]
           go_wp2_with fail
           go_roundw
           case rel => exact ⟨j + 1, by go_num, by omega, HNO, hb, B0, B1, B2⟩
           case measure => simp [intOf] <;> omega
       · have hsI : ¬ (s : Int) < (i : Int) := by omega
         obtain rfl : s = i := by omega
         have HAQ := Lib.hid (show A = j * p ^ s by exact hA.out)
         have HSJ := Lib.hid (show ∀ k, (if k = A then a j else spS (p ^ s) a j k) = spS (p ^ s) a (j + 1) k from fun k => by rw [HAQ.out]; exact HSS.out j k)
         have cc : wr.cell? ⟨w.heap.size, j, none⟩ = some (.int .u8 (C : Int)) := by have h := B0.cell (i := j) hj6; rw [← HC.out] at h; exact h
         have hA64 : A < 64 := by omega
         have c5 := B2.cell (i := A) hA64
         have zz := B2.frozen A
         have HNO := Lib.hid (show ∀ t, t < j + 1 → a t ≠ 0 → t * p ^ s ≤ 63 from fun t h1 h2 => by
          by_cases e : t = j
          · subst e; have := HAQ.out; omega
          · exact hno.out t (by omega) h2)
         go_upto_region 4 with (fail)
         clear cc c5 zz
         have lt_B0 := B0.lt
         have lt_B1 := B1.lt
         have lt_B2 := B2.lt
         have qB0 : Blk (wr.setCell ⟨N1, A, none⟩ (.int .u8 ((C : Int)))) (w.heap.size) 64 28 (a) := (B0.setOther (by show (w.heap.size) ≠ (N1); omega))
         have qB1 : Blk (wr.setCell ⟨N1, A, none⟩ (.int .u8 ((C : Int)))) (w.heap.size + 1) 64 28 (fun _ => 0) := (B1.setOther (by show (w.heap.size + 1) ≠ (N1); omega))
         have qB2 : Blk (wr.setCell ⟨N1, A, none⟩ (.int .u8 ((C : Int)))) (N1) 64 28 (spS (p ^ s) a (j + 1)) := ((B2.set (v := C) (rfl)).congr (fun k _ => by have h := HSJ.out k; rw [← HC.out] at h; exact h))
         have qhb : Below w.heap.size w (wr.setCell ⟨N1, A, none⟩ (.int .u8 ((C : Int)))) := (hb.setCell (by show w.heap.size ≤ (N1); omega) _)
         obtain ⟨W4, hwo⟩ : ∃ v : World, v = (wr.setCell ⟨N1, A, none⟩ (.int .u8 ((C : Int)))) := ⟨_, rfl⟩
         rw [← hwo] at qB0 qB1 qB2 qhb ⊢
         clear hwo
         clear B0 B1 B2 hb
         have B0 := qB0
         have B1 := qB1
         have B2 := qB2
         have hb := qhb
         clear qB0 qB1 qB2 qhb
         try simp only [Act.put, pA, pB, pC]
         go_wp2_with fail
         go_roundw
         case rel => exact ⟨j + 1, by go_num, by omega, HNO, hb, B0, B1, B2⟩
         case measure => simp [intOf] <;> omega
  · have hji : ¬ (j : Int) ≤ (NN : Int) - 1 := by omega
    obtain rfl : j = NN := by omega
    exact absurd hno.out HEND.out
end Go.Proofs.Ytelgefgphhebnaa
end
