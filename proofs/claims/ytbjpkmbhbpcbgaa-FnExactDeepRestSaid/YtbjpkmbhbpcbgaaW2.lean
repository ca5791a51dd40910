/-
  Walks: the code of a list of polynomials.
-/
import Derived.Test.YtbjpkmbhbpcbgaaW1
namespace Go.Proofs.Ytbjpkmbhbpcbgaa
open Go.RowKit
theorem codeL_p {p : Int} {fs : List (Nat → Nat)} (h : okP p = false) : codeL p fs = 1 := by simp [codeL, h]
theorem codeL_bad {p : Int} {fs : List (Nat → Nat)} {k : Nat} {f : Nat → Nat} (hk : fs[k]? = some f) (h : okA p f = false) : codeL p fs = 1 := by
  have : ¬ (fs.all (okA p) = true) := by
    rw [List.all_eq_true]
    intro h2
    have := h2 f (List.mem_of_getElem? hk)
    rw [h] at this; cases this
  simp [codeL, this]
theorem codeL_ok {p : Int} {fs : List (Nat → Nat)} (hp : okP p = true) (h : ∀ (j : Nat) (f : Nat → Nat), fs[j]? = some f → okA p f = true) : codeL p fs = 0 := by
  have : fs.all (okA p) = true := by
    rw [List.all_eq_true]
    intro f hf
    obtain ⟨j, hj⟩ := List.getElem?_of_mem hf
    exact h j f hj
  simp [codeL, hp, this]
set_option maxRecDepth 100000 in
set_option maxHeartbeats 800000 in
theorem checkPolys_any (p : Int) (fs : List (Nat → Nat)) (hf : ∀ f ∈ fs, byte f) (b : Nat) (w : World) (hs : PolS w b fs) (hl : fs.length ≤ 8) :
    Calls Try.prog 77 #[.int .i64 p, .slice (some ⟨b, 0, none⟩) fs.length fs.length] w fun e w' => e = .returned (.int .i64 (codeL p fs)) ∧ Below w.heap.size w w' := by
  cases hp : okP p with
  | false =>
    go_enter Try.func77, Try.ntmps77
    go_wp2_with (go_at_call 149; refine (isPrime_any _ _).mono ?_; rintro e w' ⟨rfl, rfl⟩)
    go_ret
    exact ⟨ret_int (codeL_p hp).symm, Below.refl _ _⟩
  | true =>
    go_enter Try.func77, Try.ntmps77
    go_wp2_with (go_at_call 149; refine (isPrime_any _ _).mono ?_; rintro e w' ⟨rfl, rfl⟩)
    go_loopw [12] (fun i wr => ∃ k : Nat, k ≤ fs.length ∧ (∀ j f, j < k → fs[j]? = some f → okA p f = true) ∧ i = .int .i64 (k : Int) ∧ Below w.heap.size w wr) (fun i _ => fs.length - (intOf i).toNat)
    case atStart => exact ⟨0, by omega, fun j f hj => by omega, rfl, Below.refl _ _⟩
    case round =>
      obtain ⟨k, hk, hall, rfl, hb⟩ := hrel
      have HA := Lib.hid hall; clear hall
      by_cases hlt : k < fs.length
      · obtain ⟨f, hfk⟩ : ∃ f, fs[k]? = some f := ⟨_, List.getElem?_eq_getElem hlt⟩
        have hr := (hs.below hb hs.lt).range hfk
        have HK := Lib.hid hfk
        have hbf := hf f (List.mem_of_getElem? hfk)
        clear hfk
        have hb2 := okP_le hp
        cases hkk : okA p f with
        | false =>
          go_wp2_with (first | refine wpList_load_mid rfl 23 _ rfl b (k * 64) rfl _ _ hr Try.underlying23 rfl (by rw [bl_length]; exact Try.size23) ?_ | refine wpList_store_new rfl 23 _ _ rfl _ 23 64 f rfl rfl rfl Try.size23 ?_ | refine wpList_load_blk rfl 23 _ rfl _ rfl 64 23 _ (Blk.new _ _ _ _) 5 Try.underlying23 Try.size23 ?_ | (go_at_call 150; refine (IsPoly_any _ _ hbf _).mono ?_; rintro e w' ⟨rfl, hw⟩))
          go_ret
          exact ⟨ret_int (codeL_bad HK.out hkk).symm, hb.trans (((below_alloc' _ _).trans (hw.mono (by simp))).mono hb.size)⟩
        | true =>
          go_wp2_with (first | refine wpList_load_mid rfl 23 _ rfl b (k * 64) rfl _ _ hr Try.underlying23 rfl (by rw [bl_length]; exact Try.size23) ?_ | refine wpList_store_new rfl 23 _ _ rfl _ 23 64 f rfl rfl rfl Try.size23 ?_ | refine wpList_load_blk rfl 23 _ rfl _ rfl 64 23 _ (Blk.new _ _ _ _) 5 Try.underlying23 Try.size23 ?_ | (go_at_call 150; refine (IsPoly_any _ _ hbf _).mono ?_; rintro e w' ⟨rfl, hw⟩))
          go_roundw
          case rel =>
            refine ⟨k + 1, by omega, fun j g hj hg => ?_, by go_num, hb.trans (((below_alloc' _ _).trans (hw.mono (by simp))).mono hb.size)⟩
            by_cases e : j = k
            · subst e
              have := HK.out
              rw [hg] at this
              injection this with this
              subst this
              exact hkk
            · exact HA.out j g (by omega) hg
          case measure => simp [intOf]; omega
      · go_wp2_with fail
        go_ret
        refine ⟨ret_int (codeL_ok hp fun j f hj => HA.out j f ?_ hj).symm, hb⟩
        have := (List.getElem?_eq_some_iff.1 hj).1
        omega
set_option maxRecDepth 100000 in
set_option maxHeartbeats 800000 in
theorem l01Code_any (p : Int) (fs : List (Nat → Nat)) (hf : ∀ f ∈ fs, byte f) (b : Nat) (w : World) (hs : PolS w b fs) (hl : fs.length ≤ 8) :
    Calls Try.prog 72 #[.int .i64 p, .slice (some ⟨b, 0, none⟩) fs.length fs.length] w fun e w' => e = .returned (.int .i64 (codeL p fs)) ∧ Below w.heap.size w w' := by
  cases hp : okP p with
  | false =>
    go_enter Try.func72, Try.ntmps72
    go_wp2_with (go_at_call 147; refine (l01Prime_any _ _).mono ?_; rintro e w' ⟨rfl, rfl⟩)
    go_ret
    exact ⟨ret_int (codeL_p hp).symm, Below.refl _ _⟩
  | true =>
    go_enter Try.func72, Try.ntmps72
    go_wp2_with (go_at_call 147; refine (l01Prime_any _ _).mono ?_; rintro e w' ⟨rfl, rfl⟩)
    go_loopw [5] (fun i wr => ∃ k : Nat, k ≤ fs.length ∧ (∀ j f, j < k → fs[j]? = some f → okA p f = true) ∧ i = .int .i64 (k : Int) ∧ Below w.heap.size w wr) (fun i _ => fs.length - (intOf i).toNat)
    case atStart => exact ⟨0, by omega, fun j f hj => by omega, rfl, Below.refl _ _⟩
    case round =>
      obtain ⟨k, hk, hall, rfl, hb⟩ := hrel
      have HA := Lib.hid hall; clear hall
      by_cases hlt : k < fs.length
      · obtain ⟨f, hfk⟩ : ∃ f, fs[k]? = some f := ⟨_, List.getElem?_eq_getElem hlt⟩
        have hr := (hs.below hb hs.lt).range hfk
        have HK := Lib.hid hfk
        have hbf := hf f (List.mem_of_getElem? hfk)
        clear hfk
        cases hkk : okA p f with
        | false =>
          go_wp2_with (first | refine wpList_load_mid rfl 23 _ rfl b (k * 64) rfl _ _ hr Try.underlying23 rfl (by rw [bl_length]; exact Try.size23) ?_ | (go_at_call 148; refine (l01Is_any _ _ hbf _).mono ?_; rintro e w' ⟨rfl, hw⟩))
          go_ret
          exact ⟨ret_int (codeL_bad HK.out hkk).symm, hb.trans (hw.mono hb.size)⟩
        | true =>
          go_wp2_with (first | refine wpList_load_mid rfl 23 _ rfl b (k * 64) rfl _ _ hr Try.underlying23 rfl (by rw [bl_length]; exact Try.size23) ?_ | (go_at_call 148; refine (l01Is_any _ _ hbf _).mono ?_; rintro e w' ⟨rfl, hw⟩))
          go_roundw
          case rel =>
            refine ⟨k + 1, by omega, fun j g hj hg => ?_, by go_num, hb.trans (hw.mono hb.size)⟩
            by_cases e : j = k
            · subst e
              have := HK.out
              rw [hg] at this
              injection this with this
              subst this
              exact hkk
            · exact HA.out j g (by omega) hg
          case measure => simp [intOf]; omega
      · go_wp2_with fail
        go_ret
        refine ⟨ret_int (codeL_ok hp fun j f hj => HA.out j f ?_ hj).symm, hb⟩
        have := (List.getElem?_eq_some_iff.1 hj).1
        omega
end Go.Proofs.Ytbjpkmbhbpcbgaa
