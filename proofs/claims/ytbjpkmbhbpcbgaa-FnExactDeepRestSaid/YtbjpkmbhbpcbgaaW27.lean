/-
  Walks: monic polynomials, moduli, and the codes of residues.
-/
import Derived.Test.YtbjpkmbhbpcbgaaW24
import Derived.Test.YtbjpkmbhbpcbgaaMa
namespace Go.Proofs.Ytbjpkmbhbpcbgaa
open Go.RowKit
set_option linter.unusedVariables false
set_option linter.unusedSimpArgs false
attribute [local irreducible] deg invN dS qS stp stpr quoP resP oneP bzD bzU bzW
/-- monic, of a degree in 1..c -/
def monUp (c : Int) (f : Nat → Nat) : Bool := decide (1 ≤ deg f ∧ deg f ≤ c ∧ f (deg f).toNat = 1)
def monB (f : Nat → Nat) : Bool := decide (0 ≤ deg f ∧ f (deg f).toNat = 1)
theorem monUp_no1 {c : Int} {f : Nat → Nat} (h : ¬ 1 ≤ deg f) : monUp c f = false := by unfold monUp; simp; intro h2; omega
theorem monUp_no2 {c : Int} {f : Nat → Nat} (h : ¬ deg f ≤ c) : monUp c f = false := by unfold monUp; simp; intro _ h2; omega
theorem monUp_at {c : Int} {f : Nat → Nat} {m : Nat} (hm : deg f = (m : Int)) (h1 : 1 ≤ m) (h2 : (m : Int) ≤ c) : monUp c f = ((f m : Int) == 1) := by
  unfold monUp
  rw [hm, Int.toNat_natCast, Bool.eq_iff_iff]
  simp
  omega
theorem monB_no {f : Nat → Nat} (h : ¬ 0 ≤ deg f) : monB f = false := by unfold monB; simp; intro h2; omega
theorem monB_at {f : Nat → Nat} {m : Nat} (hm : deg f = (m : Int)) : monB f = ((f m : Int) == 1) := by
  unfold monB
  rw [hm, Int.toNat_natCast, Bool.eq_iff_iff]
  simp
  omega
theorem monUp_B {c : Int} {f : Nat → Nat} : monUp c f = (monB f && decide (1 ≤ deg f ∧ deg f ≤ c)) := by
  unfold monUp monB
  rw [Bool.eq_iff_iff]
  simp
  constructor
  · rintro ⟨a, b, c⟩; exact ⟨⟨by omega, c⟩, a, b⟩
  · rintro ⟨⟨a, b⟩, c, d⟩; exact ⟨c, d, b⟩
theorem mon_up {c : Int} {f : Nat → Nat} (h : monUp c f = true) : ∃ d : Nat, mon f d ∧ 1 ≤ d ∧ (d : Int) ≤ c := by
  unfold monUp at h
  simp at h
  obtain ⟨d, hd⟩ : ∃ d : Nat, deg f = (d : Int) := ⟨(deg f).toNat, by omega⟩
  refine ⟨d, ⟨hd, ?_⟩, by omega, by omega⟩
  have := h.2.2
  rwa [hd, Int.toNat_natCast] at this
set_option maxRecDepth 100000 in
set_option maxHeartbeats 400000 in
theorem isMonicUpTo_any (c : Int) (f : Nat → Nat) (hf : byte f) (w : World) (c1 : 0 ≤ c) (c2 : c ≤ 63) :
    Calls Try.prog 123 #[.int .i64 c, .agg (bcells 64 f)] w fun e w' => e = .returned (.bool (monUp c f)) ∧ Below w.heap.size w w' := by
  obtain ⟨fb1, fb2⟩ := deg_bounds f
  go_enter Try.func123, Try.ntmps123
  go_upto_region 1 with (fail)
  obtain ⟨W1, hwo⟩ : ∃ v : World, v = (w.alloc (.cells (bcells 64 (f)) 23)) := ⟨_, rfl⟩
  have B0 : Blk W1 (w.heap.size) 64 23 (f) := by subst hwo; have := (Blk.new w 64 23 (f)); simpa using this
  have hb : Below w.heap.size w W1 := by subst hwo; exact ((Below.refl _ _).alloc (Nat.le_refl _) _)
  rw [← hwo]
  clear hwo
  go_upto_region 2 with (first | (refine wpList_load_any rfl 23 (.tmp 3) rfl _ rfl 64 23 _ (B0) _ Try.underlying23 rfl Try.size23 ?_) | (go_at_call 78; refine (degree_any f _).mono ?_; rintro e W2 ⟨rfl, hW2⟩; replace B0 := B0.below hW2 B0.lt; replace hb := (hb).trans (hW2.mono (hb).size)))
  by_cases h1 : 1 ≤ deg f
  · by_cases h2 : deg f ≤ c
    · obtain ⟨m, hm⟩ : ∃ m : Nat, deg f = (m : Int) := ⟨(deg f).toNat, by omega⟩
      have HV := Lib.hid (monUp_at (c := c) hm (by omega) (by omega))
      rw [hm]
      have cc := B0.cell (i := m) (by omega)
      have hfm := hf m
      have g1 : (1 : Int) ≤ (m : Int) := by omega
      have g2 : (m : Int) ≤ c := by omega
      have g3 : m < 64 := by omega
      clear hm h1 h2
      go_wp2_with fail
      go_ret
      exact ⟨ret_bool HV.out.symm, hb⟩
    · have HV := Lib.hid (monUp_no2 (c := c) h2)
      have h3 : c < deg f := by omega
      clear h2
      go_wp2_with fail
      go_ret
      exact ⟨ret_bool HV.out.symm, hb⟩
  · have HV := Lib.hid (monUp_no1 (c := c) h1)
    have h3 : deg f < 1 := by omega
    clear h1
    go_wp2_with fail
    go_ret
    exact ⟨ret_bool HV.out.symm, hb⟩
set_option maxRecDepth 100000 in
theorem isModulus_any (f : Nat → Nat) (hf : byte f) (w : World) : Calls Try.prog 156 #[.agg (bcells 64 f)] w fun e w' => e = .returned (.bool (monUp 5 f)) ∧ Below w.heap.size w w' := by
  go_enter Try.func156, Try.ntmps156
  go_upto_region 1 with (fail)
  obtain ⟨W1, hwo⟩ : ∃ v : World, v = (w.alloc (.cells (bcells 64 (f)) 23)) := ⟨_, rfl⟩
  have B0 : Blk W1 (w.heap.size) 64 23 (f) := by subst hwo; have := (Blk.new w 64 23 (f)); simpa using this
  have hb : Below w.heap.size w W1 := by subst hwo; exact ((Below.refl _ _).alloc (Nat.le_refl _) _)
  rw [← hwo]
  clear hwo
  go_wp2_with (first | (refine wpList_load_any rfl 23 (.tmp 1) rfl _ rfl 64 23 _ (B0) _ Try.underlying23 rfl Try.size23 ?_) | (go_at_call 123; refine (isMonicUpTo_any 5 f hf _ (by omega) (by omega)).mono ?_; rintro e W2 ⟨rfl, hW2⟩; replace B0 := B0.below hW2 B0.lt; replace hb := (hb).trans (hW2.mono (hb).size)))
  go_ret
  exact ⟨rfl, hb⟩
set_option maxRecDepth 100000 in
theorem l01Monic_any (f : Nat → Nat) (hf : byte f) (w : World) : Calls Try.prog 121 #[.agg (bcells 64 f)] w fun e w' => e = .returned (.bool (monB f)) ∧ Below w.heap.size w w' := by
  obtain ⟨fb1, fb2⟩ := deg_bounds f
  go_enter Try.func121, Try.ntmps121
  go_upto_region 1 with (fail)
  obtain ⟨W1, hwo⟩ : ∃ v : World, v = (w.alloc (.cells (bcells 64 (f)) 23)) := ⟨_, rfl⟩
  have B0 : Blk W1 (w.heap.size) 64 23 (f) := by subst hwo; have := (Blk.new w 64 23 (f)); simpa using this
  have hb : Below w.heap.size w W1 := by subst hwo; exact ((Below.refl _ _).alloc (Nat.le_refl _) _)
  rw [← hwo]
  clear hwo
  go_upto_region 2 with (first | (refine wpList_load_any rfl 23 (.tmp 1) rfl _ rfl 64 23 _ (B0) _ Try.underlying23 rfl Try.size23 ?_) | (go_at_call 73; refine (l01Deg_any f _).mono ?_; rintro e W2 ⟨rfl, hW2⟩; replace B0 := B0.below hW2 B0.lt; replace hb := (hb).trans (hW2.mono (hb).size)))
  by_cases h1 : 0 ≤ deg f
  · obtain ⟨m, hm⟩ : ∃ m : Nat, deg f = (m : Int) := ⟨(deg f).toNat, by omega⟩
    have HV := Lib.hid (monB_at hm)
    rw [hm]
    have cc := B0.cell (i := m) (by omega)
    have hfm := hf m
    have g3 : m < 64 := by omega
    clear hm h1
    go_wp2_with fail
    go_ret
    exact ⟨ret_bool HV.out.symm, hb⟩
  · have HV := Lib.hid (monB_no h1)
    have h3 : deg f < 0 := by omega
    clear h1
    go_wp2_with fail
    go_ret
    exact ⟨ret_bool HV.out.symm, hb⟩
/-- the code of a modulus and polynomials -/
def modV (p : Int) (m : Nat → Nat) (fs : List (Nat → Nat)) : Int := if codeL p [m] = 0 ∧ codeL p fs = 0 then (if monUp 5 m then 0 else 2) else 1
theorem modV_1 {p : Int} {m : Nat → Nat} {fs : List (Nat → Nat)} (h : codeL p [m] = 1) : modV p m fs = 1 := by
  unfold modV; rw [if_neg (fun h2 => by rw [h] at h2; exact absurd h2.1 (by decide))]
theorem modV_2 {p : Int} {m : Nat → Nat} {fs : List (Nat → Nat)} (h : codeL p fs = 1) : modV p m fs = 1 := by
  unfold modV; rw [if_neg (fun h2 => by rw [h] at h2; exact absurd h2.2 (by decide))]
theorem modV_3 {p : Int} {m : Nat → Nat} {fs : List (Nat → Nat)} (h1 : codeL p [m] = 0) (h2 : codeL p fs = 0) (h : monUp 5 m = false) : modV p m fs = 2 := by
  unfold modV; rw [if_pos ⟨h1, h2⟩, h]; rfl
theorem modV_0 {p : Int} {m : Nat → Nat} {fs : List (Nat → Nat)} (h1 : codeL p [m] = 0) (h2 : codeL p fs = 0) (h : monUp 5 m = true) : modV p m fs = 0 := by
  unfold modV; rw [if_pos ⟨h1, h2⟩, h]; rfl
set_option maxRecDepth 100000 in
set_option maxHeartbeats 800000 in
theorem checkModulus_any (p : Int) (m : Nat → Nat) (hmb : byte m) (fs : List (Nat → Nat)) (hfs : ∀ f ∈ fs, byte f) (bb : Nat) (w : World) (hs : PolS w bb fs) (hl : fs.length ≤ 8) :
    Calls Try.prog 87 #[.int .i64 p, .agg (bcells 64 m), .slice (some ⟨bb, 0, none⟩) fs.length fs.length] w fun e w' => e = .returned (.int .i64 (modV p m fs)) ∧ Below w.heap.size w w' := by
  obtain ⟨fb1, fb2⟩ := deg_bounds m
  have hslt := hs.lt
  go_enter Try.func87, Try.ntmps87
  go_upto_region 1 with (fail)
  obtain ⟨W1, hwo⟩ : ∃ v : World, v = (w.alloc (.cells (bcells 64 (m)) 23)) := ⟨_, rfl⟩
  have B0 : Blk W1 (w.heap.size) 64 23 (m) := by subst hwo; have := (Blk.new w 64 23 (m)); simpa using this
  have hb : Below w.heap.size w W1 := by subst hwo; exact ((Below.refl _ _).alloc (Nat.le_refl _) _)
  rw [← hwo]
  clear hwo
  rcases codeL_two p [m] with hc1 | hc1
  · rcases codeL_two p fs with hc2 | hc2
    · cases hm5 : monUp 5 m with
      | false =>
        have HV := Lib.hid (modV_3 hc1 hc2 hm5)
        go_upto_region 3 with (first | (refine wpList_load_any rfl 23 (.tmp 4) rfl _ rfl 64 23 _ B0 _ Try.underlying23 rfl Try.size23 ?_) | (refine wpList_build_polys rfl 47 _ [m] rfl 23 rfl Try.underlying47 Try.elem23 (by simp) (by simp) rfl ?_; intro wa hwa hps hba; clear hwa) | (go_at_call 77; refine (checkPolys_any p [m] (by simp [hmb]) _ _ hps (by simp)).mono ?_; rintro e W2 ⟨rfl, hbb⟩; replace B0 := B0.below (hba.trans (hbb.mono hba.size)) B0.lt; replace hb := hb.trans ((hba.trans (hbb.mono hba.size)).mono hb.size); clear hps; rw [hc1]) | (go_at_call 77; refine (checkPolys_any p fs hfs bb _ (hs.below hb hslt) hl).mono ?_; rintro e W3 ⟨rfl, hb3⟩; replace B0 := B0.below hb3 B0.lt; replace hb := hb.trans (hb3.mono hb.size); rw [hc2]))
        clear hba hbb hb3 hs hslt hfs
        go_upto_region 4 with (first | (refine wpList_load_any rfl 23 (.tmp 4) rfl _ rfl 64 23 _ (B0) _ Try.underlying23 rfl Try.size23 ?_) | (go_at_call 156; refine (isModulus_any m hmb _).mono ?_; rintro e W2 ⟨rfl, hW2⟩; replace B0 := B0.below hW2 B0.lt; replace hb := (hb).trans (hW2.mono (hb).size); rw [hm5]))
        go_wp2_with fail
        go_ret
        exact ⟨ret_int HV.out.symm, hb⟩
      | true =>
        have HV := Lib.hid (modV_0 hc1 hc2 hm5)
        go_upto_region 3 with (first | (refine wpList_load_any rfl 23 (.tmp 4) rfl _ rfl 64 23 _ B0 _ Try.underlying23 rfl Try.size23 ?_) | (refine wpList_build_polys rfl 47 _ [m] rfl 23 rfl Try.underlying47 Try.elem23 (by simp) (by simp) rfl ?_; intro wa hwa hps hba; clear hwa) | (go_at_call 77; refine (checkPolys_any p [m] (by simp [hmb]) _ _ hps (by simp)).mono ?_; rintro e W2 ⟨rfl, hbb⟩; replace B0 := B0.below (hba.trans (hbb.mono hba.size)) B0.lt; replace hb := hb.trans ((hba.trans (hbb.mono hba.size)).mono hb.size); clear hps; rw [hc1]) | (go_at_call 77; refine (checkPolys_any p fs hfs bb _ (hs.below hb hslt) hl).mono ?_; rintro e W3 ⟨rfl, hb3⟩; replace B0 := B0.below hb3 B0.lt; replace hb := hb.trans (hb3.mono hb.size); rw [hc2]))
        clear hba hbb hb3 hs hslt hfs
        go_upto_region 5 with (first | (refine wpList_load_any rfl 23 (.tmp 4) rfl _ rfl 64 23 _ (B0) _ Try.underlying23 rfl Try.size23 ?_) | (go_at_call 156; refine (isModulus_any m hmb _).mono ?_; rintro e W2 ⟨rfl, hW2⟩; replace B0 := B0.below hW2 B0.lt; replace hb := (hb).trans (hW2.mono (hb).size); rw [hm5]))
        go_wp2_with fail
        go_ret
        exact ⟨ret_int HV.out.symm, hb⟩
    · have HV := Lib.hid (modV_2 (m := m) hc2)
      go_upto_region 2 with (first | (refine wpList_load_any rfl 23 (.tmp 4) rfl _ rfl 64 23 _ B0 _ Try.underlying23 rfl Try.size23 ?_) | (refine wpList_build_polys rfl 47 _ [m] rfl 23 rfl Try.underlying47 Try.elem23 (by simp) (by simp) rfl ?_; intro wa hwa hps hba; clear hwa) | (go_at_call 77; refine (checkPolys_any p [m] (by simp [hmb]) _ _ hps (by simp)).mono ?_; rintro e W2 ⟨rfl, hbb⟩; replace B0 := B0.below (hba.trans (hbb.mono hba.size)) B0.lt; replace hb := hb.trans ((hba.trans (hbb.mono hba.size)).mono hb.size); clear hps; rw [hc1]) | (go_at_call 77; refine (checkPolys_any p fs hfs bb _ (hs.below hb hslt) hl).mono ?_; rintro e W3 ⟨rfl, hb3⟩; replace B0 := B0.below hb3 B0.lt; replace hb := hb.trans (hb3.mono hb.size); rw [hc2]))
      go_wp2_with fail
      go_ret
      exact ⟨ret_int HV.out.symm, hb⟩
  · have HV := Lib.hid (modV_1 (fs := fs) hc1)
    go_upto_region 2 with (first | (refine wpList_load_any rfl 23 (.tmp 4) rfl _ rfl 64 23 _ B0 _ Try.underlying23 rfl Try.size23 ?_) | (refine wpList_build_polys rfl 47 _ [m] rfl 23 rfl Try.underlying47 Try.elem23 (by simp) (by simp) rfl ?_; intro wa hwa hps hba; clear hwa) | (go_at_call 77; refine (checkPolys_any p [m] (by simp [hmb]) _ _ hps (by simp)).mono ?_; rintro e W2 ⟨rfl, hbb⟩; replace B0 := B0.below (hba.trans (hbb.mono hba.size)) B0.lt; replace hb := hb.trans ((hba.trans (hbb.mono hba.size)).mono hb.size); clear hps; rw [hc1]))
    go_wp2_with fail
    go_ret
    exact ⟨ret_int HV.out.symm, hb⟩
set_option maxRecDepth 100000 in
set_option maxHeartbeats 800000 in
theorem l02Modulus_any (p : Int) (m : Nat → Nat) (hmb : byte m) (fs : List (Nat → Nat)) (hfs : ∀ f ∈ fs, byte f) (bb : Nat) (w : World) (hs : PolS w bb fs) (hl : fs.length ≤ 8) :
    Calls Try.prog 82 #[.int .i64 p, .agg (bcells 64 m), .slice (some ⟨bb, 0, none⟩) fs.length fs.length] w fun e w' => e = .returned (.int .i64 (modV p m fs)) ∧ Below w.heap.size w w' := by
  obtain ⟨fb1, fb2⟩ := deg_bounds m
  have hslt := hs.lt
  go_enter Try.func82, Try.ntmps82
  go_upto_region 1 with (fail)
  obtain ⟨W1, hwo⟩ : ∃ v : World, v = (w.alloc (.cells (bcells 64 (m)) 23)) := ⟨_, rfl⟩
  have B0 : Blk W1 (w.heap.size) 64 23 (m) := by subst hwo; have := (Blk.new w 64 23 (m)); simpa using this
  have hb : Below w.heap.size w W1 := by subst hwo; exact ((Below.refl _ _).alloc (Nat.le_refl _) _)
  rw [← hwo]
  clear hwo
  rcases codeL_two p [m] with hc1 | hc1
  · rcases codeL_two p fs with hc2 | hc2
    · cases hm5 : monUp 5 m with
      | false =>
        have HV := Lib.hid (modV_3 hc1 hc2 hm5)
        go_upto_region 3 with (first | (refine wpList_load_any rfl 23 (.tmp 4) rfl _ rfl 64 23 _ B0 _ Try.underlying23 rfl Try.size23 ?_) | (refine wpList_build_polys rfl 47 _ [m] rfl 23 rfl Try.underlying47 Try.elem23 (by simp) (by simp) rfl ?_; intro wa hwa hps hba; clear hwa) | (go_at_call 72; refine (l01Code_any p [m] (by simp [hmb]) _ _ hps (by simp)).mono ?_; rintro e W2 ⟨rfl, hbb⟩; replace B0 := B0.below (hba.trans (hbb.mono hba.size)) B0.lt; replace hb := hb.trans ((hba.trans (hbb.mono hba.size)).mono hb.size); clear hps; rw [hc1]) | (go_at_call 72; refine (l01Code_any p fs hfs bb _ (hs.below hb hslt) hl).mono ?_; rintro e W3 ⟨rfl, hb3⟩; replace B0 := B0.below hb3 B0.lt; replace hb := hb.trans (hb3.mono hb.size); rw [hc2]))
        clear hba hbb hb3 hs hslt hfs
        cases hmo : monB m with
        | false =>
          go_upto_region 4 with (first | (refine wpList_load_any rfl 23 (.tmp 4) rfl _ rfl 64 23 _ (B0) _ Try.underlying23 rfl Try.size23 ?_) | (go_at_call 121; refine (l01Monic_any m hmb _).mono ?_; rintro e W2 ⟨rfl, hW2⟩; replace B0 := B0.below hW2 B0.lt; replace hb := (hb).trans (hW2.mono (hb).size); rw [hmo]))
          go_wp2_with fail
          go_ret
          exact ⟨ret_int HV.out.symm, hb⟩
        | true =>
          have hnr : ¬ (1 ≤ deg m ∧ deg m ≤ 5) := by intro h; rw [monUp_B, hmo] at hm5; simp at hm5; omega
          go_upto_region 4 with (first | (refine wpList_load_any rfl 23 (.tmp 4) rfl _ rfl 64 23 _ (B0) _ Try.underlying23 rfl Try.size23 ?_) | (go_at_call 121; refine (l01Monic_any m hmb _).mono ?_; rintro e W2 ⟨rfl, hW2⟩; replace B0 := B0.below hW2 B0.lt; replace hb := (hb).trans (hW2.mono (hb).size); rw [hmo]) | (refine wpList_load_any_g rfl 23 (.tmp 4) rfl _ rfl 64 23 _ (B0) _ Try.underlying23 rfl Try.size23 ?_) | (go_at_call 73; refine (l01Deg_any m _).mono ?_; rintro e W3 ⟨rfl, hW3⟩; replace B0 := B0.below hW3 B0.lt; replace hb := (hb).trans (hW3.mono (hb).size)) | (go_at_call 74; refine (l01In_no (deg m) 1 5 hnr _).mono ?_; rintro e wS ⟨rfl, rfl⟩))
          go_wp2_with fail
          go_ret
          exact ⟨ret_int HV.out.symm, hb⟩
      | true =>
        have HV := Lib.hid (modV_0 hc1 hc2 hm5)
        go_upto_region 3 with (first | (refine wpList_load_any rfl 23 (.tmp 4) rfl _ rfl 64 23 _ B0 _ Try.underlying23 rfl Try.size23 ?_) | (refine wpList_build_polys rfl 47 _ [m] rfl 23 rfl Try.underlying47 Try.elem23 (by simp) (by simp) rfl ?_; intro wa hwa hps hba; clear hwa) | (go_at_call 72; refine (l01Code_any p [m] (by simp [hmb]) _ _ hps (by simp)).mono ?_; rintro e W2 ⟨rfl, hbb⟩; replace B0 := B0.below (hba.trans (hbb.mono hba.size)) B0.lt; replace hb := hb.trans ((hba.trans (hbb.mono hba.size)).mono hb.size); clear hps; rw [hc1]) | (go_at_call 72; refine (l01Code_any p fs hfs bb _ (hs.below hb hslt) hl).mono ?_; rintro e W3 ⟨rfl, hb3⟩; replace B0 := B0.below hb3 B0.lt; replace hb := hb.trans (hb3.mono hb.size); rw [hc2]))
        clear hba hbb hb3 hs hslt hfs
        have hmo : monB m = true := by cases h : monB m with | true => rfl | false => rw [monUp_B, h] at hm5; simp at hm5
        have hyr : 1 ≤ deg m ∧ deg m ≤ 5 := by rw [monUp_B, hmo] at hm5; simpa using hm5
        go_upto_region 5 with (first | (refine wpList_load_any rfl 23 (.tmp 4) rfl _ rfl 64 23 _ (B0) _ Try.underlying23 rfl Try.size23 ?_) | (go_at_call 121; refine (l01Monic_any m hmb _).mono ?_; rintro e W2 ⟨rfl, hW2⟩; replace B0 := B0.below hW2 B0.lt; replace hb := (hb).trans (hW2.mono (hb).size); rw [hmo]) | (refine wpList_load_any_g rfl 23 (.tmp 4) rfl _ rfl 64 23 _ (B0) _ Try.underlying23 rfl Try.size23 ?_) | (go_at_call 73; refine (l01Deg_any m _).mono ?_; rintro e W3 ⟨rfl, hW3⟩; replace B0 := B0.below hW3 B0.lt; replace hb := (hb).trans (hW3.mono (hb).size)) | (go_at_call 74; refine (l01In_yes (deg m) 1 5 hyr _).mono ?_; rintro e wS ⟨rfl, rfl⟩))
        go_wp2_with fail
        go_ret
        exact ⟨ret_int HV.out.symm, hb⟩
    · have HV := Lib.hid (modV_2 (m := m) hc2)
      go_upto_region 2 with (first | (refine wpList_load_any rfl 23 (.tmp 4) rfl _ rfl 64 23 _ B0 _ Try.underlying23 rfl Try.size23 ?_) | (refine wpList_build_polys rfl 47 _ [m] rfl 23 rfl Try.underlying47 Try.elem23 (by simp) (by simp) rfl ?_; intro wa hwa hps hba; clear hwa) | (go_at_call 72; refine (l01Code_any p [m] (by simp [hmb]) _ _ hps (by simp)).mono ?_; rintro e W2 ⟨rfl, hbb⟩; replace B0 := B0.below (hba.trans (hbb.mono hba.size)) B0.lt; replace hb := hb.trans ((hba.trans (hbb.mono hba.size)).mono hb.size); clear hps; rw [hc1]) | (go_at_call 72; refine (l01Code_any p fs hfs bb _ (hs.below hb hslt) hl).mono ?_; rintro e W3 ⟨rfl, hb3⟩; replace B0 := B0.below hb3 B0.lt; replace hb := hb.trans (hb3.mono hb.size); rw [hc2]))
      go_wp2_with fail
      go_ret
      exact ⟨ret_int HV.out.symm, hb⟩
  · have HV := Lib.hid (modV_1 (fs := fs) hc1)
    go_upto_region 2 with (first | (refine wpList_load_any rfl 23 (.tmp 4) rfl _ rfl 64 23 _ B0 _ Try.underlying23 rfl Try.size23 ?_) | (refine wpList_build_polys rfl 47 _ [m] rfl 23 rfl Try.underlying47 Try.elem23 (by simp) (by simp) rfl ?_; intro wa hwa hps hba; clear hwa) | (go_at_call 72; refine (l01Code_any p [m] (by simp [hmb]) _ _ hps (by simp)).mono ?_; rintro e W2 ⟨rfl, hbb⟩; replace B0 := B0.below (hba.trans (hbb.mono hba.size)) B0.lt; replace hb := hb.trans ((hba.trans (hbb.mono hba.size)).mono hb.size); clear hps; rw [hc1]))
    go_wp2_with fail
    go_ret
    exact ⟨ret_int HV.out.symm, hb⟩
end Go.Proofs.Ytbjpkmbhbpcbgaa
