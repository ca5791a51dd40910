/-
  What the rows of this claim rest on: arrays of bytes, walks of the functions, plain mathematics.
-/
import Derived.Test.YteloknnooebabaaZm9
import Derived.WalkKit
import Derived.WalkSpells
import Derived.WalkLawsBesides
import Derived.Lib.Hide
import Derived.Laws.Rows
import Derived.Laws.CopyOwn
import Derived.Deep.QuietTactic
import Derived.Deep.WholeRow
import Derived.Deep.Draws
import Derived.Deep.MidRow
import Derived.Deep.CutRange
import Derived.Deep.DeepCutAuto
import Derived.Deep.RegionHeld3
import Derived.BigQuiet
import Derived.BigRegion
import Derived.Test.YteloknnooebabaaRows
import Derived.Great.BuildSlice
import Derived.Laws.Tables
import Derived.Laws.StructEq
import Derived.ScopeJumps
import Derived.Handy
import Derived.Laws.MakeOwn
import Derived.OwnWalk
import Derived.RangeFuncNested
import Derived.RangeFuncBound
import Derived.RangeFuncCalls
import Derived.RangeFuncLeaves
import Derived.Shelf.Abstract
import Derived.Shelf.RegionOpen
import Derived.OwnWalkIn
import Derived.TacticsInMore
import Derived.LoopNIn
import Derived.LoopIn
import Derived.Deep.CutBlock
import Derived.Maps.OwnOps
import Derived.DeepKeys4
import Derived.Carry
import Derived.Test.YteloknnooebabaaProg
import Derived.OpenShut
import Derived.ProofKit
set_option maxRecDepth 100000
set_option maxHeartbeats 9000000
set_option linter.unusedVariables false
set_option linter.unusedSimpArgs false
namespace Go.Proofs.Yteloknnooebabaa
def codeL (p : Int) (fs : List (Nat → Nat)) : Int := if okP p && fs.all (okA p) then 0 else 1
end Go.Proofs.Yteloknnooebabaa
namespace Go.Proofs.Yteloknnooebabaa
open Go.RowKit
theorem codeL_p {p : Int} {fs : List (Nat → Nat)} (h : okP p = false) : codeL p fs = 1 := by simp [codeL, h]
theorem codeL_bad {p : Int} {fs : List (Nat → Nat)} {k : Nat} {f : Nat → Nat} (hk : fs[k]? = some f) (h : okA p f = false) : codeL p fs = 1 := by
 have : ¬ (fs.all (okA p) = true) := by
  rw [List.all_eq_true]
  intro h2
  have := h2 f (List.mem_of_getElem? hk)
  rw [h] at this; cases this
 simp [codeL, this]
theorem codeL_ok {p : Int} {fs : List (Nat → Nat)} (hp : okP p = true) (h : ∀ (j : Nat) (f : Nat → Nat), fs[j]? = some f → okA p f = true) : codeL p fs = 0 := by
 have : fs.all (okA p) = true := by
  rw [List.all_eq_true]
  intro f hf
  obtain ⟨j, hj⟩ := List.getElem?_of_mem hf
  exact h j f hj
 simp [codeL, hp, this]
theorem l01Code_any (p : Int) (fs : List (Nat → Nat)) (hf : ∀ f ∈ fs, byte f) (b : Nat) (w : World) (hs : PolS w b fs) (hl : fs.length ≤ 8) :
 Calls Try.prog 122 #[.int .i64 p, .slice (some ⟨b, 0, none⟩) fs.length fs.length] w fun e w' => e = .returned (.int .i64 (codeL p fs)) ∧ Below w.heap.size w w' := by
 cases hp : okP p with
 | false =>
  go_enter Try.func122, Try.ntmps122
  go_wp2_with (go_at_call 206; refine (l01Prime_any _ _).mono ?_; rintro e w' ⟨rfl, rfl⟩)
  go_ret
  exact ⟨ret_int (codeL_p hp).symm, Below.refl _ _⟩
 | true =>
  go_enter Try.func122, Try.ntmps122
  go_wp2_with (go_at_call 206; refine (l01Prime_any _ _).mono ?_; rintro e w' ⟨rfl, rfl⟩)
  go_loopw [5] (fun i wr => ∃ k : Nat, k ≤ fs.length ∧ (∀ j f, j < k → fs[j]? = some f → okA p f = true) ∧ i = .int .i64 (k : Int) ∧ Below w.heap.size w wr) (fun i _ => fs.length - (intOf i).toNat)
  case atStart => exact ⟨0, by omega, fun j f hj => by omega, rfl, Below.refl _ _⟩
  case round =>
   obtain ⟨k, hk, hall, rfl, hb⟩ := hrel
   have HA := Lib.hid hall; clear hall
   by_cases hlt : k < fs.length
   · obtain ⟨f, hfk⟩ : ∃ f, fs[k]? = some f := ⟨_, List.getElem?_eq_getElem hlt⟩
     have hr := (hs.zw hb).range hfk
     have HK := Lib.hid hfk
     have hbf := hf f (List.mem_of_getElem? hfk)
     clear hfk
     cases hkk : okA p f with
     | false =>
      go_wp2_with (first | refine wpList_load_mid rfl 24 _ rfl b (k * 64) rfl _ _ hr Try.underlying24 rfl (by rw [zl]; exact Try.size24) ?_ | (go_at_call 207; refine (l01Is_any _ _ hbf _).mono ?_; rintro e w' ⟨rfl, hw⟩))
      go_ret
      exact ⟨ret_int (codeL_bad HK.out hkk).symm, hb.trans (hw.mono hb.size)⟩
     | true =>
      go_wp2_with (first | refine wpList_load_mid rfl 24 _ rfl b (k * 64) rfl _ _ hr Try.underlying24 rfl (by rw [zl]; exact Try.size24) ?_ | (go_at_call 207; refine (l01Is_any _ _ hbf _).mono ?_; rintro e w' ⟨rfl, hw⟩))
      go_roundw
      case rel =>
       refine ⟨k + 1, by omega, fun j g hj hg => ?_, by go_num, hb.trans (hw.mono hb.size)⟩
       by_cases e : j = k
       · subst e
         have := HK.out
         rw [hg] at this
         injection this with this
         subst this
         exact hkk
       exact HA.out j g (by omega) hg
      case measure => simp [intOf]; omega
   go_wp2_with fail
   go_ret
   refine ⟨ret_int (codeL_ok hp fun j f hj => HA.out j f ?_ hj).symm, hb⟩
   have := (List.getElem?_eq_some_iff.1 hj).1
   omega
end Go.Proofs.Yteloknnooebabaa
namespace Go.Proofs.Yteloknnooebabaa
open Go.RowKit
theorem codeL_two (p : Int) (fs : List (Nat → Nat)) : codeL p fs = 0 ∨ codeL p fs = 1 := by
 unfold codeL; split <;> simp
theorem codeL_zero {p : Int} {fs : List (Nat → Nat)} (h : codeL p fs = 0) : okP p = true ∧ ∀ f ∈ fs, okA p f = true := by
 unfold codeL at h
 split at h
 · rename_i h'
   simpa [List.all_eq_true] using h'
 cases h
end Go.Proofs.Yteloknnooebabaa
section
namespace Go.Proofs.Yteloknnooebabaa
attribute [local irreducible] deg invN quoP resP
theorem dv_one_deg {p j : Nat} {g : Nat → Nat} (hp : 2 ≤ p) (hm : mon g j) (h : dv p (lz g) oneS) : j = 0 := by
 have e : oneS = lz oneP := by
  funext k; unfold lz oneS
  by_cases hk : k < 64
  · rw [cut_in _ hk]; unfold oneP; split <;> rfl
  rw [zcz _ (by omega), if_neg (by omega)]; rfl
 rw [e] at h
 have := dv_deg (g := oneP) (fun k _ => by unfold oneP; split <;> omega) hm h (by rw [deg_one]; omega)
 rw [deg_one] at this
 omega
end Go.Proofs.Yteloknnooebabaa
namespace Go.Proofs.Yteloknnooebabaa
attribute [local irreducible] deg invN quoP resP
theorem bzRun_udeg {p : Nat} {d : Int} (hp : p = 2 ∨ p = 3 ∨ p = 5 ∨ p = 7) (hd : 0 ≤ d) : ∀ (n : Nat) (a b u x v y : Nat → Nat), bzI p a b u x v y → deg b + 1 ≤ (n : Int) → deg b < deg a → deg u + deg a ≤ d - 1 → deg x + deg a ≤ d → deg (bzRun p n a b u x v y).2.1 ≤ d - 1
 | n, a, b, u, x, v, y, hI, hn, hlt, h1, h2 => by
  have hp0 : 0 < p := by omega
  obtain ⟨a1, a2⟩ := zdb a
  obtain ⟨b1, b2⟩ := zdb b
  by_cases hz : deg b < 0
  · rw [bzRun_stop hz]
    show deg u ≤ d - 1
    omega
  cases n with
  | zero => omega
  | succ n =>
   obtain ⟨hI', hdr, hdx, hdy⟩ := bzI_next hp hI hz
   rw [bzRun_go hz]
   obtain ⟨x1, x2⟩ := zdb x
   obtain ⟨u1, u2⟩ := zdb u
   refine bzRun_udeg hp hd n b (resP p a b) x _ y _ hI' (by push_cast at hn; omega) hdr (by omega) ?_
   have hle : deg (subP p u (prd p (quoP p a b) x)) ≤ d - deg b := by
    refine deg_le (by omega) (fun k hk hk2 => subP_zero (zero_above (f := u) (by omega) hk2) ?_)
    rcases quoP_deg hp0 hI.1 (by omega) (b := b) with hq | hq
    · exact prd_zero_left hp0 (deg_neg (by omega)) k
    exact prd_above hp0 (by omega)
   omega
theorem bzU_deg {p d : Nat} {f m : Nat → Nat} (hp : p = 2 ∨ p = 3 ∨ p = 5 ∨ p = 7) (hf : ∀ k, k < 64 → f k < p) (hm : ∀ k, k < 64 → m k < p) (hmon : mon m d) : deg (bzU p f m) ≤ (d : Int) - 1 := by
 have hp0 : 0 < p := by omega
 have hI := bzI_start (p := p) (a := f) (b := m) (by omega) hf hm (.inr (by rw [hmon.1]; omega))
 have hz : ¬ deg m < 0 := by rw [hmon.1]; omega
 obtain ⟨hI', hdr, _, _⟩ := bzI_next hp hI hz
 have h0 : deg (fun _ => 0) < 0 := deg_neg_iff.2 (fun _ _ => rfl)
 obtain ⟨z1, _⟩ := zdb (fun _ => 0)
 obtain ⟨m1, m2⟩ := zdb m
 have key := bzRun_udeg (d := (d : Int)) hp (by omega) 64 m (resP p f m) (fun _ => 0) (subP p oneP (prd p (quoP p f m) (fun _ => 0))) oneP (subP p (fun _ => 0) (prd p (quoP p f m) oneP)) hI' (by omega) hdr (by rw [hmon.1]; omega) (by
  have : deg (subP p oneP (prd p (quoP p f m) (fun _ => 0))) ≤ 0 := deg_le (by omega) (fun k hk hk2 => subP_zero (by unfold oneP; rw [if_neg (by omega)]) (prd_zero_right hp0 (fun _ _ => rfl) k))
  rw [hmon.1]; omega)
 have hV : (bzV p f m).2.1 = (bzRun p 64 m (resP p f m) (fun _ => 0) (subP p oneP (prd p (quoP p f m) (fun _ => 0))) oneP (subP p (fun _ => 0) (prd p (quoP p f m) oneP))).2.1 := by
  unfold bzV; rw [bzRun_go hz]
 rw [← hV] at key
 unfold bzU
 obtain ⟨v1, v2⟩ := zdb (bzV p f m).2.1
 refine deg_le (by omega) (fun k hk hk2 => ?_)
 unfold sclP
 rw [zero_above (f := (bzV p f m).2.1) (by omega) hk2, Nat.zero_mul, Nat.zero_mod]
theorem bz_one {p : Nat} {f m : Nat → Nat} (hp : p = 2 ∨ p = 3 ∨ p = 5 ∨ p = 7) (hf : ∀ k, k < 64 → f k < p) (hm : ∀ k, k < 64 → m k < p) (h0 : 0 ≤ deg m) (h1 : ∀ k, k < 64 → bzD p f m k = oneP k) : rm p (lz m) (mz (lz (bzU p f m)) (lz f)) oneS := by
 obtain ⟨_, _, b3, _⟩ := bz_all hp hf hm (.inr h0)
 rw [lz_congr h1, one_lz] at b3
 refine rm_symm (rm_trans (rm_of_cg b3) ?_)
 have := rm_az (rm_refl (p : Int) (lz m) (mz (lz (bzU p f m)) (lz f))) (dv_mul (p := p) (fin_lz (bzW p f m)) (dv_self (p := p) (lz m)))
 rwa [az_zS] at this
theorem inv_same {p d : Nat} {f m : Nat → Nat} (hp : p = 2 ∨ p = 3 ∨ p = 5 ∨ p = 7) (hf : ∀ k, k < 64 → f k < p) (hm : ∀ k, k < 64 → m k < p) (hmon : mon m d) (h1 : ∀ k, k < 64 → bzD p f m k = oneP k) :
 ∀ k, k < 64 → resP p (bzU p (resP p f m) m) m k = bzU p f m k := by
 have hp0 : 0 < p := by omega
 have h0 : 0 ≤ deg m := by rw [hmon.1]; omega
 have hr : ∀ k, k < 64 → resP p f m k < p := resP_lt hp0 hf
 have hfr := res_rm hp hf hm h0
 -- the same divisors
 have h1' : ∀ k, k < 64 → bzD p (resP p f m) m k = oneP k := by
  obtain ⟨b1, ⟨j, b2⟩, _, b4⟩ := bz_all hp hr hm (.inr h0)
  obtain ⟨_, _, _, c4⟩ := bz_all hp hf hm (.inr h0)
  obtain ⟨x1, x2⟩ := (b4 _).1 (dv_self (p := p) _)
  have hf2 : dv p (lz (bzD p (resP p f m) m)) (lz f) := by
   obtain ⟨q, hq, hc⟩ := hfr
   have e : cg p (lz f) (az (mz q (lz m)) (lz (resP p f m))) := fun k => by
    have := hc k
    unfold sz at this; unfold az
    rwa [show lz f k - (mz q (lz m) k + lz (resP p f m) k) = lz f k - lz (resP p f m) k - mz q (lz m) k by omega]
   exact (dv_congr e).2 (dv_add (dv_mul hq x2) x1)
  have := (c4 _).2 ⟨hf2, x2⟩
  rw [lz_congr h1, one_lz] at this
  have hj := dv_one_deg (by omega) b2 this
  subst hj
  intro k hk
  have e := congrFun (one_of_mon0 b2) k
  unfold lz oneS at e
  rw [cut_in _ hk] at e
  by_cases h : k = 0
  · rw [if_pos h] at e
    have : oneP k = 1 := by unfold oneP; rw [if_pos h]
    omega
  rw [if_neg h] at e
  have : oneP k = 0 := by unfold oneP; rw [if_neg h]
  omega
 have e1 := bz_one hp hf hm h0 h1
 have e2 := bz_one hp hr hm h0 h1'
 have hU' : ∀ k, k < 64 → bzU p (resP p f m) m k < p := fun k _ => bzU_lt hp0 k
 have e3 := res_rm hp hU' hm h0
 obtain ⟨r1, _⟩ := resP_deg hp hU' hm h0
 refine res_same (fun k hk => resP_lt hp0 hU' k hk) (fun k _ => bzU_lt hp0 k) hmon (by rw [← hmon.1]; exact r1) (by have := bzU_deg hp hf hm hmon; omega) ?_
 -- U' = U' (U f) = U (U' f) = U
 have one1 : ∀ g, mz g oneS = g := fun g => by rw [mz_comm]; exact mz_one g
 have s1 : rm p (lz m) (lz (bzU p (resP p f m) m)) (mz (lz (bzU p (resP p f m) m)) (mz (lz (bzU p f m)) (lz f))) := by
  have := rm_mz2 (fin_mz (fin_lz (bzU p f m)) (fin_lz f)) (fin_lz (bzU p (resP p f m) m)) (rm_refl (p : Int) (lz m) (lz (bzU p (resP p f m) m))) e1
  rw [one1] at this
  exact rm_symm this
 have s2 : mz (lz (bzU p (resP p f m) m)) (mz (lz (bzU p f m)) (lz f)) = mz (lz (bzU p f m)) (mz (lz (bzU p (resP p f m) m)) (lz f)) := by
  rw [← mz_assoc, mz_comm (lz (bzU p (resP p f m) m)), mz_assoc]
 have s3 : rm p (lz m) (mz (lz (bzU p (resP p f m) m)) (lz f)) oneS := by
  refine rm_trans (rm_mz2 (fin_lz f) (fin_lz _) (rm_refl _ _ _) hfr) e2
 have s4 : rm p (lz m) (mz (lz (bzU p f m)) (mz (lz (bzU p (resP p f m) m)) (lz f))) (lz (bzU p f m)) := by
  have := rm_mz2 (fin_mz (fin_lz (bzU p (resP p f m) m)) (fin_lz f)) (fin_lz (bzU p f m)) (rm_refl (p : Int) (lz m) (lz (bzU p f m))) s3
  rwa [one1] at this
 rw [s2] at s1
 exact rm_trans (rm_symm e3) (rm_trans s1 s4)
end Go.Proofs.Yteloknnooebabaa
set_option linter.unusedVariables false
end
namespace Go.Proofs.Yteloknnooebabaa
open Go.RowKit
attribute [local irreducible] deg invN dS qS stp stpr quoP resP oneP bzD bzU bzW
theorem l02Inverse_any (p : Nat) (f m : Nat → Nat) (w : World) (hpr : p = 2 ∨ p = 3 ∨ p = 5 ∨ p = 7) (lf : ∀ k, k < 64 → f k < p) (lm : ∀ k, k < 64 → m k < p) (d : Nat) (hmon : mon m d) (h1 : eqN 64 (bzD p f m) oneP = true) :
 Calls Try.prog 155 #[.int .i64 (p : Int), .agg (zb 64 f), .agg (zb 64 m)] w fun e w' => e = .returned (.agg (zb 64 (bzU p f m))) ∧ Below w.heap.size w w' := by
 have p0 : 0 < p := by omega
 have h0 : 0 ≤ deg m := by rw [hmon.1]; omega
 have HV := Lib.hid (zbc (inv_same hpr lf lm hmon (eqN_iff.1 h1)))
 have HM := Lib.hid (fun W => l01Mod_any p f m W hpr lf lm h0)
 have HB := Lib.hid (fun W => l01Bezout_any p (resP p f m) m W hpr (resP_lt p0 lf) lm (.inr h0))
 have HM2 := Lib.hid (fun W => l01Mod_any p (bzU p (resP p f m) m) m W hpr (fun k _ => bzU_lt p0 k) lm h0)
 clear h1 hmon
 go_enter Try.func155, Try.ntmps155
 go_upto_region 1 with (fail)
 rw [← z64]
 obtain ⟨W1, hwo⟩ : ∃ v : World, v = (((w.alloc (.cells (zb 64 (f)) 24)).alloc (.cells (zb 64 (m)) 24)).alloc (.cells (zb 64 fun _ => 0) 24)) := ⟨_, rfl⟩
 have B0 : Blk W1 (w.heap.size) 64 24 (f) := by subst hwo; have := (((Blk.new w 64 24 (f)).alloc (.cells (zb 64 (m)) 24)).alloc (.cells (zb 64 fun _ => 0) 24)); simpa using this
 have B1 : Blk W1 (w.heap.size + 1) 64 24 (m) := by subst hwo; have := ((Blk.new (w.alloc (.cells (zb 64 (f)) 24)) 64 24 (m)).alloc (.cells (zb 64 fun _ => 0) 24)); simpa using this
 have B2 : Blk W1 (w.heap.size + 1 + 1) 64 24 (fun _ => 0) := by subst hwo; have := (Blk.new ((w.alloc (.cells (zb 64 (f)) 24)).alloc (.cells (zb 64 (m)) 24)) 64 24 (fun _ => 0)); simpa using this
 have hb : Below w.heap.size w W1 := by subst hwo; exact ((((Below.refl _ _).alloc (Nat.le_refl _) _).alloc (by simp) _).alloc (by simp; omega) _)
 rw [← hwo]
 clear hwo
 have lt_B0 : (w.heap.size) < W1.heap.size := B0.lt
 have lt_B1 : (w.heap.size + 1) < W1.heap.size := B1.lt
 have lt_B2 : (w.heap.size + 1 + 1) < W1.heap.size := B2.lt
 have hbase : w.heap.size ≤ W1.heap.size := hb.size
 refine zq Try.mixed (by kernel_rfl) (by kernel_rfl) (fun v => by (simp only [frL, Act.put, pA, pB, pC, Nat.reduceAdd, Nat.zero_add]; exact rfl))
  (fun L v W2 => Below w.heap.size w W2 ∧ W1.heap.size ≤ W2.heap.size ∧ Blk W2 (w.heap.size) 64 24 (f) ∧ Blk W2 (w.heap.size + 1) 64 24 (m) ∧ Blk W2 (w.heap.size + 1 + 1) 64 24 (fun _ => 0) ∧ (L 0 = true → v 0 = (.int .i64 (p : Int))) ∧ (L 1 = true → v 1 = (.int .i64 (p : Int))) ∧ (L 2 = true → v 2 = (.agg (zb 64 (f)))) ∧ (L 3 = true → v 3 = (.agg (zb 64 (m)))) ∧ (L 4 = true → v 4 = (.agg (zb 64 (resP p f m)))) ∧ (L 5 = true → v 5 = (.agg (zb 64 (m)))) ∧ (L 6 = true → v 6 = (.tuple #[(.agg (zb 64 (bzD p (resP p f m) m))), (.agg (zb 64 (bzU p (resP p f m) m))), (.agg (zb 64 (bzW p (resP p f m) m)))])) ∧ (L 7 = true → v 7 = (.tuple #[(.agg (zb 64 (bzD p (resP p f m) m))), (.agg (zb 64 (bzU p (resP p f m) m))), (.agg (zb 64 (bzW p (resP p f m) m)))])) ∧ (L 8 = true → v 8 = (.agg (zb 64 (bzD p (resP p f m) m)))) ∧ (L 9 = true → v 9 = (.agg (zb 64 (bzU p (resP p f m) m)))) ∧ (L 10 = true → v 10 = (.agg (zb 64 (bzW p (resP p f m) m)))) ∧ (L 11 = true → AF (v 11) W2 W1.heap.size 64 24) ∧ (L 12 = true → AF (v 12) W2 W1.heap.size 64 24) ∧ (L 13 = true → AF (v 13) W2 W1.heap.size 64 24) ∧ (L 14 = true → PF (v 11) W2 W1.heap.size 64 24 (bzD p (resP p f m) m)) ∧ (L 15 = true → PF (v 12) W2 W1.heap.size 64 24 (bzU p (resP p f m) m)) ∧ (L 16 = true → PF (v 13) W2 W1.heap.size 64 24 (bzW p (resP p f m) m)) ∧ (L 11 = true → L 12 = true → v 11 ≠ v 12) ∧ (L 11 = true → L 13 = true → v 11 ≠ v 13) ∧ (L 12 = true → L 13 = true → v 12 ≠ v 13)) ?_ ?_ ?_
 · intro v hv0
   exact ⟨hb.drew, Nat.le_refl _, B0.drew, B1.drew, B2.drew, (fun h => by cases h), (fun h => by cases h), (fun h => by cases h), (fun h => by cases h), (fun h => by cases h), (fun h => by cases h), (fun h => by cases h), (fun h => by cases h), (fun h => by cases h), (fun h => by cases h), (fun h => by cases h), (fun h => by cases h), (fun h => by cases h), (fun h => by cases h), (fun h => by cases h), (fun h => by cases h), (fun h => by cases h), (fun h => by cases h), (fun h => by cases h), (fun h => by cases h)⟩
 · refine (.cons rfl ?_ (.cons rfl ?_ (.cons rfl ?_ (.cons rfl ?_ (.cons rfl ?_ (.cons rfl ?_ (.cons rfl ?_ (.cons rfl ?_ (.cons rfl ?_ (.cons rfl ?_ (.cons rfl ?_ (.cons rfl ?_ (.cons rfl ?_ (.cons rfl ?_ (.cons rfl ?_ (.cons rfl ?_ (.cons rfl ?_ (.nil _))))))))))))))))))
   all_goals intro L v W2 hd hn ⟨hB, hz, s0, s1, s2, h0, h1, h2, h3, h4, h5, h6, h7, h8, h9, h10, h11, h12, h13, h14, h15, h16, d11_12, d11_13, d12_13⟩ K hK
   · go_wp2_with fail
     exact hK _ (.int .i64 (p : Int)) _ (by simp only [Act.put, pA, pB, pC ]) ⟨hB, hz, s0, s1, s2, (fun _ => rfl), h1, h2, h3, h4, h5, h6, h7, h8, h9, h10, h11, h12, h13, h14, h15, h16, d11_12, d11_13, d12_13⟩
   · go_wp2_with fail
     exact hK _ (.int .i64 (p : Int)) _ (by simp only [Act.put, pA, pB, pC ]) ⟨hB, hz, s0, s1, s2, h0, (fun _ => rfl), h2, h3, h4, h5, h6, h7, h8, h9, h10, h11, h12, h13, h14, h15, h16, d11_12, d11_13, d12_13⟩
   · refine zlc s0 Try.underlying24 Try.size24 ?_
     exact hK _ _ _ rfl ⟨hB, hz, s0, s1, s2, h0, h1, (fun _ => rfl), h3, h4, h5, h6, h7, h8, h9, h10, h11, h12, h13, h14, h15, h16, d11_12, d11_13, d12_13⟩
   · refine zlc s1 Try.underlying24 Try.size24 ?_
     exact hK _ _ _ rfl ⟨hB, hz, s0, s1, s2, h0, h1, h2, (fun _ => rfl), h4, h5, h6, h7, h8, h9, h10, h11, h12, h13, h14, h15, h16, d11_12, d11_13, d12_13⟩
   · have e1 := h1 (zdq hd 1 rfl)
     have e2 := h2 (zdq hd 2 rfl)
     have e3 := h3 (zdq hd 3 rfl)
     go_wp2_with (go_at_call 129; refine (HM.out _).mono ?_; rintro e wy ⟨rfl, hy⟩)
     exact hK _ (.agg (zb 64 (resP p f m))) _ (by simp only [Act.put, pA, pB, pC, e1, e2, e3]) ⟨hB.trans (hy.mono hB.size), (Nat.le_trans hz hy.size), s0.zw hy, s1.zw hy, s2.zw hy, h0, h1, h2, h3, (fun _ => rfl), h5, h6, h7, h8, h9, h10, (fun h => (h11 h).below hy), (fun h => (h12 h).below hy), (fun h => (h13 h).below hy), (fun h => (h14 h).below hy), (fun h => (h15 h).below hy), (fun h => (h16 h).below hy), d11_12, d11_13, d12_13⟩
   · refine zlc s1 Try.underlying24 Try.size24 ?_
     exact hK _ _ _ rfl ⟨hB, hz, s0, s1, s2, h0, h1, h2, h3, h4, (fun _ => rfl), h6, h7, h8, h9, h10, h11, h12, h13, h14, h15, h16, d11_12, d11_13, d12_13⟩
   · have e0 := h0 (zdq hd 0 rfl)
     have e4 := h4 (zdq hd 4 rfl)
     have e5 := h5 (zdq hd 5 rfl)
     go_wp2_with (go_at_call 220; refine (HB.out _).mono ?_; rintro e wy ⟨rfl, hy⟩)
     exact hK _ (.tuple #[(.agg (zb 64 (bzD p (resP p f m) m))), (.agg (zb 64 (bzU p (resP p f m) m))), (.agg (zb 64 (bzW p (resP p f m) m)))]) _ (by simp only [Act.put, pA, pB, pC, e0, e4, e5]) ⟨hB.trans (hy.mono hB.size), (Nat.le_trans hz hy.size), s0.zw hy, s1.zw hy, s2.zw hy, h0, h1, h2, h3, h4, h5, (fun _ => rfl), h7, h8, h9, h10, (fun h => (h11 h).below hy), (fun h => (h12 h).below hy), (fun h => (h13 h).below hy), (fun h => (h14 h).below hy), (fun h => (h15 h).below hy), (fun h => (h16 h).below hy), d11_12, d11_13, d12_13⟩
   · have e6 := h6 (zdq hd 6 rfl)
     go_wp2_with fail
     exact hK _ (.tuple #[(.agg (zb 64 (bzD p (resP p f m) m))), (.agg (zb 64 (bzU p (resP p f m) m))), (.agg (zb 64 (bzW p (resP p f m) m)))]) _ (by simp only [Act.put, pA, pB, pC, e6]) ⟨hB, hz, s0, s1, s2, h0, h1, h2, h3, h4, h5, h6, (fun _ => rfl), h8, h9, h10, h11, h12, h13, h14, h15, h16, d11_12, d11_13, d12_13⟩
   · have e7 := h7 (zdq hd 7 rfl)
     go_wp2_with fail
     exact hK _ (.agg (zb 64 (bzD p (resP p f m) m))) _ (by simp only [Act.put, pA, pB, pC, e7]) ⟨hB, hz, s0, s1, s2, h0, h1, h2, h3, h4, h5, h6, h7, (fun _ => rfl), h9, h10, h11, h12, h13, h14, h15, h16, d11_12, d11_13, d12_13⟩
   · have e7 := h7 (zdq hd 7 rfl)
     go_wp2_with fail
     exact hK _ (.agg (zb 64 (bzU p (resP p f m) m))) _ (by simp only [Act.put, pA, pB, pC, e7]) ⟨hB, hz, s0, s1, s2, h0, h1, h2, h3, h4, h5, h6, h7, h8, (fun _ => rfl), h10, h11, h12, h13, h14, h15, h16, d11_12, d11_13, d12_13⟩
   · have e7 := h7 (zdq hd 7 rfl)
     go_wp2_with fail
     exact hK _ (.agg (zb 64 (bzW p (resP p f m) m))) _ (by simp only [Act.put, pA, pB, pC, e7]) ⟨hB, hz, s0, s1, s2, h0, h1, h2, h3, h4, h5, h6, h7, h8, h9, (fun _ => rfl), h11, h12, h13, h14, h15, h16, d11_12, d11_13, d12_13⟩
   · go_wp2_with fail
     rw [← z64]
     exact hK _ (.pointer (some ⟨W2.heap.size, 0, none⟩)) _ (by simp only [Act.put, pA, pB, pC ]) ⟨hB.alloc hB.size _, (by simp; omega), (s0).alloc _, (s1).alloc _, (s2).alloc _, h0, h1, h2, h3, h4, h5, h6, h7, h8, h9, h10, (fun _ => (PF.new W2 64 24 _ hz).af), (fun h => (h12 h).below (zal _ _)), (fun h => (h13 h).below (zal _ _)), (fun h => absurd rfl (hn 14 _ rfl h ⟨11, .data⟩ (by simp) rfl)), (fun h => (h15 h).below (zal _ _)), (fun h => (h16 h).below (zal _ _)), (fun h g1 => Ne.symm ((h12 g1).ne_new)), (fun h g1 => Ne.symm ((h13 g1).ne_new)), d12_13⟩
   · go_wp2_with fail
     rw [← z64]
     exact hK _ (.pointer (some ⟨W2.heap.size, 0, none⟩)) _ (by simp only [Act.put, pA, pB, pC ]) ⟨hB.alloc hB.size _, (by simp; omega), (s0).alloc _, (s1).alloc _, (s2).alloc _, h0, h1, h2, h3, h4, h5, h6, h7, h8, h9, h10, (fun h => (h11 h).below (zal _ _)), (fun _ => (PF.new W2 64 24 _ hz).af), (fun h => (h13 h).below (zal _ _)), (fun h => (h14 h).below (zal _ _)), (fun h => absurd rfl (hn 15 _ rfl h ⟨12, .data⟩ (by simp) rfl)), (fun h => (h16 h).below (zal _ _)), (fun h g1 => (h11 h).ne_new), d11_13, (fun h g1 => Ne.symm ((h13 g1).ne_new))⟩
   · go_wp2_with fail
     rw [← z64]
     exact hK _ (.pointer (some ⟨W2.heap.size, 0, none⟩)) _ (by simp only [Act.put, pA, pB, pC ]) ⟨hB.alloc hB.size _, (by simp; omega), (s0).alloc _, (s1).alloc _, (s2).alloc _, h0, h1, h2, h3, h4, h5, h6, h7, h8, h9, h10, (fun h => (h11 h).below (zal _ _)), (fun h => (h12 h).below (zal _ _)), (fun _ => (PF.new W2 64 24 _ hz).af), (fun h => (h14 h).below (zal _ _)), (fun h => (h15 h).below (zal _ _)), (fun h => absurd rfl (hn 16 _ rfl h ⟨13, .data⟩ (by simp) rfl)), d11_12, (fun h g1 => (h11 h).ne_new), (fun h g1 => (h12 h).ne_new)⟩
   · have e8 := h8 (zdq hd 8 rfl)
     obtain ⟨gz, b, ea, hN, hk⟩ := (h11 (zdq hd 11 rfl)).out
     refine zsb 24 _ _ rfl b 64 (bzD p (resP p f m) m) ea e8 24 gz hk Try.size24 ?_
     exact hK _ undef _ rfl ⟨zr hB (Nat.le_trans hbase hN) _, (by simpa [World.setRow] using hz), (s0).rowOther (by omega), (s1).rowOther (by omega), (s2).rowOther (by omega), h0, h1, h2, h3, h4, h5, h6, h7, h8, h9, h10, (fun h => (h11 h).row hk), (fun h => (h12 h).row hk), (fun h => (h13 h).row hk), (fun _ => by rw [show updV v 14 undef 11 = v 11 from rfl, ea]; exact PF.row hk hN _), (fun h => (h15 h).rowOther (by rw [← ea]; exact (Ne.symm (d11_12 (zdq hd 11 rfl) (zdq hd 12 rfl))))), (fun h => (h16 h).rowOther (by rw [← ea]; exact (Ne.symm (d11_13 (zdq hd 11 rfl) (zdq hd 13 rfl))))), d11_12, d11_13, d12_13⟩
   · have e9 := h9 (zdq hd 9 rfl)
     obtain ⟨gz, b, ea, hN, hk⟩ := (h12 (zdq hd 12 rfl)).out
     refine zsb 24 _ _ rfl b 64 (bzU p (resP p f m) m) ea e9 24 gz hk Try.size24 ?_
     exact hK _ undef _ rfl ⟨zr hB (Nat.le_trans hbase hN) _, (by simpa [World.setRow] using hz), (s0).rowOther (by omega), (s1).rowOther (by omega), (s2).rowOther (by omega), h0, h1, h2, h3, h4, h5, h6, h7, h8, h9, h10, (fun h => (h11 h).row hk), (fun h => (h12 h).row hk), (fun h => (h13 h).row hk), (fun h => (h14 h).rowOther (by rw [← ea]; exact (d11_12 (zdq hd 11 rfl) (zdq hd 12 rfl)))), (fun _ => by rw [show updV v 15 undef 12 = v 12 from rfl, ea]; exact PF.row hk hN _), (fun h => (h16 h).rowOther (by rw [← ea]; exact (Ne.symm (d12_13 (zdq hd 12 rfl) (zdq hd 13 rfl))))), d11_12, d11_13, d12_13⟩
   have e10 := h10 (zdq hd 10 rfl)
   obtain ⟨gz, b, ea, hN, hk⟩ := (h13 (zdq hd 13 rfl)).out
   refine zsb 24 _ _ rfl b 64 (bzW p (resP p f m) m) ea e10 24 gz hk Try.size24 ?_
   exact hK _ undef _ rfl ⟨zr hB (Nat.le_trans hbase hN) _, (by simpa [World.setRow] using hz), (s0).rowOther (by omega), (s1).rowOther (by omega), (s2).rowOther (by omega), h0, h1, h2, h3, h4, h5, h6, h7, h8, h9, h10, (fun h => (h11 h).row hk), (fun h => (h12 h).row hk), (fun h => (h13 h).row hk), (fun h => (h14 h).rowOther (by rw [← ea]; exact (d11_13 (zdq hd 11 rfl) (zdq hd 13 rfl)))), (fun h => (h15 h).rowOther (by rw [← ea]; exact (d12_13 (zdq hd 12 rfl) (zdq hd 13 rfl)))), (fun _ => by rw [show updV v 16 undef 13 = v 13 from rfl, ea]; exact PF.row hk hN _), d11_12, d11_13, d12_13⟩
 intro L v W2 hL ⟨hB, hz, s0, s1, s2, h0, h1, h2, h3, h4, h5, h6, h7, h8, h9, h10, h11, h12, h13, h14, h15, h16, d11_12, d11_13, d12_13⟩
 have e0 := h0 (hL 0 (by decide))
 have e1 := h1 (hL 1 (by decide))
 have e2 := h2 (hL 2 (by decide))
 have e3 := h3 (hL 3 (by decide))
 have e4 := h4 (hL 4 (by decide))
 have e5 := h5 (hL 5 (by decide))
 have e6 := h6 (hL 6 (by decide))
 have e7 := h7 (hL 7 (by decide))
 have e8 := h8 (hL 8 (by decide))
 have e9 := h9 (hL 9 (by decide))
 have e10 := h10 (hL 10 (by decide))
 obtain ⟨k1_11, e11, hNk1_11, hk1_11⟩ := (h14 (hL 14 (by decide))).out
 obtain ⟨k1_12, e12, hNk1_12, hk1_12⟩ := (h15 (hL 15 (by decide))).out
 obtain ⟨k1_13, e13, hNk1_13, hk1_13⟩ := (h16 (hL 16 (by decide))).out
 have n11_12 := d11_12 (hL 11 (by decide)) (hL 12 (by decide))
 have n11_13 := d11_13 (hL 11 (by decide)) (hL 13 (by decide))
 have n12_13 := d12_13 (hL 12 (by decide)) (hL 13 (by decide))
 clear hL h0 h1 h2 h3 h4 h5 h6 h7 h8 h9 h10 h11 h12 h13 h14 h15 h16 d11_12 d11_13 d12_13
 rw [e11, e12] at n11_12
 have mk1_11_12 : k1_11 ≠ k1_12 := fun h => n11_12 (by rw [h])
 clear n11_12
 rw [e11, e13] at n11_13
 have mk1_11_13 : k1_11 ≠ k1_13 := fun h => n11_13 (by rw [h])
 clear n11_13
 rw [e12, e13] at n12_13
 have mk1_12_13 : k1_12 ≠ k1_13 := fun h => n12_13 (by rw [h])
 clear n12_13
 simp only [Exit.then, e0, e1, e2, e3, e4, e5, e6, e7, e8, e9, e10, e11, e12, e13]
 clear e0 e1 e2 e3 e4 e5 e6 e7 e8 e9 e10 e11 e12 e13
 replace B0 := s0
 clear s0
 replace B1 := s1
 clear s1
 replace B2 := s2
 clear s2
 replace hb := hB
 clear hB
 have B3 := hk1_11
 clear hk1_11
 have zk1_11_0 : w.heap.size < k1_11 := by omega
 have zk1_11_1 : w.heap.size + 1 < k1_11 := by omega
 have zk1_11_2 : w.heap.size + 1 + 1 < k1_11 := by omega
 have B4 := hk1_12
 clear hk1_12
 have zk1_12_0 : w.heap.size < k1_12 := by omega
 have zk1_12_1 : w.heap.size + 1 < k1_12 := by omega
 have zk1_12_2 : w.heap.size + 1 + 1 < k1_12 := by omega
 have B5 := hk1_13
 clear hk1_13
 have zk1_13_0 : w.heap.size < k1_13 := by omega
 have zk1_13_1 : w.heap.size + 1 < k1_13 := by omega
 have zk1_13_2 : w.heap.size + 1 + 1 < k1_13 := by omega
 clear hbase hz lt_B0 lt_B1 lt_B2
 go_upto_region 2 with (fail)
 have lt_B0 := B0.lt
 have lt_B1 := B1.lt
 have lt_B2 := B2.lt
 have lt_B3 := B3.lt
 have lt_B4 := B4.lt
 have lt_B5 := B5.lt
 go_wp2_with (first | rw [← z64] | (refine zla (.tmp 8) B4 Try.underlying24 Try.size24 ?_) | (refine zla (.tmp 5) B1 Try.underlying24 Try.size24 ?_) | (go_at_call 129; refine (HM2.out _).mono ?_; rintro e W3 ⟨rfl, hW3⟩; replace B0 := B0.zw hW3; replace B1 := B1.zw hW3; replace B2 := B2.zw hW3; replace B3 := B3.zw hW3; replace B4 := B4.zw hW3; replace B5 := B5.zw hW3; replace hb := (hb).trans (hW3.mono (hb).size)) | (refine zsr (.tmp 6) (.tmp 24) (resP p (bzU p (resP p f m) m) m) B2 Try.size24 ?_; try simp only [Act.put]))
 obtain ⟨W4, hwo, hzQ⟩ : ∃ v : World, v = (W3.setRow (w.heap.size + 1 + 1) (zb 64 (resP p (bzU p (resP p f m) m) m))) ∧ Blk v (w.heap.size) 64 24 (f) ∧ Blk v (w.heap.size + 1) 64 24 (m) ∧ Blk v (w.heap.size + 1 + 1) 64 24 (resP p (bzU p (resP p f m) m) m) ∧ Blk v (k1_11) 64 24 (bzD p (resP p f m) m) ∧ Blk v (k1_12) 64 24 (bzU p (resP p f m) m) ∧ Blk v (k1_13) 64 24 (bzW p (resP p f m) m) ∧ Below w.heap.size w v := ⟨_, rfl, (B0.rowOther (by omega)), (B1.rowOther (by omega)), (B2.row (resP p (bzU p (resP p f m) m) m)), (B3.rowOther (by omega)), (B4.rowOther (by omega)), (B5.rowOther (by omega)), (zr hb (by omega) _)⟩
 rw [← hwo]
 clear hwo B0 B1 B2 B3 B4 B5 hb
 obtain ⟨B0, B1, B2, B3, B4, B5, hb⟩ := hzQ
 try simp only [Act.put, pA, pB, pC]
 refine bodyPost_ret (zrb rfl _ _ _ 64 24 5 _ rfl B2 Try.underlying24 Try.size24) rfl ⟨by rw [HV.out], hb⟩
end Go.Proofs.Yteloknnooebabaa
namespace Go.Proofs.Yteloknnooebabaa
open Go Go.RowKit
theorem wpList_load_rowv_g {P : Program} {ops : Array Oper} {rest : List Oper} {o : Oper} {a : Act} {w : World} {Q : Exit → Act → World → Prop} (hw : Region.wanted o (yielded ops a.tmps) = true) (ty : TypeId) (x : Operand) (ho : o.op = .load ty x)
 (b : Nat) (hx : a.eval x = .pointer (some ⟨b, 0, none⟩)) (t : TypeId) (cs : Array Value) (hb : Row w b t cs) (d : TypeDesc)
 (hu : P.underlying ty = some d) (hd : (match d with | .struct _ | .array _ _ => true | _ => false) = true) (n : Nat) (hi : (P.info? ty).map (·.size) = some n) (hn : cs.size = n)
 (h : wpList P ops Q rest (a.put o.dst (.agg cs)) w) : wpList P ops Q (o :: rest) a w := by
 unfold wpList
 rw [if_pos hw]
 exact Or.inl (wp_load_rowv ty x ho b hx t cs hb d hu hd n hi hn h)
attribute [local irreducible] deg addK okA flV skA
theorem rsB_rsd {n : Nat} {m x : Nat → Nat} (h : rsB (n : Int) m x = true) : rsd n m x := by
 by_cases ho : okA (n : Int) x = true
 · refine ⟨fun k hk => by have := okA_lt ho hk; omega, ?_⟩
   by_cases hd : deg x < deg m
   · exact hd
   rw [rsB_3 ho hd] at h; cases h
 rw [rsB_1 (by simpa using ho)] at h; cases h
end Go.Proofs.Yteloknnooebabaa
namespace Go.Proofs.Yteloknnooebabaa
open Rg
section
variable {p : Nat} {m : Nat → Nat} {d : Nat} (hp : p = 2 ∨ p = 3 ∨ p = 5 ∨ p = 7) (lm : ∀ k, k < 64 → m k < p) (hmon : mon m d) (hi : irr p (cut m) d) (h9 : d ≤ 9)
include hp lm hmon hi h9
theorem fr_once {y : Nat → Nat} (hy : rsd p m y) : (rs (frN p m y (1 % d)) : Res p (lz m)) = pw (rs y) p := by
 have h0 : 0 ≤ deg m := by rw [hmon.1]; omega
 have h9' : deg m ≤ 9 := by rw [hmon.1]; omega
 have hd1 := hi.1
 obtain ⟨a, b⟩ := frI_ok hp lm h0 h9' hy
 by_cases h : d = 1
 · subst h
   rw [Nat.mod_self, frN_z, ← b]
   have h2 := frN_d hp lm h0 h9' hi hy
   exact cl_congr (by
    funext k
    unfold lz cut
    by_cases hk : k < 64
    · rw [if_pos hk, if_pos hk]
      have := h2 k hk
      rw [frN_s, frN_z] at this
      rw [this]
    rw [if_neg hk, if_neg hk])
 rw [Nat.mod_eq_of_lt (show 1 < d by omega), frN_s, frN_z]; exact b
end
end Go.Proofs.Yteloknnooebabaa
namespace Go.Proofs.Yteloknnooebabaa
open Go.RowKit
attribute [local irreducible] deg invN dS qS stp stpr quoP resP oneP upP upF hmR mmP shA addK bzD bzU bzW
theorem codeL_nil {p : Int} (h : okP p = true) : codeL p [] = 0 := by simp [codeL, h]
end Go.Proofs.Yteloknnooebabaa
namespace Go.Proofs.Yteloknnooebabaa
open Go.ChangeShapes Go.WideShapes Go.ChangeAt Go.RowKit
def drC (p : Int) (m G D : Nat → Nat) : List Value := .int .i64 p :: (bl 64 m ++ (bl 64 G ++ bl 64 D))
theorem drC_len (p : Int) (m G D : Nat → Nat) : (drC p m G D).length = 193 := by simp [drC, bl]
section
variable {H : Type} {enc : TypeId × Value → H} {P : Program}
theorem trod_bytes {e u : TypeId} {w : World} {base m : Nat} {spare : Nat → Bool} {held : Bool} {c : List Value} {x : DataW H × List MemPlace}
 (he : P.underlying e = some (.array 64 u)) (hu : P.underlying u = some (.int .u8)) (hCe : P.cellsOf e = 64) (hCu : P.cellsOf u = 1) (h : DataW.trod enc P w base spare held m e c = some x) :
 (∃ g, byte g ∧ c = bl 64 g) ∧ x.2 = [] := by
 obtain ⟨ys, m2, hm2, hx2, hlen2, hyl, hel2⟩ := DataW.trod_array he h
 have byt : ∀ j, j < 64 → ∃ k : Nat, k < 256 ∧ c[j]? = some (.int .u8 (k : Int)) ∧ ys[j]? = some (.lit (.int .u8 (k : Int)), []) := by
  intro j hj
  have h3 := hel2 j hj
  have hyj : ys[j]? = some (ys[j]'(by omega)) := List.getElem?_eq_getElem (by omega)
  rw [hyj, hCu] at h3
  obtain ⟨z, hz1, hz2, hz3⟩ := DataW.trod_int hu h3
  have hb := bounds_u8 hz3
  obtain ⟨k, rfl⟩ := Int.eq_ofNat_of_zero_le hb.1
  refine ⟨k, by omega, ?_, by rw [hyj, hz2]⟩
  have h4 : ((c.drop (j * 1)).take 1)[0]? = some (.int .u8 (k : Int)) := by
   rw [hz1]; rfl
  simp only [List.getElem?_take, List.getElem?_drop, Nat.mul_one, Nat.add_zero, Nat.lt_add_one, if_true] at h4
  exact h4
 refine ⟨⟨fun i => match c[i]? with | some (.int _ z) => if i < 64 then z.toNat else 0 | _ => 0, ?_, ?_⟩, ?_⟩
 · intro i
   by_cases hi : i < 64
   · obtain ⟨k, hk, hc, _⟩ := byt i hi
     simp only [hc, hi, if_true, Int.toNat_natCast]
     exact hk
   have : c[i]? = none := List.getElem?_eq_none (by rw [hlen2, hCe]; omega)
   simp [this]
 · apply List.ext_getElem?
   intro i
   by_cases hi : i < 64
   · obtain ⟨k, hk, hc, _⟩ := byt i hi
     unfold bl
     simp only [List.getElem?_map, List.getElem?_range hi, Option.map_some, hc, hi, if_true, Int.toNat_natCast]
   rw [List.getElem?_eq_none (by rw [hlen2, hCe]; omega), List.getElem?_eq_none (by rw [zl]; omega)]
 have hp : x.2 = ys.flatMap (·.2) := by simpa using congrArg Prod.snd hx2
 rw [hp, List.flatMap_eq_nil_iff]
 intro z hzm
 obtain ⟨j, hj⟩ := List.getElem?_of_mem hzm
 have hjn : j < 64 := by rw [← hyl]; exact (List.getElem?_eq_some_iff.1 hj).1
 obtain ⟨k, _, _, h2⟩ := byt j hjn
 rw [hj] at h2
 injection h2 with h2
 rw [h2]
theorem open_dri {t e u i : TypeId} {f0 f1 f2 f3 : Field} {w : World} {r : Reach} {b0 base : Nat} {spare : Nat → Bool} {held : Bool} {v : Value} {d : DataW H} {p : List MemPlace}
 (ht : P.underlying t = some (.struct #[f0, f1, f2, f3])) (k0 : f0.type = i ∧ f0.offset = 0) (k1 : f1.type = e ∧ f1.offset = 1) (k2 : f2.type = e ∧ f2.offset = 65) (k3 : f3.type = e ∧ f3.offset = 129)
 (hi : P.underlying i = some (.int .i64)) (he : P.underlying e = some (.array 64 u)) (hu : P.underlying u = some (.int .u8)) (hC : P.cellsOf t = 193) (hCi : P.cellsOf i = 1) (hCe : P.cellsOf e = 64) (hCu : P.cellsOf u = 1)
 (hv : Value.okWide P w r b0 t v) (h : DataW.Trod enc P w base spare held t v d p) :
 ∃ (q : Int) (m G D : Nat → Nat), byte m ∧ byte G ∧ byte D ∧ v = .agg (drC q m G D).toArray ∧ p = [] ∧ -9223372036854775808 ≤ q ∧ q ≤ 9223372036854775807 ∧ ∀ (w' : World) (base' : Nat) (spare' : Nat → Bool) (held' : Bool), DataW.Trod enc P w' base' spare' held' t v d [] := by
 unfold Value.okWide at hv
 rw [ht] at hv
 obtain ⟨cs, rfl, hsz, _⟩ := hv
 obtain ⟨fuel, hf⟩ := h
 obtain ⟨xs, n, hn, hx, hlen, hxl, hel⟩ := DataW.trod_struct ht hf
 subst hn
 have hcs : cs.toList.length = 193 := by
  have : cs.size = 193 := by rw [hsz, hC]
  simpa using this
 have hxl4 : xs.length = 4 := by simpa using hxl
 obtain ⟨y0, y1, y2, y3, rfl⟩ : ∃ y0 y1 y2 y3, xs = [y0, y1, y2, y3] := by
  match xs, hxl4 with
  | [a, b, c, d], _ => exact ⟨a, b, c, d, rfl⟩
 have g0 := hel 0 f0 rfl
 have g1 := hel 1 f1 rfl
 have g2 := hel 2 f2 rfl
 have g3 := hel 3 f3 rfl
 rw [k0.1, k0.2, hCi] at g0
 rw [k1.1, k1.2, hCe] at g1
 rw [k2.1, k2.2, hCe] at g2
 rw [k3.1, k3.2, hCe] at g3
 obtain ⟨z, hz1, hz2, hz3⟩ := DataW.trod_int hi g0
 obtain ⟨⟨m, bm, em⟩, n1⟩ := trod_bytes he hu hCe hCu g1
 obtain ⟨⟨G, bG, eG⟩, n2⟩ := trod_bytes he hu hCe hCu g2
 obtain ⟨⟨D, bD, eD⟩, n3⟩ := trod_bytes he hu hCe hCu g3
 have h5 : (Value.agg cs).cells.toList = cs.toList := rfl
 rw [h5] at hz1 em eG eD
 have hcs2 : cs.toList = drC z m G D := by
  have e0 : cs.toList = cs.toList.take 1 ++ ((cs.toList.drop 1).take 64 ++ ((cs.toList.drop 65).take 64 ++ (cs.toList.drop 129).take 64)) := by
   have a1 : (cs.toList.drop 129).take 64 = cs.toList.drop 129 := List.take_of_length_le (by rw [List.length_drop]; omega)
   have a2 : (cs.toList.drop 65).take 64 ++ cs.toList.drop 129 = cs.toList.drop 65 := by
    have := List.take_append_drop 64 (cs.toList.drop 65)
    rwa [List.drop_drop] at this
   have a3 : (cs.toList.drop 1).take 64 ++ cs.toList.drop 65 = cs.toList.drop 1 := by
    have := List.take_append_drop 64 (cs.toList.drop 1)
    rwa [List.drop_drop] at this
   rw [a1, a2, a3, List.take_append_drop]
  rw [List.drop_zero] at hz1
  rw [e0, hz1, em, eG, eD]
  rfl
 have hp : p = [] := by
  have hp : p = [y0, y1, y2, y3].flatMap (·.2) := by simpa using congrArg Prod.snd hx
  have n0 : y0.2 = [] := by rw [hz2]
  simpa [n0, n1, n2, n3] using hp
 have hb := bounds_i64 hz3
 refine ⟨z, m, G, D, bm, bG, bD, ?_, hp, hb.1, hb.2, ?_⟩
 · rw [← hcs2]
 intro w' base' spare' held'
 refine ⟨n + 1, ?_⟩
 have same : ∀ (f : Field) (c : List Value), f = f0 ∨ f = f1 ∨ f = f2 ∨ f = f3 → DataW.trod enc P w' base' spare' held' n f.type c = DataW.trod enc P w base spare held n f.type c := by
  rintro f c (rfl | rfl | rfl | rfl)
  · rw [k0.1]; exact trod_int_same hi _ _ _ _ _ _ _ _ _ _
  · rw [k1.1]; exact trod_barr_same he hu _ _ _ _ _ _ _ _ _ _
  · rw [k2.1]; exact trod_barr_same he hu _ _ _ _ _ _ _ _ _ _
  rw [k3.1]; exact trod_barr_same he hu _ _ _ _ _ _ _ _ _ _
 have e1 : DataW.trod enc P w' base' spare' held' (n + 1) t (Value.agg cs).cells.toList = DataW.trod enc P w base spare held (n + 1) t (Value.agg cs).cells.toList := by
  unfold DataW.trod
  rw [ht]
  simp only [List.mapM_cons, List.mapM_nil, same f0 _ (.inl rfl), same f1 _ (.inr (.inl rfl)), same f2 _ (.inr (.inr (.inl rfl))), same f3 _ (.inr (.inr (.inr rfl)))]
 rw [e1, hf, hp]
end
end Go.Proofs.Yteloknnooebabaa
namespace Go.Proofs.Yteloknnooebabaa
open Go Go.RowKit
section
variable {P : Program}
theorem wp_load_rowc {o : Oper} {a : Act} {w : World} {K : Act → World → Prop} {Q : Exit → Act → World → Prop} (ty : TypeId) (x : Operand) (ho : o.op = .load ty x)
 (b i : Nat) (hx : a.eval x = .pointer (some ⟨b, i, none⟩)) (t : TypeId) (cs : Array Value) (hb : Row w b t cs) (v : Value) (hi : cs[i]? = some v) (d : TypeDesc)
 (hu : P.underlying ty = some d) (hd : (match d with | .struct _ | .array _ _ => true | _ => false) = false) (h : K (a.put o.dst v) w) : o.wp P a w K Q := by
 have hc := hb.cell hi
 have hagg : (isAgg ty).run P w = .ok false w := by
  unfold isAgg
  rw [Sem.run_bind, run_underlying hu w]
  cases d <;> simp_all
 unfold Oper.wp execOp
 simp only [ho, hx, Instr.loadAt, Instr.sureAddr, Sem.run_bind, Sem.run_pure, Result.andThen_ok, loadVar, hagg, Bool.false_eq_true, if_false, Sem.run_ite, run_load, hc]
 exact h
theorem wpList_load_rowc {ops : Array Oper} {rest : List Oper} {o : Oper} {a : Act} {w : World} {Q : Exit → Act → World → Prop} (hgd : o.guard = none) (ty : TypeId) (x : Operand) (ho : o.op = .load ty x)
 (b i : Nat) (hx : a.eval x = .pointer (some ⟨b, i, none⟩)) (t : TypeId) (cs : Array Value) (hb : Row w b t cs) (v : Value) (hi : cs[i]? = some v) (d : TypeDesc)
 (hu : P.underlying ty = some d) (hd : (match d with | .struct _ | .array _ _ => true | _ => false) = false) (h : wpList P ops Q rest (a.put o.dst v) w) : wpList P ops Q (o :: rest) a w :=
 wpList_plain hgd fun _ hK => wp_load_rowc ty x ho b i hx t cs hb v hi d hu hd (hK _ _ h)
theorem wpList_store_part {ops : Array Oper} {rest : List Oper} {o : Oper} {a : Act} {w : World} {Q : Exit → Act → World → Prop} (hgd : o.guard = none) (ty : TypeId) (x y : Operand) (ho : o.op = .store ty x y)
 (b i : Nat) (g : Nat → Nat) (hx : a.eval x = .pointer (some ⟨b, i, none⟩)) (hy : a.eval y = .agg (zb 64 g)) (t : TypeId) (cs cs' : Array Value) (hb : Row w b t cs)
 (hc : ((bl 64 g).zipIdx 0).foldl (fun (c : Array Value) (z : Value × Nat) => c.setIfInBounds (i + z.2) z.1) cs = cs') (hn : i + 64 ≤ cs.size)
 (hs : (P.info? ty).map (·.size) = some 64) (h : wpList P ops Q rest (a.put o.dst undef) (w.setRow b cs')) : wpList P ops Q (o :: rest) a w := by
 refine wpList_plain hgd fun _ hK => wp_store_mid ty x y ho b i (zb 64 g) hx hy ?_ (by rw [zbs]; exact hs) (bcells_one 64 g) (hK _ _ ?_)
 · rw [zbs]
   intro j hj
   have hl : i + j < cs.size := by omega
   rw [hb.cell (i := i + j) (v := cs[i + j]) (Array.getElem?_eq_getElem hl)]
   exact ⟨rfl, hb.frozen _⟩
 have hb' : w.heap[b]? = some (.cells cs t (0, 0)) := by unfold Row at hb; exact hb
 rw [show (zb 64 g).toList = bl 64 g from rfl, setCells_row _ _ _ _ hb', hc]
 exact h
end
section
variable {P : Program}
theorem results_row {fn : Func} {p : Tmp} {ty : TypeId} (h : fn.results = #[.cell p ty]) (tmps : Array Value) (w : World) (b : Nat) (t : TypeId) (cs : Array Value)
 (hp : tmps.getD p undef = .pointer (some ⟨b, 0, none⟩)) (hb : Row w b t cs) (d : TypeDesc) (hu : P.underlying ty = some d) (hd : (match d with | .struct _ | .array _ _ => true | _ => false) = true) (hi : (P.info? ty).map (·.size) = some cs.size) :
 (results fn tmps).run P w = .ok (.agg cs) w := by
 have hp' : tmps[p]?.getD undef = .pointer (some ⟨b, 0, none⟩) := by simpa using hp
 have hb' : w.heap[b]? = some (.cells cs t (0, 0)) := by unfold Row at hb; exact hb
 simp [results, h, hp', asAddr, run_loadVar_row w b t ty _ (0, 0) d hb' hu hd hi]
end
end Go.Proofs.Yteloknnooebabaa
namespace Go.Proofs.Yteloknnooebabaa
open Go Go.RowKit
theorem drC_at (p : Int) (m G D : Nat → Nat) : (drC p m G D).toArray[0]? = some (.int .i64 p) := by simp [drC]
theorem drC_all (p : Int) (m G D : Nat → Nat) : (drC p m G D).toArray.all (·.oneCell') = true := Array.all_eq_true_iff_forall_mem.2 fun u hu => by
 have hu' : u ∈ drC p m G D := by simpa using hu
 unfold drC at hu'
 have key : ∀ g : Nat → Nat, u ∈ bl 64 g → u.oneCell' = true := fun g h => by
  unfold bl at h
  obtain ⟨i, _, rfl⟩ := List.mem_map.1 h
  rfl
 rcases List.mem_cons.1 hu' with h | h
 · subst h; rfl
 rcases List.mem_append.1 h with h | h
 · exact key m h
 rcases List.mem_append.1 h with h | h
 · exact key G h
 exact key D h
theorem drC_set (p q : Int) (m G D : Nat → Nat) : (drC p m G D).toArray.setIfInBounds 0 (.int .i64 q) = (drC q m G D).toArray := by simp [drC]
theorem drC_m (p : Int) (m G D g : Nat → Nat) : ((bl 64 g).zipIdx 0).foldl (fun (c : Array Value) (z : Value × Nat) => c.setIfInBounds (1 + z.2) z.1) (drC p m G D).toArray = (drC p g G D).toArray := by
 have := foldl_set (bl 64 g) 1 [.int .i64 p] (bl 64 G ++ bl 64 D) (bl 64 m) (by rw [zl, zl]) rfl
 simpa [drC] using this
theorem drC_g (p : Int) (m G D g : Nat → Nat) : ((bl 64 g).zipIdx 0).foldl (fun (c : Array Value) (z : Value × Nat) => c.setIfInBounds (65 + z.2) z.1) (drC p m G D).toArray = (drC p m g D).toArray := by
 have := foldl_set (bl 64 g) 65 (.int .i64 p :: bl 64 m) (bl 64 D) (bl 64 G) (by rw [zl, zl]) (by rw [List.length_cons, zl])
 simpa [drC] using this
theorem drC_d (p : Int) (m G D g : Nat → Nat) : ((bl 64 g).zipIdx 0).foldl (fun (c : Array Value) (z : Value × Nat) => c.setIfInBounds (129 + z.2) z.1) (drC p m G D).toArray = (drC p m G g).toArray := by
 have := foldl_set (bl 64 g) 129 (.int .i64 p :: (bl 64 m ++ bl 64 G)) [] (bl 64 D) (by rw [zl, zl]) (by rw [List.length_cons, List.length_append, zl, zl])
 simpa [drC] using this
theorem range_part {w : World} {b : Nat} {t : TypeId} {pre c post : List Value} (h : Row w b t (pre ++ (c ++ post)).toArray) : w.rangeAt b pre.length c := by
 intro j v hv
 have := h.range (pre.length + j) v (by
  have hj : j < c.length := (List.getElem?_eq_some_iff.1 hv).1
  rw [List.getElem?_append_right (by omega), Nat.add_sub_cancel_left, List.getElem?_append_left hj]; exact hv)
 rwa [Nat.zero_add] at this
theorem Row.drm {w : World} {b : Nat} {t : TypeId} {p : Int} {m G D : Nat → Nat} (h : Row w b t (drC p m G D).toArray) : w.rangeAt b 1 (bl 64 m) := range_part (pre := [.int .i64 p]) (c := bl 64 m) (post := bl 64 G ++ bl 64 D) h
theorem Row.drg {w : World} {b : Nat} {t : TypeId} {p : Int} {m G D : Nat → Nat} (h : Row w b t (drC p m G D).toArray) : w.rangeAt b 65 (bl 64 G) := by
 have := range_part (w := w) (b := b) (t := t) (pre := .int .i64 p :: bl 64 m) (c := bl 64 G) (post := bl 64 D) (by simpa [drC] using h)
 rwa [List.length_cons, zl] at this
theorem Row.drd {w : World} {b : Nat} {t : TypeId} {p : Int} {m G D : Nat → Nat} (h : Row w b t (drC p m G D).toArray) : w.rangeAt b 129 (bl 64 D) := by
 have := range_part (w := w) (b := b) (t := t) (pre := .int .i64 p :: (bl 64 m ++ bl 64 G)) (c := bl 64 D) (post := []) (by simpa [drC] using h)
 rw [List.length_cons, List.length_append, zl, zl] at this; exact this
theorem Try.size58 : (Try.prog.info? 58).map (·.size) = some 193 := by kernel_rfl
theorem Try.size55 : (Try.prog.info? 55).map (·.size) = some 193 := by kernel_rfl
theorem drC_zero : (drC 0 (fun _ => 0) (fun _ => 0) (fun _ => 0)).toArray = Try.zeroCells58 := by unfold drC bl; kernel_rfl
end Go.Proofs.Yteloknnooebabaa
namespace Go.Proofs.Yteloknnooebabaa
open Go Go.RowKit
attribute [local irreducible] deg irB monUp monB okA
noncomputable def drB (p : Int) (m G D : Nat → Nat) : Bool := flV p m && (rsB p m G && (rsB p m D && !eqN 64 D (fun _ => 0)))
theorem drB_1 {p : Int} {m G D : Nat → Nat} (h : flV p m = false) : drB p m G D = false := by unfold drB; rw [h]; rfl
theorem drB_2 {p : Int} {m G D : Nat → Nat} (h : rsB p m G = false) : drB p m G D = false := by unfold drB; rw [h]; simp
theorem drB_3 {p : Int} {m G D : Nat → Nat} (h : rsB p m D = false) : drB p m G D = false := by unfold drB; rw [h]; simp
theorem drB_4 {p : Int} {m G D : Nat → Nat} (h : eqN 64 D (fun _ => 0) = true) : drB p m G D = false := by unfold drB; rw [h]; simp
theorem drB_5 {p : Int} {m G D : Nat → Nat} (h1 : flV p m = true) (h2 : rsB p m G = true) (h3 : rsB p m D = true) (h4 : eqN 64 D (fun _ => 0) = false) : drB p m G D = true := by unfold drB; rw [h1, h2, h3, h4]; rfl
theorem drB_code {p : Int} {m G D : Nat → Nat} (h : codeL p [m, G, D] = 1) : drB p m G D = false := by
 cases h1 : okA p m with
 | false => exact drB_1 (flV_1 h1)
 | true =>
  cases h2 : okA p G with
  | false => exact drB_2 (by unfold rsB; rw [h2]; rfl)
  | true =>
   cases h3 : okA p D with
   | false => exact drB_3 (by unfold rsB; rw [h3]; rfl)
   | true =>
    have : codeL p [m, G, D] = 0 := codeL_ok (okA_p h1) (fun j f hf => by
     match j, hf with
     | 0, hf => cases hf; exact h1
     | 1, hf => cases hf; exact h2
     | 2, hf => cases hf; exact h3)
    omega
theorem drB_all {p : Int} {m G D : Nat → Nat} (h : drB p m G D = true) : flV p m = true ∧ rsB p m G = true ∧ rsB p m D = true ∧ eqN 64 D (fun _ => 0) = false := by
 unfold drB at h
 simp only [Bool.and_eq_true, Bool.not_eq_true'] at h
 exact ⟨h.1, h.2.1, h.2.2.1, h.2.2.2⟩
theorem toDrinfeld_any (p : Int) (m G D : Nat → Nat) (hm : byte m) (hG : byte G) (hD : byte D) (w : World) :
 Calls Try.prog 59 #[(.agg (drC p m G D).toArray)] w fun e w' => e = .returned (.agg (drC p m G D).toArray) ∧ Below w.heap.size w w' := by
 go_enter Try.func59, Try.ntmps59
 go_upto_region 1 with (fail)
 rw [← drC_zero]
 obtain ⟨W1, hwo⟩ : ∃ v : World, v = ((w.alloc (.cells (drC p m G D).toArray 55)).alloc (.cells (drC 0 (fun _ => 0) (fun _ => 0) (fun _ => 0)).toArray 58)) := ⟨_, rfl⟩
 have B0 : Row W1 (w.heap.size) 55 (drC p m G D).toArray := by subst hwo; have := ((Row.new w 55 (drC p m G D).toArray).alloc (.cells (drC 0 (fun _ => 0) (fun _ => 0) (fun _ => 0)).toArray 58)); simpa using this
 have B1 : Row W1 (w.heap.size + 1) 58 (drC 0 (fun _ => 0) (fun _ => 0) (fun _ => 0)).toArray := by subst hwo; have := (Row.new (w.alloc (.cells (drC p m G D).toArray 55)) 58 (drC 0 (fun _ => 0) (fun _ => 0) (fun _ => 0)).toArray); simpa using this
 have hb : Below w.heap.size w W1 := by subst hwo; exact (((Below.refl _ _).alloc (Nat.le_refl _) _).alloc (by simp) _)
 rw [← hwo]
 clear hwo
 go_upto_region 2 with (first | rw [← z64] | rw [← drC_zero])
 have lt_B0 := B0.lt
 have lt_B1 := B1.lt
 have lhb := hb.size
 obtain ⟨W2, hwo, hzQ⟩ : ∃ v : World, v = (W1.alloc (.cells (drC 0 (fun _ => 0) (fun _ => 0) (fun _ => 0)).toArray 58)) ∧ Row v (w.heap.size) 55 (drC p m G D).toArray ∧ Row v (w.heap.size + 1) 58 (drC 0 (fun _ => 0) (fun _ => 0) (fun _ => 0)).toArray ∧ Row v (W1.heap.size) 58 (drC 0 (fun _ => 0) (fun _ => 0) (fun _ => 0)).toArray ∧ Below w.heap.size w v := ⟨_, rfl, (B0.alloc (.cells (drC 0 (fun _ => 0) (fun _ => 0) (fun _ => 0)).toArray 58)), (B1.alloc (.cells (drC 0 (fun _ => 0) (fun _ => 0) (fun _ => 0)).toArray 58)), (Row.new W1 58 (drC 0 (fun _ => 0) (fun _ => 0) (fun _ => 0)).toArray), (hb.alloc (by have := hb.size; simp; omega) (.cells (drC 0 (fun _ => 0) (fun _ => 0) (fun _ => 0)).toArray 58))⟩
 rw [← hwo]
 clear hwo B0 B1 hb
 obtain ⟨B0, B1, B2, hb⟩ := hzQ
 obtain ⟨N1, hNN⟩ : ∃ n : Nat, n = W1.heap.size := ⟨_, rfl⟩
 rw [← hNN] at lt_B0 lt_B1 lhb B2 ⊢
 clear hNN
 have zN1_0 := lt_B0
 have zN1_1 := lt_B1
 have zN1 := lhb
 clear lt_B0 lt_B1 lhb
 try simp only [Act.put, pA, pB, pC]
 have cc3 := B2.cell (i := 0) (drC_at _ _ _ _)
 have zz3 := B2.frozen 0
 go_upto_region 3 with (first | rw [← z64] | (refine wpList_load_rowc rfl 2 (.tmp 4) rfl _ 0 rfl 55 _ (B0) (.int .i64 p) (drC_at _ _ _ _) _ Try.underlying2 rfl ?_))
 clear cc3 zz3
 obtain ⟨W3, hwo, hzQ⟩ : ∃ v : World, v = (W2.setCell ⟨N1, 0, none⟩ (.int .i64 p)) ∧ Row v (w.heap.size) 55 (drC p m G D).toArray ∧ Row v (w.heap.size + 1) 58 (drC 0 (fun _ => 0) (fun _ => 0) (fun _ => 0)).toArray ∧ Row v (N1) 58 (drC p (fun _ => 0) (fun _ => 0) (fun _ => 0)).toArray ∧ Below w.heap.size w v := ⟨_, rfl, (B0.setOther (by dsimp only; omega)), (B1.setOther (by dsimp only; omega)), (show Row _ _ _ (drC p (fun _ => 0) (fun _ => 0) (fun _ => 0)).toArray by rw [← (drC_set _ _ _ _ _)]; exact (B2).set), (hb.setCell (by show w.heap.size ≤ (N1); omega) _)⟩
 rw [← hwo]
 clear hwo B0 B1 B2 hb
 obtain ⟨B0, B1, B2, hb⟩ := hzQ
 try simp only [Act.put, pA, pB, pC]
 have lt_B0 := B0.lt
 have lt_B1 := B1.lt
 have lt_B2 := B2.lt
 go_upto_region 4 with (first | rw [← z64] | (refine wpList_load_mid rfl 22 (.tmp 7) rfl _ 1 rfl (bl 64 m) _ (B0.drm) Try.underlying22 rfl (by rw [zl]; exact Try.size22) ?_) | (go_at_call 28; with_reducible refine (toPoly_any m hm _).mono ?_; rintro e W4 ⟨rfl, hW4⟩; replace B0 := B0.zw hW4; replace B1 := B1.zw hW4; replace B2 := B2.zw hW4; replace hb := (hb).trans (hW4.mono (hb).size)) | (refine wpList_store_part rfl 24 (.tmp 10) (.tmp 9) rfl _ 1 (m) rfl rfl 58 _ (drC p m (fun _ => 0) (fun _ => 0)).toArray (B2) (drC_m _ _ _ _ _) (by first | decide | simp [drC_len]) Try.size24 ?_; try simp only [Act.put]))
 obtain ⟨W5, hwo, hzQ⟩ : ∃ v : World, v = (W4.setRow (N1) (drC p m (fun _ => 0) (fun _ => 0)).toArray) ∧ Row v (w.heap.size) 55 (drC p m G D).toArray ∧ Row v (w.heap.size + 1) 58 (drC 0 (fun _ => 0) (fun _ => 0) (fun _ => 0)).toArray ∧ Row v (N1) 58 (drC p m (fun _ => 0) (fun _ => 0)).toArray ∧ Below w.heap.size w v := ⟨_, rfl, (B0.rowOther (by omega)), (B1.rowOther (by omega)), (B2.row (drC p m (fun _ => 0) (fun _ => 0)).toArray), (zr hb (by omega) _)⟩
 rw [← hwo]
 clear hwo B0 B1 B2 hb
 obtain ⟨B0, B1, B2, hb⟩ := hzQ
 try simp only [Act.put, pA, pB, pC]
 have lt_B0 := B0.lt
 have lt_B1 := B1.lt
 have lt_B2 := B2.lt
 go_upto_region 5 with (first | rw [← z64] | (refine wpList_load_mid rfl 22 (.tmp 11) rfl _ 65 rfl (bl 64 G) _ (B0.drg) Try.underlying22 rfl (by rw [zl]; exact Try.size22) ?_) | (go_at_call 28; with_reducible refine (toPoly_any G hG _).mono ?_; rintro e W6 ⟨rfl, hW6⟩; replace B0 := B0.zw hW6; replace B1 := B1.zw hW6; replace B2 := B2.zw hW6; replace hb := (hb).trans (hW6.mono (hb).size)) | (refine wpList_store_part rfl 24 (.tmp 14) (.tmp 13) rfl _ 65 (G) rfl rfl 58 _ (drC p m G (fun _ => 0)).toArray (B2) (drC_g _ _ _ _ _) (by first | decide | simp [drC_len]) Try.size24 ?_; try simp only [Act.put]))
 obtain ⟨W7, hwo, hzQ⟩ : ∃ v : World, v = (W6.setRow (N1) (drC p m G (fun _ => 0)).toArray) ∧ Row v (w.heap.size) 55 (drC p m G D).toArray ∧ Row v (w.heap.size + 1) 58 (drC 0 (fun _ => 0) (fun _ => 0) (fun _ => 0)).toArray ∧ Row v (N1) 58 (drC p m G (fun _ => 0)).toArray ∧ Below w.heap.size w v := ⟨_, rfl, (B0.rowOther (by omega)), (B1.rowOther (by omega)), (B2.row (drC p m G (fun _ => 0)).toArray), (zr hb (by omega) _)⟩
 rw [← hwo]
 clear hwo B0 B1 B2 hb
 obtain ⟨B0, B1, B2, hb⟩ := hzQ
 try simp only [Act.put, pA, pB, pC]
 have lt_B0 := B0.lt
 have lt_B1 := B1.lt
 have lt_B2 := B2.lt
 go_upto_region 6 with (first | rw [← z64] | (refine wpList_load_mid rfl 22 (.tmp 15) rfl _ 129 rfl (bl 64 D) _ (B0.drd) Try.underlying22 rfl (by rw [zl]; exact Try.size22) ?_) | (go_at_call 28; with_reducible refine (toPoly_any D hD _).mono ?_; rintro e W8 ⟨rfl, hW8⟩; replace B0 := B0.zw hW8; replace B1 := B1.zw hW8; replace B2 := B2.zw hW8; replace hb := (hb).trans (hW8.mono (hb).size)) | (refine wpList_store_part rfl 24 (.tmp 18) (.tmp 17) rfl _ 129 (D) rfl rfl 58 _ (drC p m G D).toArray (B2) (drC_d _ _ _ _ _) (by first | decide | simp [drC_len]) Try.size24 ?_; try simp only [Act.put]))
 obtain ⟨W9, hwo, hzQ⟩ : ∃ v : World, v = (W8.setRow (N1) (drC p m G D).toArray) ∧ Row v (w.heap.size) 55 (drC p m G D).toArray ∧ Row v (w.heap.size + 1) 58 (drC 0 (fun _ => 0) (fun _ => 0) (fun _ => 0)).toArray ∧ Row v (N1) 58 (drC p m G D).toArray ∧ Below w.heap.size w v := ⟨_, rfl, (B0.rowOther (by omega)), (B1.rowOther (by omega)), (B2.row (drC p m G D).toArray), (zr hb (by omega) _)⟩
 rw [← hwo]
 clear hwo B0 B1 B2 hb
 obtain ⟨B0, B1, B2, hb⟩ := hzQ
 try simp only [Act.put, pA, pB, pC]
 have lt_B0 := B0.lt
 have lt_B1 := B1.lt
 have lt_B2 := B2.lt
 go_wp2_with (first | rw [← z64] | (refine zlr rfl 58 (.tmp 3) rfl _ rfl 58 (drC p m G D).toArray (B2) _ Try.underlying58 rfl 193 Try.size58 (by simp [drC_len]) ?_) | (refine wpList_store_rowv rfl 58 (.tmp 2) (.tmp 19) rfl _ rfl (drC p m G D).toArray rfl 58 _ (B1) 193 Try.size58 (by simp [drC_len]) (by simp [drC_len]) (drC_all _ _ _ _) ?_; try simp only [Act.put]))
 obtain ⟨W10, hwo, hzQ⟩ : ∃ v : World, v = (W9.setRow (w.heap.size + 1) (drC p m G D).toArray) ∧ Row v (w.heap.size) 55 (drC p m G D).toArray ∧ Row v (w.heap.size + 1) 58 (drC p m G D).toArray ∧ Row v (N1) 58 (drC p m G D).toArray ∧ Below w.heap.size w v := ⟨_, rfl, (B0.rowOther (by omega)), (B1.row (drC p m G D).toArray), (B2.rowOther (by omega)), (zr hb (by omega) _)⟩
 rw [← hwo]
 clear hwo B0 B1 B2 hb
 obtain ⟨B0, B1, B2, hb⟩ := hzQ
 try simp only [Act.put, pA, pB, pC]
 refine bodyPost_ret (results_row rfl _ _ _ _ _ rfl B1 _ Try.underlying58 rfl (by rw [Try.size58]; simp [drC_len])) rfl ⟨rfl, hb⟩
theorem drField_any (p : Int) (m G D : Nat → Nat) (w : World) :
 Calls Try.prog 146 #[(.agg (drC p m G D).toArray)] w fun e w' => e = .returned (.agg (fdC p m).toArray) ∧ Below w.heap.size w w' := by
 go_enter Try.func146, Try.ntmps146
 go_upto_region 1 with (fail)
 rw [← fdC_zero]
 obtain ⟨W1, hwo⟩ : ∃ v : World, v = ((w.alloc (.cells (drC p m G D).toArray 58)).alloc (.cells (fdC 0 (fun _ => 0)).toArray 96)) := ⟨_, rfl⟩
 have B0 : Row W1 (w.heap.size) 58 (drC p m G D).toArray := by subst hwo; have := ((Row.new w 58 (drC p m G D).toArray).alloc (.cells (fdC 0 (fun _ => 0)).toArray 96)); simpa using this
 have B1 : Row W1 (w.heap.size + 1) 96 (fdC 0 (fun _ => 0)).toArray := by subst hwo; have := (Row.new (w.alloc (.cells (drC p m G D).toArray 58)) 96 (fdC 0 (fun _ => 0)).toArray); simpa using this
 have hb : Below w.heap.size w W1 := by subst hwo; exact (((Below.refl _ _).alloc (Nat.le_refl _) _).alloc (by simp) _)
 rw [← hwo]
 clear hwo
 have lt_B0 := B0.lt
 have lt_B1 := B1.lt
 go_wp2_with (first | rw [← z64] | (refine wpList_load_rowc rfl 2 (.tmp 3) rfl _ 0 rfl 58 _ (B0) (.int .i64 p) (drC_at _ _ _ _) _ Try.underlying2 rfl ?_) | (refine wpList_load_mid rfl 24 (.tmp 5) rfl _ 1 rfl (bl 64 m) _ (B0.drm) Try.underlying24 rfl (by rw [zl]; exact Try.size24) ?_) | (refine zbo rfl 96 _ rfl (fdC p m).toArray (by rw [Array.toList_map]; exact built_fd p m) ?_) | (refine wpList_store_rowv rfl 96 (.tmp 2) (.tmp 7) rfl _ rfl (fdC p m).toArray rfl 96 _ (B1) 65 Try.size96 (by simp [fdC_len]) (by simp [fdC_len]) (fdC_all _ _) ?_; try simp only [Act.put]))
 obtain ⟨W2, hwo, hzQ⟩ : ∃ v : World, v = (W1.setRow (w.heap.size + 1) (fdC p m).toArray) ∧ Row v (w.heap.size) 58 (drC p m G D).toArray ∧ Row v (w.heap.size + 1) 96 (fdC p m).toArray ∧ Below w.heap.size w v := ⟨_, rfl, (B0.rowOther (by omega)), (B1.row (fdC p m).toArray), (zr hb (by omega) _)⟩
 rw [← hwo]
 clear hwo B0 B1 hb
 obtain ⟨B0, B1, hb⟩ := hzQ
 try simp only [Act.put, pA, pB, pC]
 refine bodyPost_ret (results_row rfl _ _ _ _ _ rfl B1 _ Try.underlying96 rfl (by rw [Try.size96]; simp [fdC_len])) rfl ⟨rfl, hb⟩
theorem impl_IsDrinfeld_any (p : Int) (m G D : Nat → Nat) (hm : byte m) (hG : byte G) (hD : byte D) (w : World) :
 Calls Try.prog 60 #[(.agg (drC p m G D).toArray)] w fun e w' => e = .returned (.bool (drB p m G D)) ∧ Below w.heap.size w w' := by
 have HFD := Lib.hid (fun W => drField_any p m G D W)
 have HFL := Lib.hid (fun W => impl_IsField_any p m hm W)
 have HRG := Lib.hid (fun W => isResidue_any p m G hm hG W)
 have HRD := Lib.hid (fun W => isResidue_any p m D hm hD W)
 go_enter Try.func60, Try.ntmps60
 go_upto_region 1 with (fail)
 obtain ⟨W1, hwo⟩ : ∃ v : World, v = (w.alloc (.cells (drC p m G D).toArray 58)) := ⟨_, rfl⟩
 have B0 : Row W1 (w.heap.size) 58 (drC p m G D).toArray := by subst hwo; have := (Row.new w 58 (drC p m G D).toArray); simpa using this
 have hb : Below w.heap.size w W1 := by subst hwo; exact ((Below.refl _ _).alloc (Nat.le_refl _) _)
 rw [← hwo]
 clear hwo
 have lt_B0 := B0.lt
 go_upto_region 2 with (first | rw [← z64] | rw [← fdC_zero] | (refine zlr rfl 58 (.tmp 1) rfl _ rfl 58 (drC p m G D).toArray (B0) _ Try.underlying58 rfl 193 Try.size58 (by simp [drC_len]) ?_) | (go_at_call 146; refine (HFD.out _).mono ?_; rintro e W2 ⟨rfl, hW2⟩; replace B0 := B0.zw hW2; replace hb := (hb).trans (hW2.mono (hb).size)) | (refine wpList_store_rowv rfl 96 (.tmp 3) (.tmp 5) rfl _ rfl (fdC p m).toArray rfl 96 _ ((Row.new W2 96 (fdC 0 (fun _ => 0)).toArray)) 65 Try.size96 (by simp [fdC_len]) (by simp [fdC_len]) (fdC_all _ _) ?_; try simp only [Act.put]))
 have lt_B0 := B0.lt
 have lhb := hb.size
 obtain ⟨W3, hwo, hzQ⟩ : ∃ v : World, v = ((W2.alloc (.cells (fdC 0 (fun _ => 0)).toArray 96)).setRow (W2.heap.size) (fdC p m).toArray) ∧ Row v (w.heap.size) 58 (drC p m G D).toArray ∧ Row v (W2.heap.size) 96 (fdC p m).toArray ∧ Below w.heap.size w v := ⟨_, rfl, ((B0.alloc (.cells (fdC 0 (fun _ => 0)).toArray 96)).rowOther (by omega)), ((Row.new W2 96 (fdC 0 (fun _ => 0)).toArray).row (fdC p m).toArray), (zr (hb.alloc (by have := hb.size; simp; omega) (.cells (fdC 0 (fun _ => 0)).toArray 96)) (by omega) _)⟩
 rw [← hwo]
 clear hwo B0 hb
 obtain ⟨B0, B1, hb⟩ := hzQ
 obtain ⟨N1, hNN⟩ : ∃ n : Nat, n = W2.heap.size := ⟨_, rfl⟩
 rw [← hNN] at lt_B0 lhb B1 ⊢
 clear hNN
 have zN1_0 := lt_B0
 have zN1 := lhb
 clear lt_B0 lhb
 try simp only [Act.put, pA, pB, pC]
 cases hf : flV p m with
 | false =>
  have HV := Lib.hid (drB_1 (G := G) (D := D) hf)
  go_wp2_with (first | (refine wpList_load_rowc rfl 2 (.tmp 6) rfl _ 0 rfl 96 _ (B1) (.int .i64 p) (fdC_at _ _) _ Try.underlying2 rfl ?_) | (refine wpList_load_mid rfl 24 (.tmp 8) rfl _ 1 rfl (bl 64 m) _ (B1.fd) Try.underlying24 rfl (by rw [zl]; exact Try.size24) ?_) | (go_at_call 113; refine (HFL.out _).mono ?_; rintro e W4 ⟨rfl, hW4⟩; replace B0 := B0.zw hW4; replace B1 := B1.zw hW4; replace hb := (hb).trans (hW4.mono (hb).size); rw [hf]))
  go_ret
  exact ⟨by rw [HV.out]; rfl, hb⟩
 | true =>
  cases hg : rsB p m G with
  | false =>
   have HV := Lib.hid (drB_2 (D := D) hg)
   go_wp2_with (first | (refine wpList_load_rowc rfl 2 (.tmp 6) rfl _ 0 rfl 96 _ (B1) (.int .i64 p) (fdC_at _ _) _ Try.underlying2 rfl ?_) | (refine wpList_load_mid rfl 24 (.tmp 8) rfl _ 1 rfl (bl 64 m) _ (B1.fd) Try.underlying24 rfl (by rw [zl]; exact Try.size24) ?_) | (go_at_call 113; refine (HFL.out _).mono ?_; rintro e W4 ⟨rfl, hW4⟩; replace B0 := B0.zw hW4; replace B1 := B1.zw hW4; replace hb := (hb).trans (hW4.mono (hb).size); rw [hf]) | (refine wpList_load_rowv_g rfl 96 (.tmp 3) rfl _ rfl 96 (fdC p m).toArray (B1) _ Try.underlying96 rfl 65 Try.size96 (by simp [fdC_len]) ?_) | (refine wpList_load_mid_g rfl 24 (.tmp 13) rfl _ 65 rfl (bl 64 G) _ (B0.drg) Try.underlying24 rfl (by rw [zl]; exact Try.size24) ?_) | (go_at_call 114; with_reducible refine (HRG.out _).mono ?_; rintro e W5 ⟨rfl, hW5⟩; replace B0 := B0.zw hW5; replace B1 := B1.zw hW5; replace hb := (hb).trans (hW5.mono (hb).size); try rw [hg]))
   go_ret
   exact ⟨by rw [HV.out]; rfl, hb⟩
  | true =>
   cases hd : rsB p m D with
   | false =>
    have HV := Lib.hid (drB_3 (G := G) hd)
    go_wp2_with (first | (refine wpList_load_rowc rfl 2 (.tmp 6) rfl _ 0 rfl 96 _ (B1) (.int .i64 p) (fdC_at _ _) _ Try.underlying2 rfl ?_) | (refine wpList_load_mid rfl 24 (.tmp 8) rfl _ 1 rfl (bl 64 m) _ (B1.fd) Try.underlying24 rfl (by rw [zl]; exact Try.size24) ?_) | (go_at_call 113; refine (HFL.out _).mono ?_; rintro e W4 ⟨rfl, hW4⟩; replace B0 := B0.zw hW4; replace B1 := B1.zw hW4; replace hb := (hb).trans (hW4.mono (hb).size); rw [hf]) | (refine wpList_load_rowv_g rfl 96 (.tmp 3) rfl _ rfl 96 (fdC p m).toArray (B1) _ Try.underlying96 rfl 65 Try.size96 (by simp [fdC_len]) ?_) | (refine wpList_load_mid_g rfl 24 (.tmp 13) rfl _ 65 rfl (bl 64 G) _ (B0.drg) Try.underlying24 rfl (by rw [zl]; exact Try.size24) ?_) | (go_at_call 114; with_reducible refine (HRG.out _).mono ?_; rintro e W5 ⟨rfl, hW5⟩; replace B0 := B0.zw hW5; replace B1 := B1.zw hW5; replace hb := (hb).trans (hW5.mono (hb).size); try rw [hg]) | (refine wpList_load_rowv_g rfl 96 (.tmp 3) rfl _ rfl 96 (fdC p m).toArray (B1) _ Try.underlying96 rfl 65 Try.size96 (by simp [fdC_len]) ?_) | (refine wpList_load_mid_g rfl 24 (.tmp 19) rfl _ 129 rfl (bl 64 D) _ (B0.drd) Try.underlying24 rfl (by rw [zl]; exact Try.size24) ?_) | (go_at_call 114; with_reducible refine (HRD.out _).mono ?_; rintro e W6 ⟨rfl, hW6⟩; replace B0 := B0.zw hW6; replace B1 := B1.zw hW6; replace hb := (hb).trans (hW6.mono (hb).size); try rw [hd]))
    go_ret
    exact ⟨by rw [HV.out]; rfl, hb⟩
   | true =>
    cases hz : eqN 64 D (fun _ => 0) with
    | true =>
     have HV := Lib.hid (drB_4 (p := p) (m := m) (G := G) hz)
     have hgd := Try.noGuard24
     have heq := fun W => zeb (P := Try.prog) W 9998 24 5 64 D (fun _ => 0) Try.underlying24 Try.underlying5 Try.size5
     rw [hz] at heq
     go_wp2_with (first | rw [← z64] | (refine wpList_load_rowc rfl 2 (.tmp 6) rfl _ 0 rfl 96 _ (B1) (.int .i64 p) (fdC_at _ _) _ Try.underlying2 rfl ?_) | (refine wpList_load_mid rfl 24 (.tmp 8) rfl _ 1 rfl (bl 64 m) _ (B1.fd) Try.underlying24 rfl (by rw [zl]; exact Try.size24) ?_) | (go_at_call 113; refine (HFL.out _).mono ?_; rintro e W4 ⟨rfl, hW4⟩; replace B0 := B0.zw hW4; replace B1 := B1.zw hW4; replace hb := (hb).trans (hW4.mono (hb).size); rw [hf]) | (refine wpList_load_rowv_g rfl 96 (.tmp 3) rfl _ rfl 96 (fdC p m).toArray (B1) _ Try.underlying96 rfl 65 Try.size96 (by simp [fdC_len]) ?_) | (refine wpList_load_mid_g rfl 24 (.tmp 13) rfl _ 65 rfl (bl 64 G) _ (B0.drg) Try.underlying24 rfl (by rw [zl]; exact Try.size24) ?_) | (go_at_call 114; with_reducible refine (HRG.out _).mono ?_; rintro e W5 ⟨rfl, hW5⟩; replace B0 := B0.zw hW5; replace B1 := B1.zw hW5; replace hb := (hb).trans (hW5.mono (hb).size); try rw [hg]) | (refine wpList_load_rowv_g rfl 96 (.tmp 3) rfl _ rfl 96 (fdC p m).toArray (B1) _ Try.underlying96 rfl 65 Try.size96 (by simp [fdC_len]) ?_) | (refine wpList_load_mid_g rfl 24 (.tmp 19) rfl _ 129 rfl (bl 64 D) _ (B0.drd) Try.underlying24 rfl (by rw [zl]; exact Try.size24) ?_) | (go_at_call 114; with_reducible refine (HRD.out _).mono ?_; rintro e W6 ⟨rfl, hW6⟩; replace B0 := B0.zw hW6; replace B1 := B1.zw hW6; replace hb := (hb).trans (hW6.mono (hb).size); try rw [hd]) | (refine wpList_load_mid_g rfl 24 (.tmp 24) rfl _ 129 rfl (bl 64 D) _ (B0.drd) Try.underlying24 rfl (by rw [zl]; exact Try.size24) ?_))
     go_ret
     exact ⟨by rw [HV.out]; rfl, hb⟩
    | false =>
     have HV := Lib.hid (drB_5 hf hg hd hz)
     have hgd := Try.noGuard24
     have heq := fun W => zeb (P := Try.prog) W 9998 24 5 64 D (fun _ => 0) Try.underlying24 Try.underlying5 Try.size5
     rw [hz] at heq
     go_wp2_with (first | rw [← z64] | (refine wpList_load_rowc rfl 2 (.tmp 6) rfl _ 0 rfl 96 _ (B1) (.int .i64 p) (fdC_at _ _) _ Try.underlying2 rfl ?_) | (refine wpList_load_mid rfl 24 (.tmp 8) rfl _ 1 rfl (bl 64 m) _ (B1.fd) Try.underlying24 rfl (by rw [zl]; exact Try.size24) ?_) | (go_at_call 113; refine (HFL.out _).mono ?_; rintro e W4 ⟨rfl, hW4⟩; replace B0 := B0.zw hW4; replace B1 := B1.zw hW4; replace hb := (hb).trans (hW4.mono (hb).size); rw [hf]) | (refine wpList_load_rowv_g rfl 96 (.tmp 3) rfl _ rfl 96 (fdC p m).toArray (B1) _ Try.underlying96 rfl 65 Try.size96 (by simp [fdC_len]) ?_) | (refine wpList_load_mid_g rfl 24 (.tmp 13) rfl _ 65 rfl (bl 64 G) _ (B0.drg) Try.underlying24 rfl (by rw [zl]; exact Try.size24) ?_) | (go_at_call 114; with_reducible refine (HRG.out _).mono ?_; rintro e W5 ⟨rfl, hW5⟩; replace B0 := B0.zw hW5; replace B1 := B1.zw hW5; replace hb := (hb).trans (hW5.mono (hb).size); try rw [hg]) | (refine wpList_load_rowv_g rfl 96 (.tmp 3) rfl _ rfl 96 (fdC p m).toArray (B1) _ Try.underlying96 rfl 65 Try.size96 (by simp [fdC_len]) ?_) | (refine wpList_load_mid_g rfl 24 (.tmp 19) rfl _ 129 rfl (bl 64 D) _ (B0.drd) Try.underlying24 rfl (by rw [zl]; exact Try.size24) ?_) | (go_at_call 114; with_reducible refine (HRD.out _).mono ?_; rintro e W6 ⟨rfl, hW6⟩; replace B0 := B0.zw hW6; replace B1 := B1.zw hW6; replace hb := (hb).trans (hW6.mono (hb).size); try rw [hd]) | (refine wpList_load_mid_g rfl 24 (.tmp 24) rfl _ 129 rfl (bl 64 D) _ (B0.drd) Try.underlying24 rfl (by rw [zl]; exact Try.size24) ?_))
     go_ret
     exact ⟨by rw [HV.out]; rfl, hb⟩
theorem l06Is_any (p : Int) (m G D : Nat → Nat) (hm : byte m) (hG : byte G) (hD : byte D) (w : World) :
 Calls Try.prog 145 #[(.agg (drC p m G D).toArray)] w fun e w' => e = .returned (.bool (drB p m G D)) ∧ Below w.heap.size w w' := by
 go_enter Try.func145, Try.ntmps145
 go_upto_region 1 with (fail)
 obtain ⟨W1, hwo⟩ : ∃ v : World, v = (w.alloc (.cells (drC p m G D).toArray 58)) := ⟨_, rfl⟩
 have B0 : Row W1 (w.heap.size) 58 (drC p m G D).toArray := by subst hwo; have := (Row.new w 58 (drC p m G D).toArray); simpa using this
 have hb : Below w.heap.size w W1 := by subst hwo; exact ((Below.refl _ _).alloc (Nat.le_refl _) _)
 rw [← hwo]
 clear hwo
 go_upto_region 2 with (first | (refine wpList_load_rowc rfl 2 (.tmp 5) rfl _ 0 rfl 58 _ (B0) (.int .i64 p) (drC_at _ _ _ _) _ Try.underlying2 rfl ?_))
 rcases codeL_two p [m, G, D] with hc | hc
 · obtain ⟨hpp, hall⟩ := codeL_zero hc
   have hom := hall m (by simp)
   have hoG := hall G (by simp)
   have hoD := hall D (by simp)
   have hmB := monUp_B (c := 4) (f := m)
   have hRG : rsB p m G = decide (deg G < deg m) := by unfold rsB; rw [hoG]; rfl
   have hRD : rsB p m D = decide (deg D < deg m) := by unfold rsB; rw [hoD]; rfl
   clear hall
   cases hmo : monB m with
   | false =>
    have HV := Lib.hid (drB_1 (G := G) (D := D) (flV_2 (p := p) (by rw [hmB, hmo]; rfl)))
    clear hmB hRG hRD
    have hmo' := hmo
    go_upto_region 3 with (first | (refine wpList_load_mid rfl 24 (.tmp 8) rfl _ 1 rfl (bl 64 m) _ (B0.drm) Try.underlying24 rfl (by rw [zl]; exact Try.size24) ?_) | (refine wpList_load_mid rfl 24 (.tmp 10) rfl _ 65 rfl (bl 64 G) _ (B0.drg) Try.underlying24 rfl (by rw [zl]; exact Try.size24) ?_) | (refine wpList_load_mid rfl 24 (.tmp 12) rfl _ 129 rfl (bl 64 D) _ (B0.drd) Try.underlying24 rfl (by rw [zl]; exact Try.size24) ?_) | (refine wpList_build_polys rfl 40 _ [m, G, D] rfl 24 rfl Try.underlying40 Try.elem24 (by simp) (by simp) rfl ?_; intro wa hwa hps hba; clear hwa; replace B0 := B0.zw hba; replace hb := hb.trans (hba.mono hb.size)) | (go_at_call 122; refine (l01Code_any p [m, G, D] (by simp [hm, hG, hD]) _ _ hps (by simp)).mono ?_; rintro e W8 ⟨rfl, hbb⟩; replace B0 := B0.zw hbb; replace hb := hb.trans (hbb.mono hb.size); rw [hc]) | (refine wpList_load_mid_g rfl 24 (.tmp 18) rfl _ 1 rfl (bl 64 m) _ (B0.drm) Try.underlying24 rfl (by rw [zl]; exact Try.size24) ?_) | (go_at_call 123; refine (l01Monic_any m hm _).mono ?_; rintro e W9 ⟨rfl, hbc⟩; replace B0 := B0.zw hbc; replace hb := hb.trans (hbc.mono hb.size); rw [hmo]))
    go_wp2_with fail
    go_ret
    exact ⟨by rw [HV.out]; rfl, hb⟩
   | true =>
    obtain ⟨n, rfl, hpr, lm⟩ := okA_nat hom
    have hmo' := hmo
    go_upto_region 4 with (first | (refine wpList_load_mid rfl 24 (.tmp 8) rfl _ 1 rfl (bl 64 m) _ (B0.drm) Try.underlying24 rfl (by rw [zl]; exact Try.size24) ?_) | (refine wpList_load_mid rfl 24 (.tmp 10) rfl _ 65 rfl (bl 64 G) _ (B0.drg) Try.underlying24 rfl (by rw [zl]; exact Try.size24) ?_) | (refine wpList_load_mid rfl 24 (.tmp 12) rfl _ 129 rfl (bl 64 D) _ (B0.drd) Try.underlying24 rfl (by rw [zl]; exact Try.size24) ?_) | (refine wpList_build_polys rfl 40 _ [m, G, D] rfl 24 rfl Try.underlying40 Try.elem24 (by simp) (by simp) rfl ?_; intro wa hwa hps hba; clear hwa; replace B0 := B0.zw hba; replace hb := hb.trans (hba.mono hb.size)) | (go_at_call 122; refine (l01Code_any (n : Int) [m, G, D] (by simp [hm, hG, hD]) _ _ hps (by simp)).mono ?_; rintro e W8 ⟨rfl, hbb⟩; replace B0 := B0.zw hbb; replace hb := hb.trans (hbb.mono hb.size); rw [hc]) | (refine wpList_load_mid_g rfl 24 (.tmp 18) rfl _ 1 rfl (bl 64 m) _ (B0.drm) Try.underlying24 rfl (by rw [zl]; exact Try.size24) ?_) | (go_at_call 123; refine (l01Monic_any m hm _).mono ?_; rintro e W9 ⟨rfl, hbc⟩; replace B0 := B0.zw hbc; replace hb := hb.trans (hbc.mono hb.size); rw [hmo]))
    go_upto_region 5 with (first | (refine wpList_load_mid rfl 24 (.tmp 23) rfl _ 1 rfl (bl 64 m) _ (B0.drm) Try.underlying24 rfl (by rw [zl]; exact Try.size24) ?_) | (go_at_call 124; with_reducible refine (l01Deg_any m _).mono ?_; rintro e W21 ⟨rfl, hW21⟩; replace B0 := B0.zw hW21; replace hb := (hb).trans (hW21.mono (hb).size)))
    by_cases hr : 1 ≤ deg m ∧ deg m ≤ 4
    · have hFL := flV_3 hom (by rw [hmB, hmo]; simp; omega)
      have hmm := hmo
      unfold monB at hmm
      simp only [decide_eq_true_eq] at hmm
      obtain ⟨d, hdg⟩ : ∃ d : Nat, deg m = (d : Int) := ⟨(deg m).toNat, by omega⟩
      have hmon : mon m d := ⟨hdg, by have := hmm.2; rwa [hdg, Int.toNat_natCast] at this⟩
      have HI := Lib.hid (fun W => l01Irreducible_any n m d W hpr lm hmon (by omega))
      clear hmm hmon hmB hdg
      cases hi : irB n m with
      | false =>
       have HV := Lib.hid (drB_1 (G := G) (D := D) (by rw [hFL, hi]))
       clear hFL hRG hRD
       go_wp2_with (first | (go_at_call 98; refine (l01In_any _ _ _ _).mono ?_; rintro e wS ⟨rfl, rfl⟩; rw [show decide ((1 : Int) ≤ deg m ∧ deg m ≤ 4) = true by simp; omega]) | (refine wpList_load_mid_g rfl 24 (.tmp 30) rfl _ 1 rfl (bl 64 m) _ (B0.drm) Try.underlying24 rfl (by rw [zl]; exact Try.size24) ?_) | (go_at_call 125; refine (HI.out _).mono ?_; rintro e W22 ⟨rfl, hW22⟩; replace B0 := B0.zw hW22; replace hb := (hb).trans (hW22.mono (hb).size); rw [hi]))
       go_ret
       exact ⟨by rw [HV.out]; rfl, hb⟩
      | true =>
       by_cases hg : deg G < deg m
       · by_cases hd : deg D < deg m
         · cases hz : eqN 64 D (fun _ => 0) with
           | true =>
            have HV := Lib.hid (drB_4 (p := (n : Int)) (m := m) (G := G) hz)
            have hgd := Try.noGuard24
            have heq := fun W => zeb (P := Try.prog) W 9998 24 5 64 D (fun _ => 0) Try.underlying24 Try.underlying5 Try.size5
            rw [hz] at heq
            clear hFL hRG hRD
            go_wp2_with (first | rw [← z64] | (go_at_call 98; refine (l01In_any _ _ _ _).mono ?_; rintro e wS ⟨rfl, rfl⟩; rw [show decide ((1 : Int) ≤ deg m ∧ deg m ≤ 4) = true by simp; omega]) | (refine wpList_load_mid_g rfl 24 (.tmp 30) rfl _ 1 rfl (bl 64 m) _ (B0.drm) Try.underlying24 rfl (by rw [zl]; exact Try.size24) ?_) | (go_at_call 125; refine (HI.out _).mono ?_; rintro e W22 ⟨rfl, hW22⟩; replace B0 := B0.zw hW22; replace hb := (hb).trans (hW22.mono (hb).size); rw [hi]) | (refine wpList_load_mid_g rfl 24 (.tmp 35) rfl _ 65 rfl (bl 64 G) _ (B0.drg) Try.underlying24 rfl (by rw [zl]; exact Try.size24) ?_) | (go_at_call 124; with_reducible refine (l01Deg_any G _).mono ?_; rintro e W23 ⟨rfl, hW23⟩; replace B0 := B0.zw hW23; replace hb := (hb).trans (hW23.mono (hb).size)) | (refine wpList_load_mid_g rfl 24 (.tmp 42) rfl _ 129 rfl (bl 64 D) _ (B0.drd) Try.underlying24 rfl (by rw [zl]; exact Try.size24) ?_) | (go_at_call 124; with_reducible refine (l01Deg_any D _).mono ?_; rintro e W24 ⟨rfl, hW24⟩; replace B0 := B0.zw hW24; replace hb := (hb).trans (hW24.mono (hb).size)) | (refine wpList_load_mid_g rfl 24 (.tmp 49) rfl _ 129 rfl (bl 64 D) _ (B0.drd) Try.underlying24 rfl (by rw [zl]; exact Try.size24) ?_))
            go_ret
            exact ⟨by rw [HV.out]; rfl, hb⟩
           | false =>
            have HV := Lib.hid (drB_5 (by rw [hFL, hi]) (by rw [hRG]; exact decide_eq_true hg) (by rw [hRD]; exact decide_eq_true hd) hz)
            have hgd := Try.noGuard24
            have heq := fun W => zeb (P := Try.prog) W 9998 24 5 64 D (fun _ => 0) Try.underlying24 Try.underlying5 Try.size5
            rw [hz] at heq
            clear hFL hRG hRD
            go_wp2_with (first | rw [← z64] | (go_at_call 98; refine (l01In_any _ _ _ _).mono ?_; rintro e wS ⟨rfl, rfl⟩; rw [show decide ((1 : Int) ≤ deg m ∧ deg m ≤ 4) = true by simp; omega]) | (refine wpList_load_mid_g rfl 24 (.tmp 30) rfl _ 1 rfl (bl 64 m) _ (B0.drm) Try.underlying24 rfl (by rw [zl]; exact Try.size24) ?_) | (go_at_call 125; refine (HI.out _).mono ?_; rintro e W22 ⟨rfl, hW22⟩; replace B0 := B0.zw hW22; replace hb := (hb).trans (hW22.mono (hb).size); rw [hi]) | (refine wpList_load_mid_g rfl 24 (.tmp 35) rfl _ 65 rfl (bl 64 G) _ (B0.drg) Try.underlying24 rfl (by rw [zl]; exact Try.size24) ?_) | (go_at_call 124; with_reducible refine (l01Deg_any G _).mono ?_; rintro e W23 ⟨rfl, hW23⟩; replace B0 := B0.zw hW23; replace hb := (hb).trans (hW23.mono (hb).size)) | (refine wpList_load_mid_g rfl 24 (.tmp 42) rfl _ 129 rfl (bl 64 D) _ (B0.drd) Try.underlying24 rfl (by rw [zl]; exact Try.size24) ?_) | (go_at_call 124; with_reducible refine (l01Deg_any D _).mono ?_; rintro e W24 ⟨rfl, hW24⟩; replace B0 := B0.zw hW24; replace hb := (hb).trans (hW24.mono (hb).size)) | (refine wpList_load_mid_g rfl 24 (.tmp 49) rfl _ 129 rfl (bl 64 D) _ (B0.drd) Try.underlying24 rfl (by rw [zl]; exact Try.size24) ?_))
            go_ret
            exact ⟨by rw [HV.out]; rfl, hb⟩
         skip
         have HV := Lib.hid (drB_3 (p := (n : Int)) (G := G) (by rw [hRD]; exact decide_eq_false hd))
         clear hFL hRG hRD
         go_wp2_with (first | (go_at_call 98; refine (l01In_any _ _ _ _).mono ?_; rintro e wS ⟨rfl, rfl⟩; rw [show decide ((1 : Int) ≤ deg m ∧ deg m ≤ 4) = true by simp; omega]) | (refine wpList_load_mid_g rfl 24 (.tmp 30) rfl _ 1 rfl (bl 64 m) _ (B0.drm) Try.underlying24 rfl (by rw [zl]; exact Try.size24) ?_) | (go_at_call 125; refine (HI.out _).mono ?_; rintro e W22 ⟨rfl, hW22⟩; replace B0 := B0.zw hW22; replace hb := (hb).trans (hW22.mono (hb).size); rw [hi]) | (refine wpList_load_mid_g rfl 24 (.tmp 35) rfl _ 65 rfl (bl 64 G) _ (B0.drg) Try.underlying24 rfl (by rw [zl]; exact Try.size24) ?_) | (go_at_call 124; with_reducible refine (l01Deg_any G _).mono ?_; rintro e W23 ⟨rfl, hW23⟩; replace B0 := B0.zw hW23; replace hb := (hb).trans (hW23.mono (hb).size)) | (refine wpList_load_mid_g rfl 24 (.tmp 42) rfl _ 129 rfl (bl 64 D) _ (B0.drd) Try.underlying24 rfl (by rw [zl]; exact Try.size24) ?_) | (go_at_call 124; with_reducible refine (l01Deg_any D _).mono ?_; rintro e W24 ⟨rfl, hW24⟩; replace B0 := B0.zw hW24; replace hb := (hb).trans (hW24.mono (hb).size)))
         go_ret
         exact ⟨by rw [HV.out]; rfl, hb⟩
       skip
       have HV := Lib.hid (drB_2 (p := (n : Int)) (D := D) (by rw [hRG]; exact decide_eq_false hg))
       clear hFL hRG hRD
       go_wp2_with (first | (go_at_call 98; refine (l01In_any _ _ _ _).mono ?_; rintro e wS ⟨rfl, rfl⟩; rw [show decide ((1 : Int) ≤ deg m ∧ deg m ≤ 4) = true by simp; omega]) | (refine wpList_load_mid_g rfl 24 (.tmp 30) rfl _ 1 rfl (bl 64 m) _ (B0.drm) Try.underlying24 rfl (by rw [zl]; exact Try.size24) ?_) | (go_at_call 125; refine (HI.out _).mono ?_; rintro e W22 ⟨rfl, hW22⟩; replace B0 := B0.zw hW22; replace hb := (hb).trans (hW22.mono (hb).size); rw [hi]) | (refine wpList_load_mid_g rfl 24 (.tmp 35) rfl _ 65 rfl (bl 64 G) _ (B0.drg) Try.underlying24 rfl (by rw [zl]; exact Try.size24) ?_) | (go_at_call 124; with_reducible refine (l01Deg_any G _).mono ?_; rintro e W23 ⟨rfl, hW23⟩; replace B0 := B0.zw hW23; replace hb := (hb).trans (hW23.mono (hb).size)))
       go_ret
       exact ⟨by rw [HV.out]; rfl, hb⟩
    have HV := Lib.hid (drB_1 (G := G) (D := D) (flV_2 (p := (n : Int)) (by rw [hmB, hmo]; simp; omega)))
    clear hmB hRG hRD
    go_wp2_with (first | (go_at_call 98; refine (l01In_any _ _ _ _).mono ?_; rintro e wS ⟨rfl, rfl⟩; rw [show decide ((1 : Int) ≤ deg m ∧ deg m ≤ 4) = false by simp; omega]))
    go_ret
    exact ⟨by rw [HV.out]; rfl, hb⟩
 have HV := Lib.hid (drB_code hc)
 go_upto_region 3 with (first | (refine wpList_load_mid rfl 24 (.tmp 8) rfl _ 1 rfl (bl 64 m) _ (B0.drm) Try.underlying24 rfl (by rw [zl]; exact Try.size24) ?_) | (refine wpList_load_mid rfl 24 (.tmp 10) rfl _ 65 rfl (bl 64 G) _ (B0.drg) Try.underlying24 rfl (by rw [zl]; exact Try.size24) ?_) | (refine wpList_load_mid rfl 24 (.tmp 12) rfl _ 129 rfl (bl 64 D) _ (B0.drd) Try.underlying24 rfl (by rw [zl]; exact Try.size24) ?_) | (refine wpList_build_polys rfl 40 _ [m, G, D] rfl 24 rfl Try.underlying40 Try.elem24 (by simp) (by simp) rfl ?_; intro wa hwa hps hba; clear hwa; replace B0 := B0.zw hba; replace hb := hb.trans (hba.mono hb.size)) | (go_at_call 122; refine (l01Code_any p [m, G, D] (by simp [hm, hG, hD]) _ _ hps (by simp)).mono ?_; rintro e W8 ⟨rfl, hbb⟩; replace B0 := B0.zw hbb; replace hb := hb.trans (hbb.mono hb.size); rw [hc]))
 go_wp2_with fail
 go_ret
 exact ⟨by rw [HV.out]; rfl, hb⟩
end Go.Proofs.Yteloknnooebabaa
namespace Go.Proofs.Yteloknnooebabaa
open Go Go.RowKit
attribute [local irreducible] deg irB monUp monB okA drB frN mmP
theorem flV_fld {p : Int} {m : Nat → Nat} (h1 : flV p m = true) : ∃ n : Nat, p = (n : Int) ∧ (n = 2 ∨ n = 3 ∨ n = 5 ∨ n = 7) ∧ (∀ k, k < 64 → m k < n) ∧ ∃ d, mon m d ∧ 1 ≤ d ∧ d ≤ 4 := by
 have ho : okA p m = true := by
  cases ho : okA p m with
  | true => rfl
  | false => rw [flV_1 ho] at h1; cases h1
 have hm : monUp 4 m = true := by
  cases hm : monUp 4 m with
  | true => rfl
  | false => rw [flV_2 hm] at h1; cases h1
 obtain ⟨n, hn, hpr, hl⟩ := okA_nat ho
 obtain ⟨d, a1, a2, a3⟩ := mon_up hm
 exact ⟨n, hn, hpr, hl, d, a1, a2, by omega⟩
noncomputable def drCo (p : Int) (m G D : Nat → Nat) (fs : List (Nat → Nat)) : Int := if drB p m G D = true then codeL p fs else 1
theorem drCo_t {p : Int} {m G D : Nat → Nat} {fs : List (Nat → Nat)} (h : drB p m G D = true) : drCo p m G D fs = codeL p fs := if_pos h
theorem drCo_f {p : Int} {m G D : Nat → Nat} {fs : List (Nat → Nat)} (h : drB p m G D = false) : drCo p m G D fs = 1 := if_neg (by rw [h]; simp)
attribute [irreducible] drCo
theorem l06Times_any (p : Nat) (m G D f g : Nat → Nat) (w : World) (hpr : p = 2 ∨ p = 3 ∨ p = 5 ∨ p = 7) (lm : ∀ k, k < 64 → m k < p) (h0 : 0 ≤ deg m) (lf : ∀ k, k < 64 → f k < p) (lg : ∀ k, k < 64 → g k < p) :
 Calls Try.prog 154 #[(.agg (drC (p : Int) m G D).toArray), .agg (zb 64 f), .agg (zb 64 g)] w fun e w' => e = .returned (.agg (zb 64 (mmP p f g m))) ∧ Below w.heap.size w w' := by
 have HMM := Lib.hid (fun W => l01MulMod_any p f g m W hpr lf lg lm h0)
 go_enter Try.func154, Try.ntmps154
 go_upto_region 1 with (fail)
 rw [← z64]
 obtain ⟨W1, hwo⟩ : ∃ v : World, v = ((((w.alloc (.cells (drC (p : Int) m G D).toArray 58)).alloc (.cells (zb 64 (f)) 24)).alloc (.cells (zb 64 (g)) 24)).alloc (.cells (zb 64 (fun _ => 0)) 24)) := ⟨_, rfl⟩
 have B0 : Row W1 (w.heap.size) 58 (drC (p : Int) m G D).toArray := by subst hwo; have := ((((Row.new w 58 (drC (p : Int) m G D).toArray).alloc (.cells (zb 64 (f)) 24)).alloc (.cells (zb 64 (g)) 24)).alloc (.cells (zb 64 (fun _ => 0)) 24)); simpa using this
 have B1 : Blk W1 (w.heap.size + 1) 64 24 (f) := by subst hwo; have := (((Blk.new (w.alloc (.cells (drC (p : Int) m G D).toArray 58)) 64 24 (f)).alloc (.cells (zb 64 (g)) 24)).alloc (.cells (zb 64 (fun _ => 0)) 24)); simpa using this
 have B2 : Blk W1 (w.heap.size + 1 + 1) 64 24 (g) := by subst hwo; have := ((Blk.new ((w.alloc (.cells (drC (p : Int) m G D).toArray 58)).alloc (.cells (zb 64 (f)) 24)) 64 24 (g)).alloc (.cells (zb 64 (fun _ => 0)) 24)); simpa using this
 have B3 : Blk W1 (w.heap.size + 1 + 1 + 1) 64 24 (fun _ => 0) := by subst hwo; have := (Blk.new (((w.alloc (.cells (drC (p : Int) m G D).toArray 58)).alloc (.cells (zb 64 (f)) 24)).alloc (.cells (zb 64 (g)) 24)) 64 24 (fun _ => 0)); simpa using this
 have hb : Below w.heap.size w W1 := by subst hwo; exact (((((Below.refl _ _).alloc (Nat.le_refl _) _).alloc (by simp) _).alloc (by simp; omega) _).alloc (by simp; omega) _)
 rw [← hwo]
 clear hwo
 go_wp2_with (first | rw [← z64] | (refine wpList_load_rowc rfl 2 (.tmp 7) rfl _ 0 rfl 58 _ (B0) (.int .i64 (p : Int)) (drC_at _ _ _ _) _ Try.underlying2 rfl ?_) | (refine zla (.tmp 4) B1 Try.underlying24 Try.size24 ?_) | (refine zla (.tmp 5) B2 Try.underlying24 Try.size24 ?_) | (refine wpList_load_mid rfl 24 (.tmp 11) rfl _ 1 rfl (bl 64 m) _ (B0.drm) Try.underlying24 rfl (by rw [zl]; exact Try.size24) ?_) | (go_at_call 188; refine (HMM.out _).mono ?_; rintro e W2 ⟨rfl, hW2⟩; replace B0 := B0.zw hW2; replace B1 := B1.zw hW2; replace B2 := B2.zw hW2; replace B3 := B3.zw hW2; replace hb := (hb).trans (hW2.mono (hb).size)) | (refine zsr (.tmp 6) (.tmp 13) (mmP p f g m) B3 Try.size24 ?_; try simp only [Act.put]))
 obtain ⟨W3, hwo, hzQ⟩ : ∃ v : World, v = (W2.setRow (w.heap.size + 1 + 1 + 1) (zb 64 (mmP p f g m))) ∧ Row v (w.heap.size) 58 (drC (p : Int) m G D).toArray ∧ Blk v (w.heap.size + 1) 64 24 (f) ∧ Blk v (w.heap.size + 1 + 1) 64 24 (g) ∧ Blk v (w.heap.size + 1 + 1 + 1) 64 24 (mmP p f g m) ∧ Below w.heap.size w v := ⟨_, rfl, (B0.rowOther (by omega)), (B1.rowOther (by omega)), (B2.rowOther (by omega)), (B3.row (mmP p f g m)), (zr hb (by omega) _)⟩
 rw [← hwo]
 clear hwo B0 B1 B2 B3 hb
 obtain ⟨B0, B1, B2, B3, hb⟩ := hzQ
 try simp only [Act.put, pA, pB, pC]
 refine bodyPost_ret (zrb rfl _ _ _ 64 24 5 _ rfl B3 Try.underlying24 Try.size24) rfl ⟨rfl, hb⟩
end Go.Proofs.Yteloknnooebabaa
namespace Go.Proofs.Yteloknnooebabaa
open Rg
section
variable {p : Nat} {m : Nat → Nat} {d : Nat} (hp : p = 2 ∨ p = 3 ∨ p = 5 ∨ p = 7) (lm : ∀ k, k < 64 → m k < p) (hmon : mon m d) (hi : irr p (cut m) d) (h9 : d ≤ 9)
include hp lm hmon hi h9
theorem invt_eq {G D : Nat → Nat} (hG : rsd p m G) : ∀ k, k < 64 → mmP p (mmP p G (frN p m G (1 % d)) m) (bzU p D m) m k = mmP p (pmP p G (p + 1) m) (bzU p D m) m k := by
 have h0 : 0 ≤ deg m := by rw [hmon.1]; omega
 refine rsd_eq hp lm h0 (mm_rsd hp lm h0) (mm_rsd hp lm h0) ?_
 rw [rs_mm hp lm h0, rs_mm hp lm h0, rs_mm hp lm h0, rs_pm hp hG.1 lm h0 (by omega), fr_once hp lm hmon hi h9 hG]
 rfl
end
end Go.Proofs.Yteloknnooebabaa
namespace Go.Proofs.Yteloknnooebabaa
open Go Go.RowKit
attribute [local irreducible] deg irB monUp monB okA drB frN mmP pmP bzU
theorem drB_irr {n d : Nat} {m G D : Nat → Nat} (h : drB (n : Int) m G D = true) (hmon : mon m d) : irr n (cut m) d := by
 have h1 := (drB_all h).1
 have ho : okA (n : Int) m = true := by
  cases ho : okA (n : Int) m with
  | true => rfl
  | false => rw [flV_1 ho] at h1; cases h1
 have hm : monUp 4 m = true := by
  cases hm : monUp 4 m with
  | true => rfl
  | false => rw [flV_2 hm] at h1; cases h1
 rw [flV_3 ho hm] at h1
 obtain ⟨d2, hi⟩ := irB_iff.1 h1
 have e1 := hi.2.1.1
 have e2 := (mon_cut hmon).1
 have : d2 = d := by omega
 subst this; exact hi
theorem bzD_res {n d : Nat} {m y : Nat → Nat} (hp : n = 2 ∨ n = 3 ∨ n = 5 ∨ n = 7) (lm : ∀ k, k < 64 → m k < n) (hmon : mon m d) (hi : irr n (cut m) d) (hy : rsd n m y) (hy0 : 0 ≤ deg y) : eqN 64 (bzD n y m) oneP = true := by
 have hdm := hmon.1
 obtain ⟨a1, ⟨j, hj⟩, a3, a4⟩ := bz_all hp hy.1 lm (.inl hy0)
 obtain ⟨b1, b2⟩ := (a4 _).1 (dv_self (lz (bzD n y m)))
 have e1 : lz (cut m) = lz m := by funext k; unfold lz; rw [cut_cut]
 have hj0 : j = 0 := by
  rcases hi.2.2.2 _ j a1 hj (by rw [e1]; exact b2) with h | h
  · exact h
  have h2 := dv_deg hy.1 hj b1 hy0
  have h3 := hy.2
  omega
 subst hj0
 refine eqN_iff.2 fun k hk => ?_
 unfold oneP
 by_cases h : k = 0
 · subst h; rw [if_pos rfl]; exact hj.2
 rw [if_neg h]
 have := hj.1
 rcases deg_spec (bzD n y m) with ⟨h1, _⟩ | ⟨d2, _, h1, _, h5⟩
 · omega
 exact h5 k (by omega) hk
theorem deg_nz {D : Nat → Nat} (h : eqN 64 D (fun _ => 0) = false) : 0 ≤ deg D := by
 rw [eqN_zero] at h
 simp only [decide_eq_false_iff_not] at h
 omega
theorem checkPolys_nil (p : Int) (w : World) (hp : okP p = true) : Calls Try.prog 131 #[.int .i64 p, .slice none 0 0] w fun e w' => e = .returned (.int .i64 0) ∧ w = w' := by
 go_enter Try.func131, Try.ntmps131
 go_wp2_with (go_at_call 210; refine (isPrime_any _ _).mono ?_; rintro e w' ⟨rfl, rfl⟩)
 go_loopw [12] (fun i wr => i = .int .i64 0 ∧ wr = w) (fun _ _ => 0)
 case atStart => exact ⟨rfl, rfl⟩
 case round =>
  obtain ⟨rfl, rfl⟩ := hrel
  go_wp2_with fail
  go_ret
  exact ⟨rfl, rfl⟩
noncomputable def ivV (p : Int) (m G D : Nat → Nat) : (Nat → Nat) × Int :=
 if drB p m G D = true then (mmP p.toNat (pmP p.toNat G (p.toNat + 1) m) (bzU p.toNat D m) m, 0) else (fun _ => 0, 1)
theorem ivV_1 {p : Int} {m G D : Nat → Nat} (h : drB p m G D = false) : ivV p m G D = (fun _ => 0, 1) := if_neg (by rw [h]; simp)
theorem ivV_0 {n : Nat} {m G D : Nat → Nat} (h : drB (n : Int) m G D = true) : ivV (n : Int) m G D = (mmP n (pmP n G (n + 1) m) (bzU n D m) m, 0) := if_pos h
attribute [irreducible] ivV
theorem checkDrinfeld_nil (p : Int) (m G D : Nat → Nat) (hm : byte m) (hG : byte G) (hD : byte D) (w : World) :
 Calls Try.prog 149 #[(.agg (drC p m G D).toArray), .slice none 0 0] w fun e w' => e = .returned (.int .i64 (drCo p m G D [])) ∧ Below w.heap.size w w' := by
 have HIS := Lib.hid (fun W => impl_IsDrinfeld_any p m G D hm hG hD W)
 have hpp : drB p m G D = true → okP p = true := fun h => by
  obtain ⟨n, rfl, hpr, _⟩ := flV_fld (drB_all h).1
  rcases hpr with rfl | rfl | rfl | rfl <;> rfl
 go_enter Try.func149, Try.ntmps149
 go_upto_region 1 with (fail)
 obtain ⟨W1, hwo⟩ : ∃ v : World, v = (w.alloc (.cells (drC p m G D).toArray 58)) := ⟨_, rfl⟩
 have B0 : Row W1 (w.heap.size) 58 (drC p m G D).toArray := by subst hwo; have := (Row.new w 58 (drC p m G D).toArray); simpa using this
 have hb : Below w.heap.size w W1 := by subst hwo; exact ((Below.refl _ _).alloc (Nat.le_refl _) _)
 rw [← hwo]
 clear hwo
 cases hr : drB p m G D with
 | false =>
  have HV := Lib.hid (drCo_f (fs := []) hr)
  go_upto_region 2 with (first | (refine zlr rfl 58 (.tmp 2) rfl _ rfl 58 (drC p m G D).toArray (B0) _ Try.underlying58 rfl 193 Try.size58 (by simp [drC_len]) ?_) | (go_at_call 60; refine (HIS.out _).mono ?_; rintro e W2 ⟨rfl, hW2⟩; replace B0 := B0.zw hW2; replace hb := (hb).trans (hW2.mono (hb).size); rw [hr]))
  go_wp2_with fail
  go_ret
  exact ⟨by rw [HV.out]; rfl, hb⟩
 | true =>
  have HCP := Lib.hid (fun W => checkPolys_nil p W (hpp hr))
  have HV := Lib.hid (show drCo p m G D [] = 0 by rw [drCo_t hr, codeL_nil (hpp hr)])
  clear hpp
  go_upto_region 3 with (first | (refine zlr rfl 58 (.tmp 2) rfl _ rfl 58 (drC p m G D).toArray (B0) _ Try.underlying58 rfl 193 Try.size58 (by simp [drC_len]) ?_) | (go_at_call 60; refine (HIS.out _).mono ?_; rintro e W2 ⟨rfl, hW2⟩; replace B0 := B0.zw hW2; replace hb := (hb).trans (hW2.mono (hb).size); rw [hr]))
  go_wp2_with (first | (refine wpList_load_rowc rfl 2 (.tmp 8) rfl _ 0 rfl 58 _ (B0) (.int .i64 p) (drC_at _ _ _ _) _ Try.underlying2 rfl ?_) | (go_at_call 131; refine (HCP.out _).mono ?_; rintro e wS ⟨rfl, rfl⟩))
  go_ret
  exact ⟨by rw [HV.out]; rfl, hb⟩
theorem impl_InvariantOf_any (p : Int) (m G D : Nat → Nat) (hm : byte m) (hG : byte G) (hD : byte D) (w : World) :
 Calls Try.prog 66 #[(.agg (drC p m G D).toArray)] w fun e w' => e = .returned (.tuple #[.agg (zb 64 (ivV p m G D).1), .int .i64 (ivV p m G D).2]) ∧ Below w.heap.size w w' := by
 have HCK := Lib.hid (fun W => checkDrinfeld_nil p m G D hm hG hD W)
 go_enter Try.func66, Try.ntmps66
 go_upto_region 1 with (fail)
 rw [← z64]
 obtain ⟨W1, hwo⟩ : ∃ v : World, v = ((w.alloc (.cells (drC p m G D).toArray 58)).alloc (.cells (zb 64 (fun _ => 0)) 24)) := ⟨_, rfl⟩
 have B0 : Row W1 (w.heap.size) 58 (drC p m G D).toArray := by subst hwo; have := ((Row.new w 58 (drC p m G D).toArray).alloc (.cells (zb 64 (fun _ => 0)) 24)); simpa using this
 have B1 : Blk W1 (w.heap.size + 1) 64 24 (fun _ => 0) := by subst hwo; have := (Blk.new (w.alloc (.cells (drC p m G D).toArray 58)) 64 24 (fun _ => 0)); simpa using this
 have hb : Below w.heap.size w W1 := by subst hwo; exact (((Below.refl _ _).alloc (Nat.le_refl _) _).alloc (by simp) _)
 rw [← hwo]
 clear hwo
 cases hr : drB p m G D with
 | false =>
  have HV := Lib.hid (ivV_1 hr)
  go_upto_region 3 with (first | (refine zlr rfl 58 (.tmp 1) rfl _ rfl 58 (drC p m G D).toArray (B0) _ Try.underlying58 rfl 193 Try.size58 (by simp [drC_len]) ?_) | (go_at_call 149; refine (HCK.out _).mono ?_; rintro e W2 ⟨rfl, hW2⟩; replace B0 := B0.zw hW2; replace B1 := B1.zw hW2; replace hb := (hb).trans (hW2.mono (hb).size); rw [drCo_f hr]))
  have lt_B0 := B0.lt
  have lt_B1 := B1.lt
  go_wp2_with (first | rw [← z64] | rw [← z64] | (refine zsr (.tmp 2) (.tmp 10) (fun _ => 0) B1 Try.size24 ?_; try simp only [Act.put]; go_wp2_with fail))
  obtain ⟨W3, hwo, hzQ⟩ : ∃ v : World, v = (W2.setRow (w.heap.size + 1) (zb 64 (fun _ => 0))) ∧ Row v (w.heap.size) 58 (drC p m G D).toArray ∧ Blk v (w.heap.size + 1) 64 24 (fun _ => 0) ∧ Below w.heap.size w v := ⟨_, rfl, (B0.rowOther (by omega)), (B1.row (fun _ => 0)), (zr hb (by omega) _)⟩
  rw [← hwo]
  clear hwo B0 B1 hb
  obtain ⟨B0, B1, hb⟩ := hzQ
  try simp only [Act.put, pA, pB, pC]
  refine bodyPost_ret (results_bt rfl _ _ _ 64 24 5 _ rfl B1 Try.underlying24 Try.size24) rfl ⟨by first | (rw [HV.out]; rfl) | rw [HV.out], hb⟩
 | true =>
  obtain ⟨hfl, hrg, hrd, hdz⟩ := drB_all hr
  obtain ⟨n, rfl, hpr, lm, d, hmon, hd1, hd4⟩ := flV_fld hfl
  have hd := hmon.1
  have h0 : 0 ≤ deg m := by omega
  have h9 : deg m ≤ 9 := by omega
  have hi := drB_irr hr hmon
  have hGr := rsB_rsd hrg
  have hDr := rsB_rsd hrd
  have hD0 := deg_nz hdz
  have HV := Lib.hid (ivV_0 hr)
  have hck : drCo (n : Int) m G D [] = 0 := by rw [drCo_t hr]; exact codeL_nil (by rcases hpr with rfl | rfl | rfl | rfl <;> rfl)
  have HFD := Lib.hid (fun W => drField_any (n : Int) m G D W)
  have HFR := Lib.hid (fun W => kfrob_any n m G 1 W hpr lm d hd hd1 (by omega) (by omega) hGr)
  have HMM := Lib.hid (fun W => kproduct_any n m G (frN n m G (1 % d)) W hpr lm h0 hGr.1 (frN_ok hpr lm h0 h9 hGr (1 % d)).1.1)
  have HQ := Lib.hid (show ∀ W, Calls Try.prog 156 #[.agg (fdC (n : Int) m).toArray, .agg (zb 64 (mmP n G (frN n m G (1 % d)) m)), .agg (zb 64 D)] W fun e w' => e = .returned (.agg (zb 64 (mmP n (pmP n G (n + 1) m) (bzU n D m) m))) ∧ Below W.heap.size W w' from fun W => by
   have h := quotient_any n m (mmP n G (frN n m G (1 % d)) m) D W hpr lm h0 (fun k hk => mmP_lt (by omega) k (by omega)) hDr.1
   rwa [zbc (invt_eq hpr lm hmon hi (by omega) hGr)] at h)
  clear hfl hrg hrd hdz hi hGr hDr hD0 hmon hd h0 h9
  go_upto_region 4 with (first | (refine zlr rfl 58 (.tmp 1) rfl _ rfl 58 (drC (n : Int) m G D).toArray (B0) _ Try.underlying58 rfl 193 Try.size58 (by simp [drC_len]) ?_) | (go_at_call 149; refine (HCK.out _).mono ?_; rintro e W2 ⟨rfl, hW2⟩; replace B0 := B0.zw hW2; replace B1 := B1.zw hW2; replace hb := (hb).trans (hW2.mono (hb).size); rw [hck]))
  have lt_B0 := B0.lt
  have lt_B1 := B1.lt
  go_upto_region 5 with (first | rw [← z64] | rw [← fdC_zero] | (refine zlr rfl 58 (.tmp 1) rfl _ rfl 58 (drC (n : Int) m G D).toArray (B0) _ Try.underlying58 rfl 193 Try.size58 (by simp [drC_len]) ?_) | (go_at_call 146; refine (HFD.out _).mono ?_; rintro e W3 ⟨rfl, hW3⟩; replace B0 := B0.zw hW3; replace B1 := B1.zw hW3; replace hb := (hb).trans (hW3.mono (hb).size)) | (refine wpList_store_rowv rfl 96 (.tmp 5) (.tmp 13) rfl _ rfl (fdC (n : Int) m).toArray rfl 96 _ ((Row.new W3 96 (fdC 0 (fun _ => 0)).toArray)) 65 Try.size96 (by simp [fdC_len]) (by simp [fdC_len]) (fdC_all _ _) ?_; try simp only [Act.put]))
  have lt_B0 := B0.lt
  have lt_B1 := B1.lt
  have lhb := hb.size
  obtain ⟨W4, hwo, hzQ⟩ : ∃ v : World, v = ((W3.alloc (.cells (fdC 0 (fun _ => 0)).toArray 96)).setRow (W3.heap.size) (fdC (n : Int) m).toArray) ∧ Row v (w.heap.size) 58 (drC (n : Int) m G D).toArray ∧ Blk v (w.heap.size + 1) 64 24 (fun _ => 0) ∧ Row v (W3.heap.size) 96 (fdC (n : Int) m).toArray ∧ Below w.heap.size w v := ⟨_, rfl, ((B0.alloc (.cells (fdC 0 (fun _ => 0)).toArray 96)).rowOther (by omega)), ((B1.alloc (.cells (fdC 0 (fun _ => 0)).toArray 96)).rowOther (by omega)), ((Row.new W3 96 (fdC 0 (fun _ => 0)).toArray).row (fdC (n : Int) m).toArray), (zr (hb.alloc (by have := hb.size; simp; omega) (.cells (fdC 0 (fun _ => 0)).toArray 96)) (by omega) _)⟩
  rw [← hwo]
  clear hwo B0 B1 hb
  obtain ⟨B0, B1, B2, hb⟩ := hzQ
  obtain ⟨N1, hNN⟩ : ∃ n : Nat, n = W3.heap.size := ⟨_, rfl⟩
  rw [← hNN] at lt_B0 lt_B1 lhb B2 ⊢
  clear hNN
  have zN1_0 := lt_B0
  have zN1_1 := lt_B1
  have zN1 := lhb
  clear lt_B0 lt_B1 lhb
  try simp only [Act.put, pA, pB, pC]
  have lt_B0 : (w.heap.size) < W4.heap.size := B0.lt
  have lt_B1 : (w.heap.size + 1) < W4.heap.size := B1.lt
  have lt_B2 : (N1) < W4.heap.size := B2.lt
  have hbase : w.heap.size ≤ W4.heap.size := hb.size
  refine zq Try.mixed (by kernel_rfl) (by kernel_rfl) (fun v => by (simp only [frL, Act.put, pA, pB, pC, Nat.reduceAdd, Nat.zero_add]; exact rfl))
   (fun L v W5 => Below w.heap.size w W5 ∧ Kx [w.heap.size + 1] W4 W5 ∧ (∃ g, Blk W5 (w.heap.size + 1) 64 24 (g)) ∧ (L 12 = false → Blk W5 (w.heap.size + 1) 64 24 (fun _ => 0)) ∧ (L 12 = true → Blk W5 (w.heap.size + 1) 64 24 (mmP n (pmP n G (n + 1) m) (bzU n D m) m)) ∧ VF L v [some (.agg (fdC (n : Int) m).toArray), some (.agg (fdC (n : Int) m).toArray), some (.pointer (some ⟨w.heap.size, 65, none⟩)), some (.agg (zb 64 (G))), some (.agg (fdC (n : Int) m).toArray), some (.pointer (some ⟨w.heap.size, 65, none⟩)), some (.agg (zb 64 (G))), some (.agg (zb 64 (frN n m G (1 % d)))), some (.agg (zb 64 (mmP n G (frN n m G (1 % d)) m))), some (.pointer (some ⟨w.heap.size, 129, none⟩)), some (.agg (zb 64 (D))), some (.agg (zb 64 (mmP n (pmP n G (n + 1) m) (bzU n D m) m))), none, some (.int .i64 0)]) ?_ ?_ ?_
  · intro v hv0
    exact ⟨hb.drew, Kx.start _ _, ⟨_, B1.drew⟩, (fun _ => B1.drew), (fun h => by cases h), VF.start⟩
  · refine (.cons rfl ?_ (.cons rfl ?_ (.cons rfl ?_ (.cons rfl ?_ (.cons rfl ?_ (.cons rfl ?_ (.cons rfl ?_ (.cons rfl ?_ (.cons rfl ?_ (.cons rfl ?_ (.cons rfl ?_ (.cons rfl ?_ (.cons rfl ?_ (.cons rfl ?_ (.nil _)))))))))))))))
    all_goals intro L v W5 hd hn ⟨hB, hX, x1, q1, n1, V⟩ K hK
    · refine wp_load_rowv 96 _ rfl _ rfl 96 _ (B2.kx hX (by simp <;> omega)) _ Try.underlying96 rfl 65 Try.size96 (by simp [fdC_len]) ?_
      exact hK _ _ _ rfl ⟨hB, hX, x1, q1, n1, V.step 0 rfl⟩
    · refine wp_load_rowv 96 _ rfl _ rfl 96 _ (B2.kx hX (by simp <;> omega)) _ Try.underlying96 rfl 65 Try.size96 (by simp [fdC_len]) ?_
      exact hK _ _ _ rfl ⟨hB, hX, x1, q1, n1, V.step 1 rfl⟩
    · go_wp2_with fail
      exact hK _ (.pointer (some ⟨w.heap.size, 65, none⟩)) _ (by simp only [Act.put, pA, pB, pC ]) ⟨hB, hX, x1, q1, n1, V.step 2 rfl⟩
    · have e2 := V.at (zdq hd 2 rfl) rfl
      refine wp_load_mid 24 _ rfl _ 65 e2 _ _ ((B0.kx hX (by simp <;> omega)).drg) Try.underlying24 rfl (by rw [zl]; exact Try.size24) ?_
      exact hK _ _ _ rfl ⟨hB, hX, x1, q1, n1, V.step 3 rfl⟩
    · refine wp_load_rowv 96 _ rfl _ rfl 96 _ (B2.kx hX (by simp <;> omega)) _ Try.underlying96 rfl 65 Try.size96 (by simp [fdC_len]) ?_
      exact hK _ _ _ rfl ⟨hB, hX, x1, q1, n1, V.step 4 rfl⟩
    · go_wp2_with fail
      exact hK _ (.pointer (some ⟨w.heap.size, 65, none⟩)) _ (by simp only [Act.put, pA, pB, pC ]) ⟨hB, hX, x1, q1, n1, V.step 5 rfl⟩
    · have e5 := V.at (zdq hd 5 rfl) rfl
      refine wp_load_mid 24 _ rfl _ 65 e5 _ _ ((B0.kx hX (by simp <;> omega)).drg) Try.underlying24 rfl (by rw [zl]; exact Try.size24) ?_
      exact hK _ _ _ rfl ⟨hB, hX, x1, q1, n1, V.step 6 rfl⟩
    · have e4 := V.at (zdq hd 4 rfl) rfl
      have e6 := V.at (zdq hd 6 rfl) rfl
      go_wp2_with (go_at_call 158; refine (HFR.out _).mono ?_; rintro e wy ⟨rfl, hy⟩)
      exact hK _ (.agg (zb 64 (frN n m G (1 % d)))) _ (by simp only [Act.put, pA, pB, pC, e4, e6]) ⟨hB.trans (hy.mono hB.size), hX.below hy, (let ⟨g, h⟩ := x1; ⟨g, h.zw hy⟩), (fun h => (q1 h).below hy (q1 h).lt), (fun h => (n1 h).below hy (n1 h).lt), V.step 7 rfl⟩
    · have e1 := V.at (zdq hd 1 rfl) rfl
      have e3 := V.at (zdq hd 3 rfl) rfl
      have e7 := V.at (zdq hd 7 rfl) rfl
      go_wp2_with (go_at_call 157; refine (HMM.out _).mono ?_; rintro e wy ⟨rfl, hy⟩)
      exact hK _ (.agg (zb 64 (mmP n G (frN n m G (1 % d)) m))) _ (by simp only [Act.put, pA, pB, pC, e1, e3, e7]) ⟨hB.trans (hy.mono hB.size), hX.below hy, (let ⟨g, h⟩ := x1; ⟨g, h.zw hy⟩), (fun h => (q1 h).below hy (q1 h).lt), (fun h => (n1 h).below hy (n1 h).lt), V.step 8 rfl⟩
    · go_wp2_with fail
      exact hK _ (.pointer (some ⟨w.heap.size, 129, none⟩)) _ (by simp only [Act.put, pA, pB, pC ]) ⟨hB, hX, x1, q1, n1, V.step 9 rfl⟩
    · have e9 := V.at (zdq hd 9 rfl) rfl
      refine wp_load_mid 24 _ rfl _ 129 e9 _ _ ((B0.kx hX (by simp <;> omega)).drd) Try.underlying24 rfl (by rw [zl]; exact Try.size24) ?_
      exact hK _ _ _ rfl ⟨hB, hX, x1, q1, n1, V.step 10 rfl⟩
    · have e0 := V.at (zdq hd 0 rfl) rfl
      have e8 := V.at (zdq hd 8 rfl) rfl
      have e10 := V.at (zdq hd 10 rfl) rfl
      go_wp2_with (go_at_call 156; refine (HQ.out _).mono ?_; rintro e wy ⟨rfl, hy⟩)
      exact hK _ (.agg (zb 64 (mmP n (pmP n G (n + 1) m) (bzU n D m) m))) _ (by simp only [Act.put, pA, pB, pC, e0, e8, e10]) ⟨hB.trans (hy.mono hB.size), hX.below hy, (let ⟨g, h⟩ := x1; ⟨g, h.zw hy⟩), (fun h => (q1 h).below hy (q1 h).lt), (fun h => (n1 h).below hy (n1 h).lt), V.step 11 rfl⟩
    · have e11 := V.at (zdq hd 11 rfl) rfl
      obtain ⟨gz, hk⟩ := x1
      refine zsb 24 _ _ rfl _ 64 (mmP n (pmP n G (n + 1) m) (bzU n D m) m) rfl e11 24 gz hk Try.size24 ?_
      exact hK _ undef _ rfl ⟨zr hB (by omega) _, hX.row (by simp) _, ⟨_, hk.row _⟩, (fun h => absurd h (by simp [setL])), (fun _ => hk.row _), V.skip 12 rfl⟩
    go_wp2_with fail
    exact hK _ (.int .i64 0) _ (by simp only [Act.put, pA, pB, pC ]) ⟨hB, hX, x1, q1, n1, V.step 13 rfl⟩
  intro L v W5 hL ⟨hB, hX, x1, q1, n1, V⟩
  have r1 := n1 (hL 12 (by decide))
  have e0 := V.at (hL 0 (by decide)) rfl
  have e1 := V.at (hL 1 (by decide)) rfl
  have e2 := V.at (hL 2 (by decide)) rfl
  have e3 := V.at (hL 3 (by decide)) rfl
  have e4 := V.at (hL 4 (by decide)) rfl
  have e5 := V.at (hL 5 (by decide)) rfl
  have e6 := V.at (hL 6 (by decide)) rfl
  have e7 := V.at (hL 7 (by decide)) rfl
  have e8 := V.at (hL 8 (by decide)) rfl
  have e9 := V.at (hL 9 (by decide)) rfl
  have e10 := V.at (hL 10 (by decide)) rfl
  have e11 := V.at (hL 11 (by decide)) rfl
  have e13 := V.at (hL 13 (by decide)) rfl
  clear hL x1 q1 n1 V
  replace B0 := B0.kx hX (by simp <;> omega)
  replace B2 := B2.kx hX (by simp <;> omega)
  clear hX
  simp only [Exit.then, e0, e1, e2, e3, e4, e5, e6, e7, e8, e9, e10, e11, e13]
  clear e0 e1 e2 e3 e4 e5 e6 e7 e8 e9 e10 e11 e13
  replace B1 := r1
  clear r1
  replace hb := hB
  clear hB
  clear hbase lt_B0 lt_B1 lt_B2
  go_wp2_with fail
  refine bodyPost_ret (results_bt rfl _ _ _ 64 24 5 _ rfl B1 Try.underlying24 Try.size24) rfl ⟨by first | (rw [HV.out]; rfl) | rw [HV.out], hb⟩
theorem spec_InvariantOf_any (p : Int) (m G D : Nat → Nat) (hm : byte m) (hG : byte G) (hD : byte D) (w : World) :
 Calls Try.prog 65 #[(.agg (drC p m G D).toArray)] w fun e w' => e = .returned (.tuple #[.agg (zb 64 (ivV p m G D).1), .int .i64 (ivV p m G D).2]) ∧ Below w.heap.size w w' := by
 have HIS := Lib.hid (fun W => l06Is_any p m G D hm hG hD W)
 go_enter Try.func65, Try.ntmps65
 go_upto_region 1 with (fail)
 rw [← z64]
 obtain ⟨W1, hwo⟩ : ∃ v : World, v = ((w.alloc (.cells (drC p m G D).toArray 58)).alloc (.cells (zb 64 (fun _ => 0)) 24)) := ⟨_, rfl⟩
 have B0 : Row W1 (w.heap.size) 58 (drC p m G D).toArray := by subst hwo; have := ((Row.new w 58 (drC p m G D).toArray).alloc (.cells (zb 64 (fun _ => 0)) 24)); simpa using this
 have B1 : Blk W1 (w.heap.size + 1) 64 24 (fun _ => 0) := by subst hwo; have := (Blk.new (w.alloc (.cells (drC p m G D).toArray 58)) 64 24 (fun _ => 0)); simpa using this
 have hb : Below w.heap.size w W1 := by subst hwo; exact (((Below.refl _ _).alloc (Nat.le_refl _) _).alloc (by simp) _)
 rw [← hwo]
 clear hwo
 cases hr : drB p m G D with
 | false =>
  have HV := Lib.hid (ivV_1 hr)
  go_upto_region 2 with (first | (refine zlr rfl 58 (.tmp 1) rfl _ rfl 58 (drC p m G D).toArray (B0) _ Try.underlying58 rfl 193 Try.size58 (by simp [drC_len]) ?_) | (go_at_call 145; refine (HIS.out _).mono ?_; rintro e W2 ⟨rfl, hW2⟩; replace B0 := B0.zw hW2; replace B1 := B1.zw hW2; replace hb := (hb).trans (hW2.mono (hb).size); rw [hr]))
  have lt_B0 := B0.lt
  have lt_B1 := B1.lt
  go_wp2_with (first | rw [← z64] | rw [← z64] | (refine zsr (.tmp 2) (.tmp 8) (fun _ => 0) B1 Try.size24 ?_; try simp only [Act.put]; go_wp2_with fail))
  obtain ⟨W3, hwo, hzQ⟩ : ∃ v : World, v = (W2.setRow (w.heap.size + 1) (zb 64 (fun _ => 0))) ∧ Row v (w.heap.size) 58 (drC p m G D).toArray ∧ Blk v (w.heap.size + 1) 64 24 (fun _ => 0) ∧ Below w.heap.size w v := ⟨_, rfl, (B0.rowOther (by omega)), (B1.row (fun _ => 0)), (zr hb (by omega) _)⟩
  rw [← hwo]
  clear hwo B0 B1 hb
  obtain ⟨B0, B1, hb⟩ := hzQ
  try simp only [Act.put, pA, pB, pC]
  refine bodyPost_ret (results_bt rfl _ _ _ 64 24 5 _ rfl B1 Try.underlying24 Try.size24) rfl ⟨by first | (rw [HV.out]; rfl) | rw [HV.out], hb⟩
 | true =>
  obtain ⟨hfl, hrg, hrd, hdz⟩ := drB_all hr
  obtain ⟨n, rfl, hpr, lm, d, hmon, hd1, hd4⟩ := flV_fld hfl
  have hd := hmon.1
  have h0 : 0 ≤ deg m := by omega
  have h9 : deg m ≤ 9 := by omega
  have hi := drB_irr hr hmon
  have hGr := rsB_rsd hrg
  have hDr := rsB_rsd hrd
  have hD0 := deg_nz hdz
  have HV := Lib.hid (ivV_0 hr)
  have hck : drCo (n : Int) m G D [] = 0 := by rw [drCo_t hr]; exact codeL_nil (by rcases hpr with rfl | rfl | rfl | rfl <;> rfl)
  have hn1 : (n : Int) + 1 = ((n + 1 : Nat) : Int) := by omega
  obtain ⟨q, hq⟩ : ∃ q, q = n + 1 := ⟨_, rfl⟩
  have hq1 : (n : Int) + 1 = (q : Int) := by omega
  have HPM := Lib.hid (fun W => l01PowMod_any n G q m W hpr hGr.1 lm h0 (by omega))
  have HQ := Lib.hid hq
  have HIN := Lib.hid (fun W => l02Inverse_any n D m W hpr hDr.1 lm d hmon (bzD_res hpr lm hmon hi hDr hD0))
  obtain ⟨a, ea, _⟩ := pmP_spec (k := q) hpr hGr.1 lm h0 (by omega)
  have HTM := Lib.hid (fun W => l06Times_any n m G D (pmP n G q m) (bzU n D m) W hpr lm h0 a (fun k _ => bzU_lt (by omega) k))
  clear hn1 hq hfl hrg hrd hdz hi hGr hDr hD0 hmon hd h0 h9 a ea
  go_upto_region 3 with (first | (refine zlr rfl 58 (.tmp 1) rfl _ rfl 58 (drC (n : Int) m G D).toArray (B0) _ Try.underlying58 rfl 193 Try.size58 (by simp [drC_len]) ?_) | (go_at_call 145; refine (HIS.out _).mono ?_; rintro e W2 ⟨rfl, hW2⟩; replace B0 := B0.zw hW2; replace B1 := B1.zw hW2; replace hb := (hb).trans (hW2.mono (hb).size); rw [hr]))
  have lt_B0 := B0.lt
  have lt_B1 := B1.lt
  go_upto_region 4 with (first | rw [← z64] | (refine wpList_load_rowc rfl 2 (.tmp 9) rfl _ 0 rfl 58 _ (B0) (.int .i64 (n : Int)) (drC_at _ _ _ _) _ Try.underlying2 rfl ?_) | (refine wpList_load_mid rfl 24 (.tmp 11) rfl _ 65 rfl (bl 64 G) _ (B0.drg) Try.underlying24 rfl (by rw [zl]; exact Try.size24) ?_) | (refine wpList_load_rowc rfl 2 (.tmp 13) rfl _ 0 rfl 58 _ (B0) (.int .i64 (n : Int)) (drC_at _ _ _ _) _ Try.underlying2 rfl ?_) | (refine wpList_load_mid rfl 24 (.tmp 16) rfl _ 1 rfl (bl 64 m) _ (B0.drm) Try.underlying24 rfl (by rw [zl]; exact Try.size24) ?_) | (go_at_call 100; refine (HPM.out _).mono ?_; rintro e W3 ⟨rfl, hW3⟩; replace B0 := B0.zw hW3; replace B1 := B1.zw hW3; replace hb := (hb).trans (hW3.mono (hb).size)) | (refine wpList_store_blk rfl 24 (.tmp 4) (.tmp 18) rfl _ 64 (pmP n G q m) rfl rfl 24 _ ((Blk.new W3 64 24 (fun _ => 0))) Try.size24 ?_; try simp only [Act.put]))
  have lt_B0 := B0.lt
  have lt_B1 := B1.lt
  have lhb := hb.size
  obtain ⟨W4, hwo, hzQ⟩ : ∃ v : World, v = ((W3.alloc (.cells (zb 64 (fun _ => 0)) 24)).setRow (W3.heap.size) (zb 64 (pmP n G q m))) ∧ Row v (w.heap.size) 58 (drC (n : Int) m G D).toArray ∧ Blk v (w.heap.size + 1) 64 24 (fun _ => 0) ∧ Blk v (W3.heap.size) 64 24 (pmP n G q m) ∧ Below w.heap.size w v := ⟨_, rfl, ((B0.alloc (.cells (zb 64 (fun _ => 0)) 24)).rowOther (by omega)), ((B1.alloc (.cells (zb 64 (fun _ => 0)) 24)).rowOther (by omega)), ((Blk.new W3 64 24 (fun _ => 0)).row (pmP n G q m)), (zr (hb.alloc (by have := hb.size; simp; omega) (.cells (zb 64 (fun _ => 0)) 24)) (by omega) _)⟩
  rw [← hwo]
  clear hwo B0 B1 hb
  obtain ⟨B0, B1, B2, hb⟩ := hzQ
  obtain ⟨N1, hNN⟩ : ∃ n : Nat, n = W3.heap.size := ⟨_, rfl⟩
  rw [← hNN] at lt_B0 lt_B1 lhb B2 ⊢
  clear hNN
  have zN1_0 := lt_B0
  have zN1_1 := lt_B1
  have zN1 := lhb
  clear lt_B0 lt_B1 lhb
  try simp only [Act.put, pA, pB, pC]
  have lt_B0 : (w.heap.size) < W4.heap.size := B0.lt
  have lt_B1 : (w.heap.size + 1) < W4.heap.size := B1.lt
  have lt_B2 : (N1) < W4.heap.size := B2.lt
  have hbase : w.heap.size ≤ W4.heap.size := hb.size
  refine zq Try.mixed (by kernel_rfl) (by kernel_rfl) (fun v => by (simp only [frL, Act.put, pA, pB, pC, Nat.reduceAdd, Nat.zero_add]; exact rfl))
   (fun L v W5 => Below w.heap.size w W5 ∧ Kx [w.heap.size + 1] W4 W5 ∧ (∃ g, Blk W5 (w.heap.size + 1) 64 24 (g)) ∧ (L 10 = false → Blk W5 (w.heap.size + 1) 64 24 (fun _ => 0)) ∧ (L 10 = true → Blk W5 (w.heap.size + 1) 64 24 (mmP n (pmP n G q m) (bzU n D m) m)) ∧ VF L v [some (.agg (drC (n : Int) m G D).toArray), some (.agg (zb 64 (pmP n G q m))), some (.pointer (some ⟨w.heap.size, 0, none⟩)), some (.int .i64 (n : Int)), some (.pointer (some ⟨w.heap.size, 129, none⟩)), some (.agg (zb 64 (D))), some (.pointer (some ⟨w.heap.size, 1, none⟩)), some (.agg (zb 64 (m))), some (.agg (zb 64 (bzU n D m))), some (.agg (zb 64 (mmP n (pmP n G q m) (bzU n D m) m))), none, some (.int .i64 0)]) ?_ ?_ ?_
  · intro v hv0
    exact ⟨hb.drew, Kx.start _ _, ⟨_, B1.drew⟩, (fun _ => B1.drew), (fun h => by cases h), VF.start⟩
  · refine (.cons rfl ?_ (.cons rfl ?_ (.cons rfl ?_ (.cons rfl ?_ (.cons rfl ?_ (.cons rfl ?_ (.cons rfl ?_ (.cons rfl ?_ (.cons rfl ?_ (.cons rfl ?_ (.cons rfl ?_ (.cons rfl ?_ (.nil _)))))))))))))
    all_goals intro L v W5 hd hn ⟨hB, hX, x1, q1, n1, V⟩ K hK
    · refine wp_load_rowv 58 _ rfl _ rfl 58 _ (B0.kx hX (by simp <;> omega)) _ Try.underlying58 rfl 193 Try.size58 (by simp [drC_len]) ?_
      exact hK _ _ _ rfl ⟨hB, hX, x1, q1, n1, V.step 0 rfl⟩
    · refine wp_load_any 24 _ rfl _ rfl 64 24 _ (B2.kx hX (by simp <;> omega)) _ Try.underlying24 rfl Try.size24 ?_
      exact hK _ _ _ rfl ⟨hB, hX, x1, q1, n1, V.step 1 rfl⟩
    · go_wp2_with fail
      exact hK _ (.pointer (some ⟨w.heap.size, 0, none⟩)) _ (by simp only [Act.put, pA, pB, pC ]) ⟨hB, hX, x1, q1, n1, V.step 2 rfl⟩
    · have e2 := V.at (zdq hd 2 rfl) rfl
      refine wp_load_rowc 2 _ rfl _ 0 e2 58 _ (B0.kx hX (by simp <;> omega)) (.int .i64 (n : Int)) (drC_at _ _ _ _) _ Try.underlying2 rfl ?_
      exact hK _ _ _ rfl ⟨hB, hX, x1, q1, n1, V.step 3 rfl⟩
    · go_wp2_with fail
      exact hK _ (.pointer (some ⟨w.heap.size, 129, none⟩)) _ (by simp only [Act.put, pA, pB, pC ]) ⟨hB, hX, x1, q1, n1, V.step 4 rfl⟩
    · have e4 := V.at (zdq hd 4 rfl) rfl
      refine wp_load_mid 24 _ rfl _ 129 e4 _ _ ((B0.kx hX (by simp <;> omega)).drd) Try.underlying24 rfl (by rw [zl]; exact Try.size24) ?_
      exact hK _ _ _ rfl ⟨hB, hX, x1, q1, n1, V.step 5 rfl⟩
    · go_wp2_with fail
      exact hK _ (.pointer (some ⟨w.heap.size, 1, none⟩)) _ (by simp only [Act.put, pA, pB, pC ]) ⟨hB, hX, x1, q1, n1, V.step 6 rfl⟩
    · have e6 := V.at (zdq hd 6 rfl) rfl
      refine wp_load_mid 24 _ rfl _ 1 e6 _ _ ((B0.kx hX (by simp <;> omega)).drm) Try.underlying24 rfl (by rw [zl]; exact Try.size24) ?_
      exact hK _ _ _ rfl ⟨hB, hX, x1, q1, n1, V.step 7 rfl⟩
    · have e3 := V.at (zdq hd 3 rfl) rfl
      have e5 := V.at (zdq hd 5 rfl) rfl
      have e7 := V.at (zdq hd 7 rfl) rfl
      go_wp2_with (go_at_call 155; refine (HIN.out _).mono ?_; rintro e wy ⟨rfl, hy⟩)
      exact hK _ (.agg (zb 64 (bzU n D m))) _ (by simp only [Act.put, pA, pB, pC, e3, e5, e7]) ⟨hB.trans (hy.mono hB.size), hX.below hy, (let ⟨g, h⟩ := x1; ⟨g, h.zw hy⟩), (fun h => (q1 h).below hy (q1 h).lt), (fun h => (n1 h).below hy (n1 h).lt), V.step 8 rfl⟩
    · have e0 := V.at (zdq hd 0 rfl) rfl
      have e1 := V.at (zdq hd 1 rfl) rfl
      have e8 := V.at (zdq hd 8 rfl) rfl
      go_wp2_with (go_at_call 154; refine (HTM.out _).mono ?_; rintro e wy ⟨rfl, hy⟩)
      exact hK _ (.agg (zb 64 (mmP n (pmP n G q m) (bzU n D m) m))) _ (by simp only [Act.put, pA, pB, pC, e0, e1, e8]) ⟨hB.trans (hy.mono hB.size), hX.below hy, (let ⟨g, h⟩ := x1; ⟨g, h.zw hy⟩), (fun h => (q1 h).below hy (q1 h).lt), (fun h => (n1 h).below hy (n1 h).lt), V.step 9 rfl⟩
    · have e9 := V.at (zdq hd 9 rfl) rfl
      obtain ⟨gz, hk⟩ := x1
      refine zsb 24 _ _ rfl _ 64 (mmP n (pmP n G q m) (bzU n D m) m) rfl e9 24 gz hk Try.size24 ?_
      exact hK _ undef _ rfl ⟨zr hB (by omega) _, hX.row (by simp) _, ⟨_, hk.row _⟩, (fun h => absurd h (by simp [setL])), (fun _ => hk.row _), V.skip 10 rfl⟩
    go_wp2_with fail
    exact hK _ (.int .i64 0) _ (by simp only [Act.put, pA, pB, pC ]) ⟨hB, hX, x1, q1, n1, V.step 11 rfl⟩
  intro L v W5 hL ⟨hB, hX, x1, q1, n1, V⟩
  have r1 := n1 (hL 10 (by decide))
  have e0 := V.at (hL 0 (by decide)) rfl
  have e1 := V.at (hL 1 (by decide)) rfl
  have e2 := V.at (hL 2 (by decide)) rfl
  have e3 := V.at (hL 3 (by decide)) rfl
  have e4 := V.at (hL 4 (by decide)) rfl
  have e5 := V.at (hL 5 (by decide)) rfl
  have e6 := V.at (hL 6 (by decide)) rfl
  have e7 := V.at (hL 7 (by decide)) rfl
  have e8 := V.at (hL 8 (by decide)) rfl
  have e9 := V.at (hL 9 (by decide)) rfl
  have e11 := V.at (hL 11 (by decide)) rfl
  clear hL x1 q1 n1 V
  replace B0 := B0.kx hX (by simp <;> omega)
  replace B2 := B2.kx hX (by simp <;> omega)
  clear hX
  simp only [Exit.then, e0, e1, e2, e3, e4, e5, e6, e7, e8, e9, e11]
  clear e0 e1 e2 e3 e4 e5 e6 e7 e8 e9 e11
  replace B1 := r1
  clear r1
  replace hb := hB
  clear hB
  clear hbase lt_B0 lt_B1 lt_B2
  go_wp2_with fail
  refine bodyPost_ret (results_bt rfl _ _ _ 64 24 5 _ rfl B1 Try.underlying24 Try.size24) rfl ⟨by first | (rw [HV.out, ← HQ.out]; done) | (rw [HV.out, ← HQ.out]; rfl), hb⟩
theorem FnExactInvariantOf_walk (p : Int) (m G D : Nat → Nat) (hm : byte m) (hG : byte G) (hD : byte D) (w : World) :
 Calls Try.prog 17 #[(.agg (drC p m G D).toArray)] w fun e w' => e = .returned (.bool true) ∧ Below w.heap.size w w' := by
 have HTD := Lib.hid (fun W => toDrinfeld_any p m G D hm hG hD W)
 have HS := Lib.hid (fun W => spec_InvariantOf_any p m G D hm hG hD W)
 have HI := Lib.hid (fun W => impl_InvariantOf_any p m G D hm hG hD W)
 obtain ⟨Rv, hV⟩ : ∃ Rv, Rv = ivV p m G D := ⟨_, rfl⟩
 rw [← hV] at HS HI
 have hne1 : ((Rv.2) != (Rv.2)) = false := by simp
 clear hV
 go_enter Try.func17, Try.ntmps17
 go_upto_region 1 with (fail)
 obtain ⟨W1, hwo⟩ : ∃ v : World, v = (w.alloc (.cells (drC p m G D).toArray 55)) := ⟨_, rfl⟩
 have B0 : Row W1 (w.heap.size) 55 (drC p m G D).toArray := by subst hwo; have := (Row.new w 55 (drC p m G D).toArray); simpa using this
 have hb : Below w.heap.size w W1 := by subst hwo; exact ((Below.refl _ _).alloc (Nat.le_refl _) _)
 rw [← hwo]
 clear hwo
 have lt_B0 := B0.lt
 go_upto_region 2 with (first | rw [← z64] | (refine zlr rfl 55 (.tmp 1) rfl _ rfl 55 (drC p m G D).toArray (B0) _ Try.underlying55 rfl 193 Try.size55 (by simp [drC_len]) ?_) | (go_at_call 59; refine (HTD.out _).mono ?_; rintro e W2 ⟨rfl, hW2⟩; replace B0 := B0.zw hW2; replace hb := (hb).trans (hW2.mono (hb).size)) | (go_at_call 65; refine (HS.out _).mono ?_; rintro e W3 ⟨rfl, hW3⟩; replace B0 := B0.zw hW3; replace hb := (hb).trans (hW3.mono (hb).size)) | (refine wpList_store_blk rfl 24 (.tmp 3) (.tmp 11) rfl _ 64 (Rv.1) rfl rfl 24 _ ((Blk.new W3 64 24 (fun _ => 0))) Try.size24 ?_; try simp only [Act.put]; go_upto_region 2 with (fail)))
 have lt_B0 := B0.lt
 have lhb := hb.size
 obtain ⟨W4, hwo, hzQ⟩ : ∃ v : World, v = ((W3.alloc (.cells (zb 64 (fun _ => 0)) 24)).setRow (W3.heap.size) (zb 64 (Rv.1))) ∧ Row v (w.heap.size) 55 (drC p m G D).toArray ∧ Blk v (W3.heap.size) 64 24 (Rv.1) ∧ Below w.heap.size w v := ⟨_, rfl, ((B0.alloc (.cells (zb 64 (fun _ => 0)) 24)).rowOther (by omega)), ((Blk.new W3 64 24 (fun _ => 0)).row (Rv.1)), (zr (hb.alloc (by have := hb.size; simp; omega) (.cells (zb 64 (fun _ => 0)) 24)) (by omega) _)⟩
 rw [← hwo]
 clear hwo B0 hb
 obtain ⟨B0, B1, hb⟩ := hzQ
 obtain ⟨N1, hNN⟩ : ∃ n : Nat, n = W3.heap.size := ⟨_, rfl⟩
 rw [← hNN] at lt_B0 lhb B1 ⊢
 clear hNN
 have zN1_0 := lt_B0
 have zN1 := lhb
 clear lt_B0 lhb
 try simp only [Act.put, pA, pB, pC]
 have lt_B0 := B0.lt
 have lt_B1 := B1.lt
 go_upto_region 3 with (first | rw [← z64] | (refine zlr rfl 55 (.tmp 1) rfl _ rfl 55 (drC p m G D).toArray (B0) _ Try.underlying55 rfl 193 Try.size55 (by simp [drC_len]) ?_) | (go_at_call 59; refine (HTD.out _).mono ?_; rintro e W5 ⟨rfl, hW5⟩; replace B0 := B0.zw hW5; replace B1 := B1.zw hW5; replace hb := (hb).trans (hW5.mono (hb).size)) | (go_at_call 66; refine (HI.out _).mono ?_; rintro e W6 ⟨rfl, hW6⟩; replace B0 := B0.zw hW6; replace B1 := B1.zw hW6; replace hb := (hb).trans (hW6.mono (hb).size)) | (refine wpList_store_blk rfl 24 (.tmp 5) (.tmp 17) rfl _ 64 (Rv.1) rfl rfl 24 _ ((Blk.new W6 64 24 (fun _ => 0))) Try.size24 ?_; try simp only [Act.put]; go_upto_region 3 with (fail)))
 have lt_B0 := B0.lt
 have lt_B1 := B1.lt
 have lhb := hb.size
 obtain ⟨W7, hwo, hzQ⟩ : ∃ v : World, v = ((W6.alloc (.cells (zb 64 (fun _ => 0)) 24)).setRow (W6.heap.size) (zb 64 (Rv.1))) ∧ Row v (w.heap.size) 55 (drC p m G D).toArray ∧ Blk v (N1) 64 24 (Rv.1) ∧ Blk v (W6.heap.size) 64 24 (Rv.1) ∧ Below w.heap.size w v := ⟨_, rfl, ((B0.alloc (.cells (zb 64 (fun _ => 0)) 24)).rowOther (by omega)), ((B1.alloc (.cells (zb 64 (fun _ => 0)) 24)).rowOther (by omega)), ((Blk.new W6 64 24 (fun _ => 0)).row (Rv.1)), (zr (hb.alloc (by have := hb.size; simp; omega) (.cells (zb 64 (fun _ => 0)) 24)) (by omega) _)⟩
 rw [← hwo]
 clear hwo B0 B1 hb
 obtain ⟨B0, B1, B2, hb⟩ := hzQ
 obtain ⟨N2, hNN⟩ : ∃ n : Nat, n = W6.heap.size := ⟨_, rfl⟩
 rw [← hNN] at lt_B0 lt_B1 lhb B2 ⊢
 clear hNN
 have zN2_0 := lt_B0
 have zN2_1 := lt_B1
 have zN2 := lhb
 clear lt_B0 lt_B1 lhb
 try simp only [Act.put, pA, pB, pC]
 go_wp2_with (first | (refine zla (.tmp 5) B2 Try.underlying24 Try.size24 ?_) | (refine zla (.tmp 3) B1 Try.underlying24 Try.size24 ?_) | (go_at_call 49; refine (eqPoly_same _ _ (fun _ _ => rfl) _).mono ?_; rintro e W8 ⟨rfl, hW8⟩; replace B0 := B0.zw hW8; replace B1 := B1.zw hW8; replace B2 := B2.zw hW8; replace hb := (hb).trans (hW8.mono (hb).size)))
 go_ret
 exact ⟨rfl, hb⟩
end Go.Proofs.Yteloknnooebabaa
