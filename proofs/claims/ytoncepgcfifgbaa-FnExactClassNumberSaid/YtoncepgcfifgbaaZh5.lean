/-
  What the rows of this claim rest on: arrays of bytes, walks of the functions, plain mathematics.
-/
import Derived.Test.YtoncepgcfifgbaaZh4
import Derived.Deep.CutBlock
import Derived.WalkMore
import Derived.OpenShut
import Derived.ProofKit
import Derived.Test.YtoncepgcfifgbaaRows
import Derived.JoinedOf
section
namespace Go.Proofs.Ytoncepgcfifgbaa
open Go Go.RowKit
set_option linter.unusedVariables false
set_option linter.unusedSimpArgs false
attribute [local irreducible] deg invN quoP resP prd bzD bzU bzW sqP ofN rowF degF allF frC
/-- what the search by degrees hands back -/
def FoD (p : Nat) (D : Nat → Nat) (n : Nat) (w : World) (e : Ending) (w' : World) : Prop := ∃ v, e = .returned v ∧ SlL w' w.heap.size 55 128 v (frRows (degF p D n (p ^ n))) ∧ Below w.heap.size w w'
set_option maxRecDepth 100000 in
set_option maxHeartbeats 3200000 in
theorem reducedForms_any (p g : Nat) (D : Nat → Nat) (w : World) (p7 : p ≤ 7) (hD : deg D = ((2 * g + 1 : Nat) : Int)) (hg : g ≤ 2)
 (HFD : ∀ n W, n ≤ g → Calls Try.prog 170 #[.agg (fdC (p : Int) D).toArray, .int .i64 (n : Int)] W (FoD p D n W)) :
 Calls Try.prog 132 #[.agg (fdC (p : Int) D).toArray] w fun e w' => ∃ v, e = .returned v ∧ SlL w' w.heap.size 55 128 v (frRows (allF p D (g + 1))) ∧ Below w.heap.size w w' := by
 have HGN := Lib.hid (fun W => genus_any (p : Int) g D W hD)
 have HF := Lib.hid HFD
 clear hD HFD
 go_enter Try.func132, Try.ntmps132
 go_upto_region 1 with (fail)
 obtain ⟨W1, hwo⟩ : ∃ v : World, v = (w.alloc (.cells (fdC (p : Int) D).toArray 107)) := ⟨_, rfl⟩
 have B0 : Row W1 (w.heap.size) 107 (fdC (p : Int) D).toArray := by subst hwo; have := (Row.new w 107 (fdC (p : Int) D).toArray); simpa using this
 have hb : Below w.heap.size w W1 := by subst hwo; exact ((Below.refl _ _).alloc (Nat.le_refl _) _)
 rw [← hwo]
 clear hwo
 go_upto_region 2 with (fail)
 go_wp2_with (first | (refine zlr rfl 107 (.tmp 1) rfl _ rfl 107 (fdC (p : Int) D).toArray (B0) _ Try.underlying107 rfl 65 Try.size107 (by simp [fdC_len]) ?_) | (go_at_call 169; refine (HGN.out _).mono ?_; rintro e W2 ⟨rfl, hW2⟩; replace B0 := B0.zw hW2; replace hb := (hb).trans (hW2.mono (hb).size)))
 go_loopw [3, 8] (fun s c wr => ∃ (n : Nat) (lst : Value), lst = s ∧ c = .int .i64 (n : Int) ∧ n ≤ g + 1 ∧ Below w.heap.size w wr ∧ Row wr (w.heap.size) 107 (fdC (p : Int) D).toArray ∧ SlL wr w.heap.size 55 128 lst (frRows (allF p D n))) (fun _ c _ => g + 1 - (intOf c).toNat)
 case atStart => exact ⟨0, _, rfl, rfl, Nat.zero_le _, hb, B0, by rw [allF_z]; exact SlL.nil _ _ hb.size⟩
 case round =>
  clear hb B0
  obtain ⟨n, lst, rfl, rfl, hn, hb, B0, hS⟩ := hrel
  by_cases hlt : n < g + 1
  · have hlt2 : (n : Int) < (g : Int) + 1 := by omega
    have hlen : (allF p D n).length + (degF p D n (p ^ n)).length ≤ 2452 := by
     have h1 := (allF_len D p7 (n + 1) (by omega)).1
     rw [allF_s, List.length_append] at h1
     exact h1
    have HFN := Lib.hid (fun W => HF.out n W (by omega))
    have HFS := Lib.hid (allF_s p D n)
    go_upto_region 4 with (fail)
    go_wp2_with (first | (refine zlr rfl 107 (.tmp 1) rfl _ rfl 107 (fdC (p : Int) D).toArray B0 _ Try.underlying107 rfl 65 Try.size107 (by simp [fdC_len]) ?_) | (go_at_call 170; refine (HFN.out _).mono ?_; rintro e W2 ⟨v2, rfl, S2, h2⟩; have eS := hS.zw h2; have eB := B0.zw h2; have ehb := hb.trans (h2.mono hb.size)) | (at_builtin; refine wpList_append_sls _ rfl _ _ 61 rfl w.heap.size wr.heap.size 55 (.agg (frC (fun _ => 0) (fun _ => 0)).toArray) 128 128 Try.underlying61 Try.infoFrm (by simp [Value.cells, frC_len]) (by decide) lst v2 _ _ rfl eS rfl S2 (frRows_ones _) (by rw [frRows_len, frRows_len]; unfold maxLen; omega) (by rw [frRows_len, frRows_len]; omega) ?_; intro vp wp hSp hg1; have fB := eB.grownE eS hg1 (by decide); have fhb := ehb.grown hg1 ehb.size (fun k e => eS.own k e)))
    go_roundw
    case rel => exact ⟨n + 1, vp, rfl, by go_num, by omega, fhb, fB, (by rw [HFS.out, frRows_app]; exact hSp)⟩
    case measure => simp [intOf] <;> omega
  · have hlt2 : ¬ (n : Int) < (g : Int) + 1 := by omega
    obtain rfl : n = g + 1 := by omega
    go_wp2_with fail
    go_ret
    exact ⟨_, rfl, hS, hb⟩
set_option maxRecDepth 100000 in
set_option maxHeartbeats 3200000 in
theorem checkForms0_any (p : Int) (D : Nat → Nat) (hD : byte D) (w : World) :
 Calls Try.prog 129 #[.int .i64 p, .agg (zb 64 D), .slice none 0 0] w fun e w' => e = .returned (.int .i64 (if dcB p D then 0 else 1)) ∧ Below w.heap.size w w' := by
 have HDC := Lib.hid (fun W => impl_IsDiscriminant_any p D hD W)
 obtain ⟨V, hV⟩ : ∃ V : Int, V = if dcB p D then 0 else 1 := ⟨_, rfl⟩
 rw [← hV]
 have HV := Lib.hid hV
 clear hV
 go_enter Try.func129, Try.ntmps129
 go_upto_region 1 with (fail)
 obtain ⟨W1, hwo⟩ : ∃ v : World, v = (w.alloc (.cells (zb 64 (D)) 23)) := ⟨_, rfl⟩
 have B0 : Blk W1 (w.heap.size) 64 23 (D) := by subst hwo; have := (Blk.new w 64 23 (D)); simpa using this
 have hb : Below w.heap.size w W1 := by subst hwo; exact ((Below.refl _ _).alloc (Nat.le_refl _) _)
 rw [← hwo]
 clear hwo
 cases hf : dcB p D with
 | false =>
  go_upto_region 2 with (first | (refine zla (.tmp 4) B0 Try.underlying23 Try.size23 ?_) | (go_at_call 58; refine (HDC.out _).mono ?_; rintro e W2 ⟨rfl, hW2⟩; replace B0 := B0.zw hW2; replace hb := (hb).trans (hW2.mono (hb).size); rw [hf]))
  go_wp2_with fail
  go_ret
  exact ⟨by rw [HV.out, hf]; rfl, hb⟩
 | true =>
  go_upto_region 3 with (first | (refine zla (.tmp 4) B0 Try.underlying23 Try.size23 ?_) | (go_at_call 58; refine (HDC.out _).mono ?_; rintro e W2 ⟨rfl, hW2⟩; replace B0 := B0.zw hW2; replace hb := (hb).trans (hW2.mono (hb).size); rw [hf]))
  go_wp2_with fail
  go_loopw [15] (fun c wr => c = .int .i64 0 ∧ Below w.heap.size w wr) (fun _ _ => 0)
  case atStart => exact ⟨rfl, hb⟩
  case round =>
   obtain ⟨rfl, hb⟩ := hrel
   go_wp2_with fail
   go_ret
   exact ⟨by rw [HV.out, hf]; rfl, hb⟩
/-- the answer -/
noncomputable def rfV (p : Int) (D : Nat → Nat) : List ((Nat → Nat) × (Nat → Nat)) × Int := if dcB p D = true then (allF p.toNat D ((deg D / 2).toNat + 1), 0) else ([], 1)
theorem rfV_1 {p : Int} {D : Nat → Nat} (h : dcB p D = false) : rfV p D = ([], 1) := by unfold rfV; rw [h]; rfl
theorem rfV_0 {n g : Nat} {D : Nat → Nat} (h : dcB (n : Int) D = true) (hD : deg D = ((2 * g + 1 : Nat) : Int)) : rfV (n : Int) D = (allF n D (g + 1), 0) := by
 unfold rfV; rw [if_pos h, Int.toNat_natCast, show (deg D / 2).toNat = g by omega]
theorem rfV_len (p : Int) (D : Nat → Nat) : (rfV p D).1.length ≤ 3000 := by
 cases h : dcB p D with
 | false => rw [rfV_1 h]; exact Nat.zero_le _
 | true =>
  obtain ⟨n, g, rfl, hpr, lD, hg, hD⟩ := dcB_out h
  rw [rfV_0 h hD]
  have := (allF_len D (p := n) (by omega) (g + 1) (by omega)).1
  exact Nat.le_trans this (by omega)
attribute [irreducible] rfV
def RfF (p : Int) (D : Nat → Nat) (w : World) (e : Ending) (w' : World) : Prop := ∃ v, e = .returned (.tuple #[v, .int .i64 (rfV p D).2]) ∧ SlL w' w.heap.size 55 128 v (frRows (rfV p D).1) ∧ Below w.heap.size w w'
set_option maxRecDepth 100000 in
set_option maxHeartbeats 3200000 in
theorem impl_ReducedForms_any (p : Int) (D : Nat → Nat) (hD : byte D) (w : World) (HFD : ∀ (n g m : Nat) (W : World), dcB (n : Int) D = true → deg D = ((2 * g + 1 : Nat) : Int) → m ≤ g → Calls Try.prog 170 #[.agg (fdC (n : Int) D).toArray, .int .i64 (m : Int)] W (FoD n D m W)) :
 Calls Try.prog 66 #[.int .i64 p, .agg (zb 64 D)] w (RfF p D w) := by
 have HDC := Lib.hid (fun W => checkForms0_any p D hD W)
 go_enter Try.func66, Try.ntmps66
 go_upto_region 1 with (fail)
 obtain ⟨W1, hwo⟩ : ∃ v : World, v = (w.alloc (.cells (zb 64 (D)) 23)) := ⟨_, rfl⟩
 have B0 : Blk W1 (w.heap.size) 64 23 (D) := by subst hwo; have := (Blk.new w 64 23 (D)); simpa using this
 have hb : Below w.heap.size w W1 := by subst hwo; exact ((Below.refl _ _).alloc (Nat.le_refl _) _)
 rw [← hwo]
 clear hwo
 cases hf : dcB p D with
 | false =>
  have HV := Lib.hid (rfV_1 hf)
  go_upto_region 2 with (first | (refine zla (.tmp 3) B0 Try.underlying23 Try.size23 ?_) | (go_at_call 129; refine (HDC.out _).mono ?_; rintro e W2 ⟨rfl, hW2⟩; replace B0 := B0.zw hW2; replace hb := (hb).trans (hW2.mono (hb).size); rw [hf]; simp only [if_true, Bool.false_eq_true, if_false]))
  go_wp2_with fail
  go_ret2
  exact ⟨_, by rw [HV.out]; rfl, by rw [HV.out]; exact SlL.nil _ _ hb.size, hb⟩
 | true =>
  obtain ⟨n, g, rfl, hpr, lD, hg2, hdg⟩ := dcB_out hf
  have HV := Lib.hid (rfV_0 hf hdg)
  have HRF := Lib.hid (fun W => reducedForms_any n g D W (by omega) hdg hg2 (fun m W h => HFD n g m W hf hdg h))
  go_upto_region 2 with (first | (refine zla (.tmp 3) B0 Try.underlying23 Try.size23 ?_) | (go_at_call 129; refine (HDC.out _).mono ?_; rintro e W2 ⟨rfl, hW2⟩; replace B0 := B0.zw hW2; replace hb := (hb).trans (hW2.mono (hb).size); rw [hf]; simp only [if_true, Bool.false_eq_true, if_false]))
  go_upto_region 4 with (fail)
  have hbs := hb.size
  go_wp2_with (first | (refine zla (.tmp 3) B0 Try.underlying23 Try.size23 ?_) | (go_at_call 132; refine (HRF.out _).mono ?_; rintro e W9 ⟨v2, rfl, S2, h2⟩; have ehb := hb.trans (h2.mono hb.size)) | (refine zbo rfl 107 _ rfl (fdC (n : Int) D).toArray (by rw [Array.toList_map]; exact built_cv _ _) ?_))
  go_ret2
  exact ⟨_, by rw [HV.out]; rfl, by rw [HV.out]; exact S2.base hbs, ehb⟩
end Go.Proofs.Ytoncepgcfifgbaa
end
section
namespace Go.Proofs.Ytoncepgcfifgbaa
open Go Go.RowKit Go.Shelf
set_option linter.unusedVariables false
set_option linter.unusedSimpArgs false
noncomputable def forL (p n : Nat) (D : Nat → Nat) (l : List Nat) : List ((Nat → Nat) × (Nat → Nat)) := l.flatMap fun N => rowF p D (ofN p N) (p ^ n)
theorem forL_nil (p n : Nat) (D : Nat → Nat) : forL p n D [] = [] := rfl
theorem forL_snoc (p n : Nat) (D : Nat → Nat) (l : List Nat) (x : Nat) : forL p n D (l ++ [x]) = forL p n D l ++ rowF p D (ofN p x) (p ^ n) := by unfold forL; rw [List.flatMap_append]; simp
theorem forL_deg (p n : Nat) (D : Nat → Nat) : forL p n D (List.range' (p ^ n) (p ^ n)) = degF p D n (p ^ n) := by
 unfold forL degF
 rw [List.range'_eq_map_range, List.flatMap_map]
theorem forL_len (p n : Nat) (D : Nat → Nat) (l : List Nat) : (forL p n D l).length ≤ l.length * p ^ n := by
 induction l with
 | nil => rw [forL_nil]; simp
 | cons x l ih =>
  have h2 := rowF_len p D (ofN p x) (p ^ n)
  unfold forL at ih ⊢
  rw [List.flatMap_cons, List.length_append, List.length_cons, Nat.succ_mul]; omega
noncomputable def rowL (p : Nat) (D A : Nat → Nat) (l : List Nat) : List ((Nat → Nat) × (Nat → Nat)) := (l.filter fun k => fmB (p : Int) D A (ofN p k)).map fun k => (A, ofN p k)
theorem rowL_nil (p : Nat) (D A : Nat → Nat) : rowL p D A [] = [] := rfl
theorem rowL_yes {p x : Nat} {D A : Nat → Nat} {l : List Nat} (h : fmB (p : Int) D A (ofN p x) = true) : rowL p D A (l ++ [x]) = rowL p D A l ++ [(A, ofN p x)] := by
 unfold rowL; rw [List.filter_append, List.map_append]; simp [h]
theorem rowL_no {p x : Nat} {D A : Nat → Nat} {l : List Nat} (h : fmB (p : Int) D A (ofN p x) = false) : rowL p D A (l ++ [x]) = rowL p D A l := by
 unfold rowL; rw [List.filter_append, List.map_append]; simp [h]
theorem rowL_row (p : Nat) (D A : Nat → Nat) (q : Nat) : rowL p D A (List.range' 0 q) = rowF p D A q := by unfold rowL rowF; rw [List.range_eq_range']
theorem rowL_len (p : Nat) (D A : Nat → Nat) (l : List Nat) : (rowL p D A l).length ≤ l.length := by
 unfold rowL
 rw [List.length_map]
 exact List.length_filter_le _ _
theorem srch_len {p n : Nat} (D A : Nat → Nat) (l l2 : List Nat) (hp : p ≤ 7) (hn : n ≤ 2) (h1 : l.length < p ^ n) (h2 : l2.length < p ^ n) : (forL p n D l ++ rowL p D A l2).length ≤ 2900 := by
 have h3 := forL_len p n D l
 have h4 := rowL_len p D A l2
 have h5 := pow2_le hp hn
 have h6 : l.length * p ^ n ≤ 49 * 49 := Nat.mul_le_mul (by omega) h5
 rw [List.length_append]; omega
theorem Row.grownO {w w' : World} {b : Nat} {t : TypeId} {c : Array Value} {row : Option Nat} (h : Row w b t c) (hg : w.grownBy w' row) {base : Nat} (hr : ∀ r, row = some r → base ≤ r) (e : b < base) : Row w' b t c := by
 have hl := h.lt
 unfold Row at *; rw [hg.block b hl (fun x => by have := hr b x.symm; omega)]; exact h
theorem okA_of {p : Nat} {f : Nat → Nat} (hpr : p = 2 ∨ p = 3 ∨ p = 5 ∨ p = 7) (h : ∀ k, k < 64 → f k < p) : okA (p : Int) f = true :=
 okA_iff.2 ⟨by rcases hpr with rfl | rfl | rfl | rfl <;> decide, fun i hi => by have := h i hi; omega⟩
theorem monB_of {f : Nat → Nat} {n : Nat} (h : mon f n) : monB f = true := by rw [monB_at h.1, h.2]; rfl
/-- between two rounds of the outer search -/
def OI (p : Nat) (D : Nat → Nat) (n n0 b2 b3 b5 ba bb bp : Nat) (w : World) (pre : List (MonN p n)) (W : World) : Prop :=
 Row W b2 107 (fdC (p : Int) D).toArray ∧ One W b3 2 (.int .i64 (n : Int)) ∧ (∃ v, One W b5 61 v ∧ SlL W n0 55 128 v (frRows (forL p n D (vals pre)))) ∧
  One W ba 2 (.int .i64 ((p ^ n : Nat) : Int)) ∧ One W bb 2 (.int .i64 ((p ^ n + p ^ n : Nat) : Int)) ∧ One W bp 2 (.int .i64 (p : Int)) ∧ Below w.heap.size w W
theorem oI_own {p : Nat} {D : Nat → Nat} {n n0 b2 b3 b5 ba bb bp : Nat} {w : World} (h2 : b2 < n0) (h3 : b3 < n0) (h5 : b5 < n0) (ha : ba < n0) (hbb : bb < n0) (hp : bp < n0) (hw : w.heap.size ≤ n0) : OwnFrom n0 (OI p D n n0 b2 b3 b5 ba bb bp w) := by
 intro pre W W' row h hg hr
 obtain ⟨a2, a3, ⟨v, a5, aS⟩, aa, ab, ap, hb⟩ := h
 have h1 : ∀ r, row = some r → n0 ≤ r := fun r e => (hr r e).1
 exact ⟨a2.grownO hg h1 h2, a3.grownO hg h1 h3, ⟨v, a5.grownO hg h1 h5, aS.grownN hg (fun r e => (hr r e).2)⟩, aa.grownO hg h1 ha, ab.grownO hg h1 hbb, ap.grownO hg h1 hp,
  hb.grown hg hb.size (fun k e => Nat.le_trans hw (h1 k e))⟩
theorem oI_below {p : Nat} {D : Nat → Nat} {n n0 b2 b3 b5 ba bb bp : Nat} {w W W' : World} {pre : List (MonN p n)} (h : OI p D n n0 b2 b3 b5 ba bb bp w pre W) (hB : Below W.heap.size W W') : OI p D n n0 b2 b3 b5 ba bb bp w pre W' := by
 obtain ⟨a2, a3, ⟨v, a5, aS⟩, aa, ab, ap, hb⟩ := h
 exact ⟨a2.zw hB, a3.zw hB, ⟨v, a5.zw hB, aS.zw hB⟩, aa.zw hB, ab.zw hB, ap.zw hB, hb.trans (hB.mono hb.size)⟩
/-- between two rounds of the inner search -/
def II (p : Nat) (D A : Nat → Nat) (n n0 b2 b3 b5 b6 ba bb bp ca cb cp : Nat) (L0 : List ((Nat → Nat) × (Nat → Nat))) (w W0 : World) (pre : List (NumN 0 (p ^ n))) (W : World) : Prop :=
 Row W b2 107 (fdC (p : Int) D).toArray ∧ One W b3 2 (.int .i64 (n : Int)) ∧ (∃ v, One W b5 61 v ∧ SlL W n0 55 128 v (frRows (L0 ++ rowL p D A (vals pre)))) ∧ Blk W b6 64 23 A ∧
  One W ba 2 (.int .i64 ((p ^ n : Nat) : Int)) ∧ One W bb 2 (.int .i64 ((p ^ n + p ^ n : Nat) : Int)) ∧ One W bp 2 (.int .i64 (p : Int)) ∧
  One W ca 2 (.int .i64 ((0 : Nat) : Int)) ∧ One W cb 2 (.int .i64 ((0 + p ^ n : Nat) : Int)) ∧ One W cp 2 (.int .i64 (p : Int)) ∧ Below w.heap.size w W ∧ KF n0 W0 W
theorem iI_own {p : Nat} {D A : Nat → Nat} {n n0 n1 b2 b3 b5 b6 ba bb bp ca cb cp : Nat} {L0 : List ((Nat → Nat) × (Nat → Nat))} {w W0 : World} (h2 : b2 < n1) (h3 : b3 < n1) (h5 : b5 < n1) (h6 : b6 < n1) (ha : ba < n1) (hbb : bb < n1) (hp : bp < n1) (hca : ca < n1) (hcb : cb < n1) (hcp : cp < n1) (hw : w.heap.size ≤ n1) (hW0 : W0.heap.size ≤ n1) :
 OwnFrom n1 (II p D A n n0 b2 b3 b5 b6 ba bb bp ca cb cp L0 w W0) := by
 intro pre W W' row h hg hr
 obtain ⟨a2, a3, ⟨v, a5, aS⟩, a6, aa, ab, ap, ka, kb, kp, hb, hk⟩ := h
 have h1 : ∀ r, row = some r → n1 ≤ r := fun r e => (hr r e).1
 exact ⟨a2.grownO hg h1 h2, a3.grownO hg h1 h3, ⟨v, a5.grownO hg h1 h5, aS.grownN hg (fun r e => (hr r e).2)⟩, a6.grownO hg h1 h6, aa.grownO hg h1 ha, ab.grownO hg h1 hbb, ap.grownO hg h1 hp, ka.grownO hg h1 hca, kb.grownO hg h1 hcb, kp.grownO hg h1 hcp,
  hb.grown hg hb.size (fun k e => Nat.le_trans hw (h1 k e)), ownFrom_keepsFrom (β := Unit) hW0 () W W' row hk hg hr⟩
theorem iI_below {p : Nat} {D A : Nat → Nat} {n n0 b2 b3 b5 b6 ba bb bp ca cb cp : Nat} {L0 : List ((Nat → Nat) × (Nat → Nat))} {w W0 W W' : World} {pre : List (NumN 0 (p ^ n))} (h : II p D A n n0 b2 b3 b5 b6 ba bb bp ca cb cp L0 w W0 pre W) (hB : Below W.heap.size W W') : II p D A n n0 b2 b3 b5 b6 ba bb bp ca cb cp L0 w W0 pre W' := by
 obtain ⟨a2, a3, ⟨v, a5, aS⟩, a6, aa, ab, ap, ka, kb, kp, hb, hk⟩ := h
 exact ⟨a2.zw hB, a3.zw hB, ⟨v, a5.zw hB, aS.zw hB⟩, a6.zw hB, aa.zw hB, ab.zw hB, ap.zw hB, ka.zw hB, kb.zw hB, kp.zw hB, hb.trans (hB.mono hb.size), hk.zw hB⟩
end Go.Proofs.Ytoncepgcfifgbaa
end
section
namespace Go.Proofs.Ytoncepgcfifgbaa
open Go Go.RowKit Go.Shelf
set_option linter.unusedVariables false
set_option linter.unusedSimpArgs false
attribute [local irreducible] deg invN quoP resP prd bzD bzU bzW sqP ofN rowF degF allF frC forL rowL
theorem Try.sizeSlF : (Try.prog.info? 61).map (·.size) = some 1 := by kernel_rfl
set_option maxRecDepth 100000 in
set_option maxHeartbeats 6400000 in
theorem formsOfDegree_any (p n : Nat) (D : Nat → Nat) (w : World) (hpr : p = 2 ∨ p = 3 ∨ p = 5 ∨ p = 7) (lD : ∀ k, k < 64 → D k < p) (hn : n ≤ 2) :
 Calls Try.prog 170 #[.agg (fdC (p : Int) D).toArray, .int .i64 (n : Int)] w (FoD p D n w) := by
 have p2 : 2 ≤ p := by omega
 have p7 : p ≤ 7 := by omega
 have p0 : 0 < p := by omega
 have hq49 := pow2_le p7 hn
 have HLD := Lib.hid lD
 refine callsIn_wide.1 (callsIn_of_wp_marks (n := 14) Try.func170 rfl trivial (wpIn_wide.2 ?_) rfl)
 simp only [Try.ntmps170, List.size_toArray, List.length_cons, List.length_nil, Nat.reduceAdd, Nat.reduceSub, Array.replicate_succ, Array.replicate_zero, List.push_toArray, List.append_toArray, List.nil_append, List.cons_append]
 go_upto_region 1 with (fail)
 obtain ⟨W1, hwo⟩ : ∃ v : World, v = ((w.alloc (.cells (fdC (p : Int) D).toArray 107)).alloc (.cells #[(.int .i64 (n : Int))] 2)) := ⟨_, rfl⟩
 have B0 : Row W1 (w.heap.size) 107 (fdC (p : Int) D).toArray := by subst hwo; have := ((Row.new w 107 (fdC (p : Int) D).toArray).alloc (.cells #[(.int .i64 (n : Int))] 2)); simpa using this
 have B1 : One W1 (w.heap.size + 1) 2 (.int .i64 (n : Int)) := by subst hwo; have := (One.new (w.alloc (.cells (fdC (p : Int) D).toArray 107)) 2 (.int .i64 (n : Int))); simpa using this
 have hb : Below w.heap.size w W1 := by subst hwo; exact (((Below.refl _ _).alloc (Nat.le_refl _) _).alloc (by simp) _)
 rw [← hwo]
 clear hwo
 go_step3
 go_wp2_with (first | rw [← z64])
 have lt_B0 := B0.lt
 have lt_B1 := B1.lt
 have lhb := hb.size
 obtain ⟨W2, hwo, hzQ⟩ : ∃ v : World, v = (W1.alloc (.cells #[(.slice none 0 0)] 61)) ∧ Row v (w.heap.size) 107 (fdC (p : Int) D).toArray ∧ One v (w.heap.size + 1) 2 (.int .i64 (n : Int)) ∧ One v (W1.heap.size) 61 (.slice none 0 0) ∧ Below w.heap.size w v := ⟨_, rfl, (B0.alloc (.cells #[(.slice none 0 0)] 61)), (B1.alloc (.cells #[(.slice none 0 0)] 61)), (One.new W1 61 (.slice none 0 0)), (hb.alloc (by have := hb.size; simp; omega) (.cells #[(.slice none 0 0)] 61))⟩
 rw [← hwo]
 clear hwo B0 B1 hb
 obtain ⟨B0, B1, B2, hb⟩ := hzQ
 obtain ⟨N1, hNN⟩ : ∃ n : Nat, n = W1.heap.size := ⟨_, rfl⟩
 rw [← hNN] at lt_B0 lt_B1 lhb B2 ⊢
 clear hNN
 have zN1_0 := lt_B0
 have zN1_1 := lt_B1
 have zN1 := lhb
 clear lt_B0 lt_B1 lhb
 try simp only [Act.put, pA, pB, pC]
 go_step3
 go_upto_block 0 with (first | (refine wpList_load_rowc rfl 2 _ rfl _ 0 rfl 107 _ B0 (.int .i64 (p : Int)) (fdC_at _ _) _ Try.underlying2 rfl ?_) | (refine zlo rfl 2 (.tmp 3) rfl _ rfl 2 ((.int .i64 (n : Int))) (B1) _ Try.underlying2 rfl ?_) | (go_at_call 109; refine (monics_any p n _ p2 p7 (by omega)).mono ?_; rintro e WM ⟨ba, bb, bp, rfl, hba0, hbb0, hbp0, C0, C1, C2, hWM⟩))
 have na_0 : (w.heap.size) < ba := by have := B0.lt; omega
 have nb_0 : (w.heap.size) < bb := by have := B0.lt; omega
 have np_0 : (w.heap.size) < bp := by have := B0.lt; omega
 have na_1 : (w.heap.size + 1) < ba := by have := B1.lt; omega
 have nb_1 : (w.heap.size + 1) < bb := by have := B1.lt; omega
 have np_1 : (w.heap.size + 1) < bp := by have := B1.lt; omega
 have na_2 : (N1) < ba := by have := B2.lt; omega
 have nb_2 : (N1) < bb := by have := B2.lt; omega
 have np_2 : (N1) < bp := by have := B2.lt; omega
 replace B0 := B0.zw hWM
 replace B1 := B1.zw hWM
 replace B2 := B2.zw hWM
 replace hb := hb.trans (hWM.mono hb.size)
 clear hba0 hbb0 hbp0 hWM
 have lB0 : (w.heap.size) < WM.heap.size := B0.lt
 have lB1 : (w.heap.size + 1) < WM.heap.size := B1.lt
 have lB2 : (N1) < WM.heap.size := B2.lt
 have lC0 : ba < WM.heap.size := C0.lt
 have lC1 : bb < WM.heap.size := C1.lt
 have lC2 : bp < WM.heap.size := C2.lt
 have lw : w.heap.size ≤ WM.heap.size := hb.size
 refine (wpIn_wide (n := 14)).1 (wpIn_block ?_)
 refine wpIn_rangeFunc_ownH (F := Fence.wide) (n := 14) rfl (by omega) (gf := 177) (lb := #[.pointer (some ⟨ba, 0, none⟩), .pointer (some ⟨bb, 0, none⟩), .pointer (some ⟨bp, 0, none⟩)]) rfl trivial (enters_of Try.func177 (by kernel_rfl) rfl)
  (numbered1_stops 13 p (p ^ n) (p ^ n) p2 p7 (mon_bound p7 (by omega)) (mon_bound p7 (by omega)) ba bb bp WM C0 C1 C2) KpN.trans (KpN.put C0.lt C1.lt C2.lt) (Below.refl _ _) (fun _ => rfl)
  (OI p D n WM.heap.size (w.heap.size) (w.heap.size + 1) (N1) ba bb bp w) (fun _ _ _ => False)
  (oI_own lB0 lB1 lB2 lC0 lC1 lC2 lw)
  (fun _ _ _ _ _ h _ _ => h)
  ⟨B0, B1, ⟨_, B2, (by rw [vals_nil, forL_nil, frRows_nil]; exact SlL.nil _ _ (Nat.le_refl _))⟩, C0, C1, C2, hb⟩
  (fun (x : MonN p n) (a' : Act) (W : World) => ∃ b6, WM.heap.size ≤ b6 ∧ Blk W b6 64 23 (ofN p x.1) ∧ a' = { tmps := #[(.agg (fdC (p : Int) D).toArray), (.int .i64 (n : Int)), (.pointer (some ⟨w.heap.size, 0, none⟩)), (.pointer (some ⟨w.heap.size + 1, 0, none⟩)), (.slice none 0 0), (.pointer (some ⟨N1, 0, none⟩)), (.pointer (some ⟨b6, 0, none⟩)), undef, undef, undef, (.pointer (some ⟨w.heap.size, 0, none⟩)), (.int .i64 (p : Int)), (.int .i64 (n : Int)), (.func (.func 177) #[] #[.pointer (some ⟨ba, 0, none⟩), .pointer (some ⟨bb, 0, none⟩), .pointer (some ⟨bp, 0, none⟩)]), (.agg (zb 64 (ofN p x.1))), undef, undef, undef, undef, undef, undef, undef, undef, undef, undef, undef, undef, undef, undef, undef, undef, undef, undef, undef, undef, undef, undef, undef, undef, undef, undef, undef, undef, undef, undef, undef, undef, undef, undef], defers := [] })
  (by
   rintro x a' _ W W' row ⟨b6, h6, hB, rfl⟩ hg hr
   exact ⟨b6, h6, by
    unfold Blk at *
    rw [hg.block b6 (Array.getElem?_eq_some_iff.1 hB).1 (fun e => by
     obtain ⟨_, o, ho, hc⟩ := hr b6 e.symm
     rw [hB] at ho; cases ho; cases hc)]
    exact hB, rfl⟩) ?assign ?body ?done ?stop
 all_goals clear B0 B1 B2 C0 C1 C2 hb
 case assign =>
  intro l pre x W K hi hK
  refine regionIn_of (nd_of (by rfl)) (fun _ _ h => h) ?_
  unfold numEnc
  have hN : Blk (W.alloc (.cells (zb 64 fun _ => 0) 23)) W.heap.size 64 23 (fun _ => 0) := Blk.new W 64 23 _
  go_wp2_with (first | rw [← z64] | (refine zsr (.tmp 6) (.tmp 14) (ofN p x.1) hN Try.size23 ?_))
  have hBB : Below W.heap.size W ((W.alloc (.cells (zb 64 fun _ => 0) 23)).setRow W.heap.size (zb 64 (ofN p x.1))) := zr (zal _ _) (Nat.le_refl _) _
  have hi2 := hi
  obtain ⟨_, _, ⟨v, _, aS⟩, aa, ab, ap, _⟩ := hi
  have z0 := aS.lt
  refine hK _ _ ((KF.refl _ W).below hBB (Nat.le_refl _)) ⟨hBB.block _ aa.lt, hBB.block _ ab.lt, hBB.block _ ap.lt⟩ (oI_below hi2 hBB) ⟨W.heap.size, z0, hN.row _, rfl⟩
 case stop =>
  intro D' c pre W _ _ h _
  exact h.elim
 case done =>
  rintro DD ys W hD hS hi hK
  have hE : forL p n D (vals ys) = degF p D n (p ^ n) := by rw [show vals ys = List.range' (p ^ n) (p ^ n) from hS]; exact forL_deg p n D
  clear hS
  unfold OI at hi
  rw [hE] at hi
  have HDF : DF W DD := hK
  obtain ⟨_, _, ⟨vv, B5, S1⟩, _, _, _, hb⟩ := hi
  clear hK
  go_wp2_with (first | (refine zlo rfl 61 (.tmp 5) rfl _ rfl 61 vv B5 _ Try.underlying61 rfl ?_))
  refine ⟨by simp, .inl ⟨_, _, rfl, run_takeDeferred (show W.heap[DD]? = some (.deferred (some [])) from HDF), ?_⟩⟩
  have hg := grownBy_putObj' W DD (.deferred none)
  refine ⟨_, results_tmp rfl _ _ _, vv, rfl, (S1.grownN hg (fun r e => by cases e; exact ⟨_, HDF, rfl⟩)).base lw, hb.grown hg hb.size (fun k e => by cases e; omega)⟩
 case body =>
  rintro l pre ⟨x, hx⟩ a' W hl ⟨lr, hlr⟩ hi ⟨bx, h6, B3, rfl⟩ hlen
  obtain ⟨L0, hL0⟩ : ∃ L0, L0 = forL p n D (vals pre) := ⟨_, rfl⟩
  have hSn : forL p n D (vals (pre ++ [⟨x, hx⟩])) = L0 ++ rowF p D (ofN p x) (p ^ n) := by rw [vals_snoc, forL_snoc, hL0]
  unfold OI at hi
  rw [← hL0] at hi
  obtain ⟨B0, B1, ⟨vv, B2, hS⟩, B5, B6, B7, hb⟩ := hi
  have HA0 := Lib.hid (show One W ba 2 (.int .i64 ((p ^ n : Nat) : Int)) from B5)
  have HB0 := Lib.hid (show One W bb 2 (.int .i64 ((p ^ n + p ^ n : Nat) : Int)) from B6)
  have HP0 := Lib.hid (show One W bp 2 (.int .i64 (p : Int)) from B7)
  have B8 := KF.refl WM.heap.size W
  have B4 := hS.toU
  have hLB := hS.lt
  clear hS
  have hlp : (vals pre).length < p ^ n := by rw [vals_len]; exact hlen
  have HLEN := Lib.hid (fun A l2 (h : l2.length < p ^ n) => (show (L0 ++ rowL p D A l2).length ≤ 2900 by rw [hL0]; exact srch_len D A (vals pre) l2 p7 hn hlp h))
  have HLR := Lib.hid hlr
  have hlW : l < W.heap.size := (Array.getElem?_eq_some_iff.1 hlr).1
  obtain ⟨A, hA⟩ : ∃ A, A = ofN p x := ⟨_, rfl⟩
  rw [← hA] at B3 hSn ⊢
  have hAp : ∀ k, A k < p := by rw [hA]; exact fun k => ofN_lt p0 x k
  have hAd : mon A n := by rw [hA]; exact mon_ofN p2 (by omega) hx
  have HX := Lib.hid hA
  have HSn := Lib.hid hSn
  have HVA := Lib.hid (fun j (hj : j < p) W => valueAt_any p A j W p2 p7 hj (fun k _ => hAp k))
  have HSQ := Lib.hid (fun j (hj : j < p) W => isSquareAt_any p j D W hpr lD hj)
  have HSK := Lib.hid (fun j (hj : j < p) (h0 : hrN p j A 64 = 0) (hs : sqB p (hrN p j D 64) = false) => rowF_none (p := p) (D := D) (A := A) (fun k => fm_skip hpr lD hj h0 hs) (p ^ n))
  have HHA := Lib.hid (fun B (hB : ∀ k, k < 64 → B k < p) W => has_any p D A B W hpr lD (fun k _ => hAp k) hB (by rw [hAd.1]; omega))
  have HMD := Lib.hid hAd
  clear hA hSn hlen hlp hlr hL0
  refine wpIn_block ?_
  refine wpIn_seq ?_
  refine wpIn_seq ?_
  refine regionIn_of (nd_of (by rfl)) (fun _ _ h => h) ?_
  go_wp2_with (first | (refine wpList_load_rowc rfl 2 (.tmp 15) rfl _ 0 rfl 107 _ (B0) (.int .i64 (p : Int)) (fdC_at _ _) _ Try.underlying2 rfl ?_))
  refine wpIn_block ?_
  gi_loopw [17] (fun c wr => ∃ j : Nat, c = .int .i64 (j : Int) ∧ j ≤ p ∧ Below w.heap.size w wr ∧ Row wr (w.heap.size) 107 (fdC (p : Int) D).toArray ∧ One wr (w.heap.size + 1) 2 (.int .i64 (n : Int)) ∧ One wr (N1) 61 vv ∧ Blk wr (bx) 64 23 (A) ∧ SlU wr WM.heap.size W.heap.size 55 128 vv (frRows L0) ∧ One wr (ba) 2 (.int .i64 ((p ^ n : Nat) : Int)) ∧ One wr (bb) 2 (.int .i64 ((p ^ n + p ^ n : Nat) : Int)) ∧ One wr (bp) 2 (.int .i64 (p : Int)) ∧ KF WM.heap.size W wr) (fun c _ => p - (intOf c).toNat)
  case atStart => exact ⟨0, rfl, Nat.zero_le _, hb, B0, B1, B2, B3, B4, B5, B6, B7, B8⟩
  case round =>
   clear hb B0 B1 B2 B3 B4 B5 B6 B7 B8
   obtain ⟨j, rfl, hj, hb, B0, B1, B2, B3, B4, B5, B6, B7, B8⟩ := hrel
   by_cases hlt : j < p
   · have hlt2 : (j : Int) < (p : Int) := by omega
     have HV1 := Lib.hid (HVA.out j hlt)
     have HS1 := Lib.hid (HSQ.out j hlt)
     have HK1 := Lib.hid (HSK.out j hlt)
     obtain ⟨V, hV⟩ : ∃ V, V = hrN p j A 64 := ⟨_, rfl⟩
     obtain ⟨S, hSq⟩ : ∃ S, S = sqB p (hrN p j D 64) := ⟨_, rfl⟩
     rw [← hV] at HV1 HK1
     rw [← hSq] at HS1 HK1
     clear hV hSq
     refine wpIn_seq ?_
     refine regionIn_of (nd_of (by rfl)) (fun _ _ h => h) ?_
     go_wp2_with fail
     refine wpIn_seq ?_
     refine wpIn_cond_true rfl ?_
     refine wpIn_skip ?_
     simp only [Exit.then]
     refine wpIn_seq ?_
     refine wpIn_block ?_
     refine wpIn_seq ?_
     refine regionIn_of (nd_of (by rfl)) (fun _ _ h => h) ?_
     go_wp2_with fail
     refine wpIn_seq ?_
     refine regionIn_of (nd_of (by rfl)) (fun _ _ h => h) ?_
     by_cases hV0 : V = 0
     · have hq : ((V : Int) == 0) = true := by rw [beq_iff_eq]; omega
       cases S with
       | false =>
        go_wp2_with (first | (refine wpList_load_rowc rfl 2 (.tmp 20) rfl _ 0 rfl 107 _ (B0) (.int .i64 (p : Int)) (fdC_at _ _) _ Try.underlying2 rfl ?_) | (refine zla (.tmp 6) B3 Try.underlying23 Try.size23 ?_) | (go_at_call 180; refine (HV1.out _).mono ?_; rintro e W3 ⟨rfl, hW3⟩; replace B0 := B0.zw hW3; replace B1 := B1.zw hW3; replace B2 := B2.zw hW3; replace B3 := B3.zw hW3; replace B4 := B4.zw hW3; replace B5 := B5.zw hW3; replace B6 := B6.zw hW3; replace B7 := B7.zw hW3; replace B8 := B8.zw hW3; replace hb := (hb).trans (hW3.mono (hb).size)) | (refine wpList_load_rowv_g rfl 107 (.tmp 2) rfl _ rfl 107 (fdC (p : Int) D).toArray (B0) _ Try.underlying107 rfl 65 Try.size107 (by simp [fdC_len]) ?_) | (go_at_call 181; refine (HS1.out _).mono ?_; rintro e W4 ⟨rfl, hW4⟩; replace B0 := B0.zw hW4; replace B1 := B1.zw hW4; replace B2 := B2.zw hW4; replace B3 := B3.zw hW4; replace B4 := B4.zw hW4; replace B5 := B5.zw hW4; replace B6 := B6.zw hW4; replace B7 := B7.zw hW4; replace B8 := B8.zw hW4; replace hb := (hb).trans (hW4.mono (hb).size)))
        refine wpIn_cond_true rfl ?_
        refine wpIn_exit ?_
        have HR := HK1.out hV0 (by simp)
        exact ⟨B8, (show KpN ba bb bp W W4 from ⟨One.same HA0.out B5, One.same HB0.out B6, One.same HP0.out B7⟩), (show OI p D n WM.heap.size (w.heap.size) (w.heap.size + 1) (N1) ba bb bp w (pre ++ [⟨x, hx⟩]) W4 by unfold OI; rw [HSn.out]; exact ⟨B0, B1, ⟨_, B2, (by rw [HR, List.append_nil]; exact B4.1.1)⟩, B5, B6, B7, hb⟩)⟩
       | true =>
        go_wp2_with (first | (refine wpList_load_rowc rfl 2 (.tmp 20) rfl _ 0 rfl 107 _ (B0) (.int .i64 (p : Int)) (fdC_at _ _) _ Try.underlying2 rfl ?_) | (refine zla (.tmp 6) B3 Try.underlying23 Try.size23 ?_) | (go_at_call 180; refine (HV1.out _).mono ?_; rintro e W3 ⟨rfl, hW3⟩; replace B0 := B0.zw hW3; replace B1 := B1.zw hW3; replace B2 := B2.zw hW3; replace B3 := B3.zw hW3; replace B4 := B4.zw hW3; replace B5 := B5.zw hW3; replace B6 := B6.zw hW3; replace B7 := B7.zw hW3; replace B8 := B8.zw hW3; replace hb := (hb).trans (hW3.mono (hb).size)) | (refine wpList_load_rowv_g rfl 107 (.tmp 2) rfl _ rfl 107 (fdC (p : Int) D).toArray (B0) _ Try.underlying107 rfl 65 Try.size107 (by simp [fdC_len]) ?_) | (go_at_call 181; refine (HS1.out _).mono ?_; rintro e W4 ⟨rfl, hW4⟩; replace B0 := B0.zw hW4; replace B1 := B1.zw hW4; replace B2 := B2.zw hW4; replace B3 := B3.zw hW4; replace B4 := B4.zw hW4; replace B5 := B5.zw hW4; replace B6 := B6.zw hW4; replace B7 := B7.zw hW4; replace B8 := B8.zw hW4; replace hb := (hb).trans (hW4.mono (hb).size)))
        refine wpIn_cond_false rfl ?_
        refine wpIn_skip ?_
        simp only [Exit.inBlock, Exit.then]
        refine regionIn_of (nd_of (by rfl)) (fun _ _ h => h) ?_
        go_wp2_with fail
        go_roundw
        case rel => exact ⟨j + 1, by go_num, by omega, hb, B0, B1, B2, B3, B4, B5, B6, B7, B8⟩
        case measure => simp [intOf] <;> omega
     · have hq : ((V : Int) == 0) = false := by rw [beq_eq_false_iff_ne]; omega
       go_wp2_with (first | (refine wpList_load_rowc rfl 2 (.tmp 20) rfl _ 0 rfl 107 _ (B0) (.int .i64 (p : Int)) (fdC_at _ _) _ Try.underlying2 rfl ?_) | (refine zla (.tmp 6) B3 Try.underlying23 Try.size23 ?_) | (go_at_call 180; refine (HV1.out _).mono ?_; rintro e W3 ⟨rfl, hW3⟩; replace B0 := B0.zw hW3; replace B1 := B1.zw hW3; replace B2 := B2.zw hW3; replace B3 := B3.zw hW3; replace B4 := B4.zw hW3; replace B5 := B5.zw hW3; replace B6 := B6.zw hW3; replace B7 := B7.zw hW3; replace B8 := B8.zw hW3; replace hb := (hb).trans (hW3.mono (hb).size)))
       refine wpIn_cond_false rfl ?_
       refine wpIn_skip ?_
       simp only [Exit.inBlock, Exit.then]
       refine regionIn_of (nd_of (by rfl)) (fun _ _ h => h) ?_
       go_wp2_with fail
       go_roundw
       case rel => exact ⟨j + 1, by go_num, by omega, hb, B0, B1, B2, B3, B4, B5, B6, B7, B8⟩
       case measure => simp [intOf] <;> omega
   · have hlt2 : ¬ (j : Int) < (p : Int) := by omega
     have e : p = j := by omega
     subst e
     refine wpIn_seq ?_
     refine regionIn_of (nd_of (by rfl)) (fun _ _ h => h) ?_
     go_wp2_with fail
     refine wpIn_seq ?_
     refine wpIn_cond_false rfl ?_
     refine wpIn_exit ?_
     simp only [Exit.then, Exit.inBlock]
     rw [if_pos trivial]
     refine wpIn_seq ?_
     refine regionIn_of (nd_of (by rfl)) (fun _ _ h => h) ?_
     go_wp2_with (first | (refine wpList_load_rowc rfl 2 _ rfl _ 0 rfl 107 _ B0 (.int .i64 (p : Int)) (fdC_at _ _) _ Try.underlying2 rfl ?_) | (refine zlo rfl 2 (.tmp 3) rfl _ rfl 2 ((.int .i64 (n : Int))) (B1) _ Try.underlying2 rfl ?_) | (go_at_call 182; refine (lesserThan_any p n _ p2 p7 (by omega)).mono ?_; rintro e WL ⟨qa, qb, qp, rfl, hqa0, hqb0, hqp0, K0, K1, K2, hWL⟩))
     have nq5 := B2.lt
     have nqa : (N1) < qa := by omega
     have nqb : (N1) < qb := by omega
     have nqp : (N1) < qp := by omega
     clear nq5
     replace B0 := B0.zw hWL
     replace B1 := B1.zw hWL
     replace B2 := B2.zw hWL
     replace B3 := B3.zw hWL
     replace B4 := B4.zw hWL
     replace B5 := B5.zw hWL
     replace B6 := B6.zw hWL
     replace B7 := B7.zw hWL
     replace B8 := B8.zw hWL
     replace hb := hb.trans (hWL.mono hb.size)
     have hlr2 := B8.same l _ hl HLR.out rfl
     have K1' : One WL qb 2 (.int .i64 ((0 + p ^ n : Nat) : Int)) := by rw [Nat.zero_add]; exact K1
     clear K1 hqa0 hqb0 hqp0 hWL
     have mB0 : (w.heap.size) < WL.heap.size := B0.lt
     have mB1 : (w.heap.size + 1) < WL.heap.size := B1.lt
     have mB2 : (N1) < WL.heap.size := B2.lt
     have mB3 : (bx) < WL.heap.size := B3.lt
     have mB5 : (ba) < WL.heap.size := B5.lt
     have mB6 : (bb) < WL.heap.size := B6.lt
     have mB7 : (bp) < WL.heap.size := B7.lt
     have mK0 : qa < WL.heap.size := K0.lt
     have mK1 : qb < WL.heap.size := K1'.lt
     have mK2 : qp < WL.heap.size := K2.lt
     have mw : w.heap.size ≤ WL.heap.size := hb.size
     have mW : W.heap.size ≤ WL.heap.size := B8.lt
     refine wpIn_block ?_
     refine wpIn_rangeFunc_ownN (F := Fence.wide.inRound l) (n := 12) (l₀ := l) (r₀ := lr) rfl hlr2 (by omega) (gf := 177) (lb := #[.pointer (some ⟨qa, 0, none⟩), .pointer (some ⟨qb, 0, none⟩), .pointer (some ⟨qp, 0, none⟩)]) rfl trivial (enters_of Try.func177 (by kernel_rfl) rfl)
      (SeqStopsK.inRound l (numbered1_stops 11 p 0 (p ^ n) p2 p7 (by omega) (mon_bound p7 (by omega)) qa qb qp WL K0 K1' K2)) KpN.trans (KpN.put K0.lt K1'.lt K2.lt) (Below.refl _ _) (fun _ => rfl)
      (II p D A n WM.heap.size (w.heap.size) (w.heap.size + 1) (N1) bx ba bb bp qa qb qp L0 w W) (fun _ _ _ => False)
      (iI_own mB0 mB1 mB2 mB3 mB5 mB6 mB7 mK0 mK1 mK2 mw mW)
      (fun _ _ _ _ _ h _ _ => h)
      ⟨B0, B1, ⟨_, B2, (by rw [vals_nil, rowL_nil, List.append_nil]; exact B4.1.1)⟩, B3, B5, B6, B7, K0, K1', K2, hb, B8⟩
      (fun (y : NumN 0 (p ^ n)) (a' : Act) (WW : World) => ∃ b8, Blk WW b8 64 23 (ofN p y.1) ∧ a' = { tmps := #[(.agg (fdC (p : Int) D).toArray), (.int .i64 (n : Int)), (.pointer (some ⟨w.heap.size, 0, none⟩)), (.pointer (some ⟨w.heap.size + 1, 0, none⟩)), (.slice none 0 0), (.pointer (some ⟨N1, 0, none⟩)), (.pointer (some ⟨bx, 0, none⟩)), u7, (.pointer (some ⟨b8, 0, none⟩)), undef, (.pointer (some ⟨w.heap.size, 0, none⟩)), (.int .i64 (p : Int)), (.int .i64 (n : Int)), (.func (.func 177) #[] #[.pointer (some ⟨ba, 0, none⟩), .pointer (some ⟨bb, 0, none⟩), .pointer (some ⟨bp, 0, none⟩)]), (.agg (zb 64 (A))), (.pointer (some ⟨w.heap.size, 0, none⟩)), (.int .i64 (p : Int)), (.int .i64 (p : Int)), (.bool false), u19, u20, u21, u22, u23, u24, u25, u26, u27, u28, u29, u30, u31, u32, (.pointer (some ⟨w.heap.size, 0, none⟩)), (.int .i64 (p : Int)), (.int .i64 (n : Int)), (.func (.func 177) #[] #[.pointer (some ⟨qa, 0, none⟩), .pointer (some ⟨qb, 0, none⟩), .pointer (some ⟨qp, 0, none⟩)]), (.agg (zb 64 (ofN p y.1))), undef, undef, undef, undef, undef, undef, undef, undef, undef, undef, undef], defers := [] })
      (by
       rintro y a' _ W2 W' row ⟨b8, hB, rfl⟩ hg hr
       exact ⟨b8, by
        unfold Blk at *
        rw [hg.block b8 (Array.getElem?_eq_some_iff.1 hB).1 (fun e => by
         obtain ⟨_, o, ho, hc⟩ := hr b8 e.symm
         rw [hB] at ho; cases ho; cases hc)]
        exact hB, rfl⟩) ?assign2 ?body2 ?done2 ?stop2
     all_goals clear B0 B1 B2 B3 B4 B5 B6 B7 B8 K0 K1' K2 hb hlr2
     case stop2 =>
      intro c pre2 W2 _ h
      exact h.elim
     case assign2 =>
      intro l2 pre2 x W2 K hi hK
      refine regionIn_of (nd_of (by rfl)) (fun _ _ h => h) ?_
      unfold numEnc
      have hN : Blk (W2.alloc (.cells (zb 64 fun _ => 0) 23)) W2.heap.size 64 23 (fun _ => 0) := Blk.new W2 64 23 _
      go_wp2_with (first | rw [← z64] | (refine zsr (.tmp 8) (.tmp 37) (ofN p x.1) hN Try.size23 ?_))
      have hBB : Below W2.heap.size W2 ((W2.alloc (.cells (zb 64 fun _ => 0) 23)).setRow W2.heap.size (zb 64 (ofN p x.1))) := zr (zal _ _) (Nat.le_refl _) _
      have hi2 := hi
      obtain ⟨_, _, _, _, _, _, _, ka, kb, kp, _, _⟩ := hi
      refine hK _ _ ((KF.refl _ W2).below hBB (Nat.le_refl _)) ⟨hBB.block _ ka.lt, hBB.block _ kb.lt, hBB.block _ kp.lt⟩ (iI_below hi2 hBB) ⟨W2.heap.size, hN.row _, rfl⟩
     case done2 =>
      intro xs W3 hS hi
      have hE : rowL p D A (vals xs) = rowF p D A (p ^ n) := by rw [show vals xs = List.range' 0 (p ^ n) from hS]; exact rowL_row p D A (p ^ n)
      clear hS
      unfold II at hi
      rw [hE] at hi
      obtain ⟨B0, B1, ⟨v3, B2, S3⟩, _, B5, B6, B7, _, _, _, hb, B8⟩ := hi
      exact ⟨B8, (show KpN ba bb bp W W3 from ⟨One.same HA0.out B5, One.same HB0.out B6, One.same HP0.out B7⟩), (show OI p D n WM.heap.size (w.heap.size) (w.heap.size + 1) (N1) ba bb bp w (pre ++ [⟨x, hx⟩]) W3 by unfold OI; rw [HSn.out]; exact ⟨B0, B1, ⟨_, B2, S3⟩, B5, B6, B7, hb⟩)⟩
     case body2 =>
      rintro l2 pre2 ⟨y, hy⟩ a' W2 hl2 _ hi ⟨b8, B13, rfl⟩ hlen2
      unfold II at hi
      obtain ⟨B9, B10, ⟨vv, B11, hS⟩, B12, B15, B16, B17, B18, B19, B20, hb, B21⟩ := hi
      have GA0 := Lib.hid (show One W2 qa 2 (.int .i64 ((0 : Nat) : Int)) from B18)
      have GB0 := Lib.hid (show One W2 qb 2 (.int .i64 ((0 + p ^ n : Nat) : Int)) from B19)
      have GP0 := Lib.hid (show One W2 qp 2 (.int .i64 (p : Int)) from B20)
      have B22 := KF.refl WL.heap.size W2
      have hWM2 := hS.lt
      have mW2 : W.heap.size ≤ W2.heap.size := B21.lt
      have B14 := hS.toU
      have hLen2 : (L0 ++ rowL p D A (vals pre2)).length ≤ 2900 := HLEN.out A (vals pre2) (by rw [vals_len]; exact hlen2)
      have hqy : y < p ^ n := by rw [List.mem_range'_1] at hy; omega
      obtain ⟨B, hB⟩ : ∃ B, B = ofN p y := ⟨_, rfl⟩
      have hBp : ∀ k, B k < p := by rw [hB]; exact fun k => ofN_lt p0 y k
      have hVS : vals (pre2 ++ [⟨y, hy⟩]) = vals pre2 ++ [y] := vals_snoc _ _
      have hfm : fmB (p : Int) D A B = decide (deg (resP p (sqP p D B) A) < 0) := by
       have hd : deg B ≤ (n : Int) - 1 := by rw [hB]; exact deg_le (by omega) (fun k hk _ => ofN_sm p2 hqy (by omega))
       exact fmB_v (okA_of hpr (fun k _ => hAp k)) (okA_of hpr (fun k _ => hBp k)) (monB_of HMD.out) (by rw [HMD.out.1]; omega) (by rw [HMD.out.1]; omega)
      have HH1 := Lib.hid (HHA.out B (fun k _ => hBp k))
      rw [← hB] at B13
      obtain ⟨c, hc⟩ : ∃ c, c = fmB (p : Int) D A B := ⟨_, rfl⟩
      rw [← hfm, ← hc] at HH1
      have HC := Lib.hid (show c = fmB (p : Int) D A (ofN p y) by rw [hc, hB])
      have HB := Lib.hid hB
      have HVS := Lib.hid hVS
      clear hS hlen2 hc hfm hB hVS hqy hBp
      refine wpIn_block ?_
      refine wpIn_seq ?_
      refine regionIn_of (nd_of (by rfl)) (fun _ _ h => h) ?_
      have lt_B9 := B9.lt
      have lt_B10 := B10.lt
      have lt_B11 := B11.lt
      have lt_B12 := B12.lt
      have lt_B13 := B13.lt
      have lt_B14 := B14.lt
      have lt_B15 := B15.lt
      have lt_B16 := B16.lt
      have lt_B17 := B17.lt
      have lt_B18 := B18.lt
      have lt_B19 := B19.lt
      have lt_B20 := B20.lt
      have lt_B21 := B21.lt
      have lt_B22 := B22.lt
      go_wp2_with (first | rw [← z64] | rw [← frC_zero] | (refine zla (.tmp 6) B12 Try.underlying23 Try.size23 ?_) | (refine zla (.tmp 8) B13 Try.underlying23 Try.size23 ?_) | (refine wpList_store_rowv rfl 55 (.tmp 9) (.tmp 40) rfl _ rfl (frC A B).toArray rfl 55 _ ((Row.new W2 55 (frC (fun _ => 0) (fun _ => 0)).toArray)) 128 Try.size55 (by simp [frC_len]) (by simp [frC_len]) (frC_all _ _) ?_; try simp only [Act.put]) | (refine zbo rfl 55 _ rfl (frC A B).toArray (by rw [Array.toList_map]; exact built_fr _ _) ?_))
      have lt_B9 := B9.lt
      have lt_B10 := B10.lt
      have lt_B11 := B11.lt
      have lt_B12 := B12.lt
      have lt_B13 := B13.lt
      have lt_B14 := B14.lt
      have lt_B15 := B15.lt
      have lt_B16 := B16.lt
      have lt_B17 := B17.lt
      have lt_B18 := B18.lt
      have lt_B19 := B19.lt
      have lt_B20 := B20.lt
      have lt_B21 := B21.lt
      have lt_B22 := B22.lt
      have lhb := hb.size
      obtain ⟨W3, hwo, hzQ⟩ : ∃ v : World, v = ((W2.alloc (.cells (frC (fun _ => 0) (fun _ => 0)).toArray 55)).setRow (W2.heap.size) (frC A B).toArray) ∧ Row v (w.heap.size) 107 (fdC (p : Int) D).toArray ∧ One v (w.heap.size + 1) 2 (.int .i64 (n : Int)) ∧ One v (N1) 61 vv ∧ Blk v (bx) 64 23 (A) ∧ Blk v (b8) 64 23 (B) ∧ SlU v WM.heap.size W2.heap.size 55 128 vv (frRows (L0 ++ rowL p D A (vals pre2))) ∧ One v (ba) 2 (.int .i64 ((p ^ n : Nat) : Int)) ∧ One v (bb) 2 (.int .i64 ((p ^ n + p ^ n : Nat) : Int)) ∧ One v (bp) 2 (.int .i64 (p : Int)) ∧ One v (qa) 2 (.int .i64 ((0 : Nat) : Int)) ∧ One v (qb) 2 (.int .i64 ((0 + p ^ n : Nat) : Int)) ∧ One v (qp) 2 (.int .i64 (p : Int)) ∧ KF WM.heap.size W v ∧ KF WL.heap.size W2 v ∧ Row v (W2.heap.size) 55 (frC A B).toArray ∧ Below w.heap.size w v := ⟨_, rfl, ((B9.alloc (.cells (frC (fun _ => 0) (fun _ => 0)).toArray 55)).rowOther (by omega)), ((B10.alloc (.cells (frC (fun _ => 0) (fun _ => 0)).toArray 55)).rowOther (by omega)), ((B11.alloc (.cells (frC (fun _ => 0) (fun _ => 0)).toArray 55)).rowOther (by omega)), ((B12.alloc (.cells (frC (fun _ => 0) (fun _ => 0)).toArray 55)).rowOther (by omega)), ((B13.alloc (.cells (frC (fun _ => 0) (fun _ => 0)).toArray 55)).rowOther (by omega)), ((B14.alloc (.cells (frC (fun _ => 0) (fun _ => 0)).toArray 55)).rowOther (by omega)), ((B15.alloc (.cells (frC (fun _ => 0) (fun _ => 0)).toArray 55)).rowOther (by omega)), ((B16.alloc (.cells (frC (fun _ => 0) (fun _ => 0)).toArray 55)).rowOther (by omega)), ((B17.alloc (.cells (frC (fun _ => 0) (fun _ => 0)).toArray 55)).rowOther (by omega)), ((B18.alloc (.cells (frC (fun _ => 0) (fun _ => 0)).toArray 55)).rowOther (by omega)), ((B19.alloc (.cells (frC (fun _ => 0) (fun _ => 0)).toArray 55)).rowOther (by omega)), ((B20.alloc (.cells (frC (fun _ => 0) (fun _ => 0)).toArray 55)).rowOther (by omega)), ((B21.alloc (.cells (frC (fun _ => 0) (fun _ => 0)).toArray 55)).rowOther (by omega)), ((B22.alloc (.cells (frC (fun _ => 0) (fun _ => 0)).toArray 55)).rowOther (by omega)), ((Row.new W2 55 (frC (fun _ => 0) (fun _ => 0)).toArray).row (frC A B).toArray), (zr (hb.alloc (by have := hb.size; simp; omega) (.cells (frC (fun _ => 0) (fun _ => 0)).toArray 55)) (by omega) _)⟩
      rw [← hwo]
      clear hwo B10 B11 B12 B13 B14 B15 B16 B17 B18 B19 B20 B21 B22 B9 hb
      obtain ⟨B9, B10, B11, B12, B13, B14, B15, B16, B17, B18, B19, B20, B21, B22, B23, hb⟩ := hzQ
      obtain ⟨N2, hNN⟩ : ∃ n : Nat, n = W2.heap.size := ⟨_, rfl⟩
      rw [← hNN] at lt_B9 lt_B10 lt_B11 lt_B12 lt_B13 lt_B14 lt_B15 lt_B16 lt_B17 lt_B18 lt_B19 lt_B20 lt_B21 lt_B22 lhb B23 ⊢
      clear hNN
      have zN2_9 := lt_B9
      have zN2_10 := lt_B10
      have zN2_11 := lt_B11
      have zN2_12 := lt_B12
      have zN2_13 := lt_B13
      have zN2_14 := lt_B14
      have zN2_15 := lt_B15
      have zN2_16 := lt_B16
      have zN2_17 := lt_B17
      have zN2_18 := lt_B18
      have zN2_19 := lt_B19
      have zN2_20 := lt_B20
      have zN2_21 := lt_B21
      have zN2_22 := lt_B22
      have zN2 := lhb
      clear lt_B9 lt_B10 lt_B11 lt_B12 lt_B13 lt_B14 lt_B15 lt_B16 lt_B17 lt_B18 lt_B19 lt_B20 lt_B21 lt_B22 lhb
      try simp only [Act.put, pA, pB, pC]
      refine wpIn_seq ?_
      refine regionIn_of (nd_of (by rfl)) (fun _ _ h => h) ?_
      cases c with
      | false =>
       go_wp2_with (first | (refine zlr rfl 107 (.tmp 2) rfl _ rfl 107 (fdC (p : Int) D).toArray (B9) _ Try.underlying107 rfl 65 Try.size107 (by simp [fdC_len]) ?_) | (refine zlr rfl 55 (.tmp 9) rfl _ rfl 55 (frC A B).toArray (B23) _ Try.underlying55 rfl 128 Try.size55 (by simp [frC_len]) ?_) | (go_at_call 126; refine (HH1.out _).mono ?_; rintro e W4 ⟨rfl, hW4⟩; replace B9 := B9.zw hW4; replace B10 := B10.zw hW4; replace B11 := B11.zw hW4; replace B12 := B12.zw hW4; replace B13 := B13.zw hW4; replace B14 := B14.zw hW4; replace B15 := B15.zw hW4; replace B16 := B16.zw hW4; replace B17 := B17.zw hW4; replace B18 := B18.zw hW4; replace B19 := B19.zw hW4; replace B20 := B20.zw hW4; replace B21 := B21.zw hW4; replace B22 := B22.zw hW4; replace B23 := B23.zw hW4; replace hb := (hb).trans (hW4.mono (hb).size)))
       refine wpIn_cond_false rfl ?_
       refine wpIn_skip ?_
       have HN := rowL_no (l := vals pre2) HC.out.symm
       exact ⟨B22, (show KpN qa qb qp W2 W4 from ⟨One.same GA0.out B18, One.same GB0.out B19, One.same GP0.out B20⟩), (show II p D A n WM.heap.size (w.heap.size) (w.heap.size + 1) (N1) bx ba bb bp qa qb qp L0 w W (pre2 ++ [⟨y, hy⟩]) W4 by unfold II; rw [HVS.out]; exact ⟨B9, B10, ⟨_, B11, (by rw [HN]; exact B14.1.1)⟩, B12, B15, B16, B17, B18, B19, B20, hb, B21⟩)⟩
      | true =>
       go_wp2_with (first | (refine zlr rfl 107 (.tmp 2) rfl _ rfl 107 (fdC (p : Int) D).toArray (B9) _ Try.underlying107 rfl 65 Try.size107 (by simp [fdC_len]) ?_) | (refine zlr rfl 55 (.tmp 9) rfl _ rfl 55 (frC A B).toArray (B23) _ Try.underlying55 rfl 128 Try.size55 (by simp [frC_len]) ?_) | (go_at_call 126; refine (HH1.out _).mono ?_; rintro e W4 ⟨rfl, hW4⟩; replace B9 := B9.zw hW4; replace B10 := B10.zw hW4; replace B11 := B11.zw hW4; replace B12 := B12.zw hW4; replace B13 := B13.zw hW4; replace B14 := B14.zw hW4; replace B15 := B15.zw hW4; replace B16 := B16.zw hW4; replace B17 := B17.zw hW4; replace B18 := B18.zw hW4; replace B19 := B19.zw hW4; replace B20 := B20.zw hW4; replace B21 := B21.zw hW4; replace B22 := B22.zw hW4; replace B23 := B23.zw hW4; replace hb := (hb).trans (hW4.mono (hb).size)))
       refine wpIn_cond_true rfl ?_
       refine regionIn_of (nd_of (by rfl)) (fun _ _ h => h) ?_
       have HN := Lib.hid (rowL_yes (l := vals pre2) HC.out.symm)
       have lu_9 := B9.lt
       have lu_10 := B10.lt
       have lu_11 := B11.lt
       have lu_12 := B12.lt
       have lu_15 := B15.lt
       have lu_16 := B16.lt
       have lu_17 := B17.lt
       have lu_18 := B18.lt
       have lu_19 := B19.lt
       have lu_20 := B20.lt
       go_wp2_with (first | (refine zlo rfl 61 (.tmp 5) rfl _ rfl 61 vv B11 _ Try.underlying61 rfl ?_) | (refine zlr rfl 55 (.tmp 9) rfl _ rfl 55 (frC A B).toArray B23 _ Try.underlying55 rfl 128 Try.size55 (by simp [frC_len]) ?_) | (refine wpList_build1 rfl 61 _ (frC A B) 128 rfl 55 Try.underlying61 Try.elem55 (by decide) (by decide) (frC_len _ _) rfl ?_; intro wa hrow hba; have eB9 := B9.zw hba; have eB10 := B10.zw hba; have eB11 := B11.zw hba; have eB12 := B12.zw hba; have eB13 := B13.zw hba; have eB14 := B14.zw hba; have eB15 := B15.zw hba; have eB16 := B16.zw hba; have eB17 := B17.zw hba; have eB18 := B18.zw hba; have eB19 := B19.zw hba; have eB20 := B20.zw hba; have eB21 := B21.zw hba; have eB22 := B22.zw hba; have eB23 := B23.zw hba; have ehb := hb.trans (hba.mono hb.size)) | (at_builtin; refine wpList_append_sl _ rfl _ _ 61 rfl WM.heap.size 55 (.agg (frC (fun _ => 0) (fun _ => 0)).toArray) 128 128 Try.underlying61 Try.infoFrm (by simp [Value.cells, frC_len]) (by decide) vv _ rfl eB14.1.1 W4.heap.size (frC A B) rfl (frC_len _ _) hrow.range (frC_ones _ _) (by rw [frRows_len]; unfold maxLen; omega) (by rw [frRows_len]; omega) ?_; intro vp wp hSp hg1; have fB9 := eB9.grownE eB14.1.1 hg1 (by decide); have fB10 := eB10.grownE eB14.1.1 hg1 (by decide); have fB11 := eB11.grownE eB14.1.1 hg1 (by decide); have fB12 := eB12.grownE eB14.1.1 hg1 (by decide); have fB15 := eB15.grownE eB14.1.1 hg1 (by decide); have fB16 := eB16.grownE eB14.1.1 hg1 (by decide); have fB17 := eB17.grownE eB14.1.1 hg1 (by decide); have fB18 := eB18.grownE eB14.1.1 hg1 (by decide); have fB19 := eB19.grownE eB14.1.1 hg1 (by decide); have fB20 := eB20.grownE eB14.1.1 hg1 (by decide); have fB21 := eB21.grown hg1 (fun r e => by obtain ⟨cur, hc⟩ := eB14.1.1.ownCells r e; exact ⟨cur, _, _, hc⟩); have fB22 := eB22.grown hg1 (fun r e => by obtain ⟨cur, hc⟩ := eB14.1.1.ownCells r e; exact ⟨cur, _, _, hc⟩); have fhb := ehb.grown hg1 ehb.size (fun k e => Nat.le_trans lw (eB14.1.1.own k e))) | (refine wpList_store_oneV rfl 61 (.tmp 5) (.tmp 47) rfl _ rfl vp rfl hSp.one 61 vv fB11 Try.sizeSlF ?_))
       have fl : WM.heap.size ≤ wp.heap.size := hSp.lt
       have gB9 : Row (wp.setRow (N1) #[vp]) (w.heap.size) 107 (fdC (p : Int) D).toArray := fB9.rowOther (by omega)
       have gB10 : One (wp.setRow (N1) #[vp]) (w.heap.size + 1) 2 (.int .i64 (n : Int)) := fB10.rowOther (by omega)
       have gB11 : One (wp.setRow (N1) #[vp]) (N1) 61 vp := fB11.row vp
       have gB12 : Blk (wp.setRow (N1) #[vp]) (bx) 64 23 (A) := fB12.rowOther (by omega)
       have gB15 : One (wp.setRow (N1) #[vp]) (ba) 2 (.int .i64 ((p ^ n : Nat) : Int)) := fB15.rowOther (by omega)
       have gB16 : One (wp.setRow (N1) #[vp]) (bb) 2 (.int .i64 ((p ^ n + p ^ n : Nat) : Int)) := fB16.rowOther (by omega)
       have gB17 : One (wp.setRow (N1) #[vp]) (bp) 2 (.int .i64 (p : Int)) := fB17.rowOther (by omega)
       have gB18 : One (wp.setRow (N1) #[vp]) (qa) 2 (.int .i64 ((0 : Nat) : Int)) := fB18.rowOther (by omega)
       have gB19 : One (wp.setRow (N1) #[vp]) (qb) 2 (.int .i64 ((0 + p ^ n : Nat) : Int)) := fB19.rowOther (by omega)
       have gB20 : One (wp.setRow (N1) #[vp]) (qp) 2 (.int .i64 (p : Int)) := fB20.rowOther (by omega)
       have gS : SlL (wp.setRow (N1) #[vp]) WM.heap.size 55 128 vp (frRows (L0 ++ rowL p D A (vals pre2)) ++ [frC A B]) := hSp.rowOther (by omega)
       have gB21 : KF WM.heap.size W (wp.setRow (N1) #[vp]) := fB21.rowOther (.inl (by omega))
       have gB22 : KF WL.heap.size W2 (wp.setRow (N1) #[vp]) := fB22.rowOther (.inl (by omega))
       have ghb : Below w.heap.size w (wp.setRow (N1) #[vp]) := zr fhb (by omega) _
       replace B9 := gB9
       replace B10 := gB10
       replace B11 := gB11
       replace B12 := gB12
       replace B15 := gB15
       replace B16 := gB16
       replace B17 := gB17
       replace B18 := gB18
       replace B19 := gB19
       replace B20 := gB20
       replace B21 := gB21
       replace B22 := gB22
       have hb := ghb
       exact ⟨B22, (show KpN qa qb qp W2 (wp.setRow (N1) #[vp]) from ⟨One.same GA0.out B18, One.same GB0.out B19, One.same GP0.out B20⟩), (show II p D A n WM.heap.size (w.heap.size) (w.heap.size + 1) (N1) bx ba bb bp qa qb qp L0 w W (pre2 ++ [⟨y, hy⟩]) (wp.setRow (N1) #[vp]) by unfold II; rw [HVS.out]; exact ⟨B9, B10, ⟨_, B11, (by rw [HN.out, ← HB.out, ← List.append_assoc, frRows_snoc]; exact gS)⟩, B12, B15, B16, B17, B18, B19, B20, hb, B21⟩)⟩
end Go.Proofs.Ytoncepgcfifgbaa
end
section
namespace Go.Proofs.Ytoncepgcfifgbaa
open Go Go.RowKit
set_option linter.unusedVariables false
set_option linter.unusedSimpArgs false
theorem forms_given (D : Nat → Nat) (n g m : Nat) (W : World) (h : dcB (n : Int) D = true) (hd : deg D = ((2 * g + 1 : Nat) : Int)) (hm : m ≤ g) : Calls Try.prog 170 #[.agg (fdC (n : Int) D).toArray, .int .i64 (m : Int)] W (FoD n D m W) := by
 obtain ⟨n', g', e, hpr, lD, hg, hD⟩ := dcB_out h
 obtain rfl : n = n' := by omega
 exact formsOfDegree_any n m D W hpr lD (by omega)
end Go.Proofs.Ytoncepgcfifgbaa
end
section
namespace Go.Proofs.Ytoncepgcfifgbaa
open Go.ChangeShapes Go.WideShapes Go.ChangeAt Go.RowKit
section
variable {H : Type} {enc : TypeId × Value → H} {P : Program}
theorem trod_int_to {e : TypeId} {k : IntKind} (he : P.underlying e = some (.int k)) {w : World} (w' : World) {b : Nat} (b' : Nat) {s : Nat → Bool} (s' : Nat → Bool) {h : Bool} (h' : Bool) {m : Nat} {c : List Value} {x : DataW H × List MemPlace}
 (hx : DataW.trod enc P w b s h m e c = some x) : DataW.trod enc P w' b' s' h' m e c = some x := by
 cases m with
 | zero => simp [DataW.trod] at hx
 | succ m =>
  obtain ⟨n, rfl, rfl, hw⟩ := DataW.trod_int he hx
  unfold DataW.trod
  rw [he]
  simp [hw]
theorem trod_int_same {e : TypeId} {k : IntKind} (he : P.underlying e = some (.int k)) (w w' : World) (b b' : Nat) (s s' : Nat → Bool) (h h' : Bool) (m : Nat) (c : List Value) :
 DataW.trod enc P w b s h m e c = DataW.trod enc P w' b' s' h' m e c := by
 cases h1 : DataW.trod enc P w b s h m e c with
 | some x => rw [trod_int_to he w' b' s' h' h1]
 | none =>
  cases h2 : DataW.trod enc P w' b' s' h' m e c with
  | none => rfl
  | some x => rw [trod_int_to he w b s h h2] at h1; cases h1
theorem open_barr {t e : TypeId} {n : Nat} {w : World} {r : Reach} {b0 base : Nat} {spare : Nat → Bool} {held : Bool} {v : Value} {d : DataW H} {p : List MemPlace}
 (ht : P.underlying t = some (.array n e)) (he : P.underlying e = some (.int .u8)) (hC : P.cellsOf t = n) (hCe : P.cellsOf e = 1)
 (hv : Value.okWide P w r b0 t v) (h : DataW.Trod enc P w base spare held t v d p) :
 ∃ f : Nat → Nat, byte f ∧ v = .agg (zb n f) ∧ p = [] ∧ ∀ (w' : World) (base' : Nat) (spare' : Nat → Bool) (held' : Bool), DataW.Trod enc P w' base' spare' held' t v d [] := by
 unfold Value.okWide at hv
 rw [ht] at hv
 obtain ⟨cs, rfl, hsz, _⟩ := hv
 obtain ⟨fuel, hf⟩ := h
 obtain ⟨xs, m, hm, hx, hlen, hxl, hel⟩ := DataW.trod_array ht hf
 subst hm
 have hcs : cs.size = n := by rw [hsz, hC]
 have each : ∀ i, i < n → ∃ k : Nat, k < 256 ∧ cs[i]? = some (.int .u8 (k : Int)) ∧ xs[i]? = some (.lit (.int .u8 (k : Int)), []) := by
  intro i hi
  have h1 := hel i hi
  have hxi : xs[i]? = some (xs[i]'(by omega)) := List.getElem?_eq_getElem (by omega)
  rw [hxi, hCe] at h1
  obtain ⟨z, hz1, hz2, hz3⟩ := DataW.trod_int he h1
  have hb := bounds_u8 hz3
  obtain ⟨k, rfl⟩ := Int.eq_ofNat_of_zero_le hb.1
  refine ⟨k, by omega, ?_, by rw [hxi, hz2]⟩
  have h2 : ((cs.toList.drop (i * 1)).take 1)[0]? = some (.int .u8 (k : Int)) := by
   have h3 : (Value.agg cs).cells.toList = cs.toList := rfl
   rw [← h3, hz1]; rfl
  simpa using h2
 refine ⟨fun i => match cs[i]? with | some (.int _ z) => if i < n then z.toNat else 0 | _ => 0, ?_, ?_, ?_, ?_⟩
 · intro i
   by_cases hi : i < n
   · obtain ⟨k, hk, hc, _⟩ := each i hi
     simp only [hc, hi, if_true, Int.toNat_natCast]
     exact hk
   · have : cs[i]? = none := Array.getElem?_eq_none (by omega)
     simp [this]
 · congr 1
   apply Array.ext_getElem?
   intro i
   by_cases hi : i < n
   · obtain ⟨k, hk, hc, _⟩ := each i hi
     rw [bcells_get hi]
     simp only [hc, hi, if_true, Int.toNat_natCast]
   · rw [Array.getElem?_eq_none (by omega), Array.getElem?_eq_none (by rw [zbs]; omega)]
 · have hp : p = xs.flatMap (·.2) := by simpa using congrArg Prod.snd hx
   rw [hp]
   rw [List.flatMap_eq_nil_iff]
   intro x hxm
   obtain ⟨i, hi⟩ := List.getElem?_of_mem hxm
   have hin : i < n := by rw [← hxl]; exact (List.getElem?_eq_some_iff.1 hi).1
   obtain ⟨k, _, _, h2⟩ := each i hin
   rw [hi] at h2
   injection h2 with h2
   rw [h2]
 · intro w' base' spare' held'
   refine ⟨m + 1, ?_⟩
   have e1 : DataW.trod enc P w' base' spare' held' (m + 1) t (Value.agg cs).cells.toList = DataW.trod enc P w base spare held (m + 1) t (Value.agg cs).cells.toList := by
    unfold DataW.trod
    rw [ht]
    simp only [trod_int_same he w' w base' base spare' spare held' held m]
   rw [e1, hf]
   have hp : p = xs.flatMap (·.2) := by simpa using congrArg Prod.snd hx
   have : p = [] := by
    rw [hp, List.flatMap_eq_nil_iff]
    intro x hxm
    obtain ⟨i, hi⟩ := List.getElem?_of_mem hxm
    have hin : i < n := by rw [← hxl]; exact (List.getElem?_eq_some_iff.1 hi).1
    obtain ⟨k, _, _, h2⟩ := each i hin
    rw [hi] at h2
    injection h2 with h2
    rw [h2]
   rw [this]
/-- the row's last step where the call has only made new memory, and the row does not say 'again' -/
theorem post_of_below0 {f : Func} {s : ChangeSpec} {apart fresh handsOn : Bool} {W W' : World} {args : Array Value} {v : Value} {ds gs : List (DataW H)} {before pa pv : List MemPlace}
 (hW : DataW.Whole enc P f.params.toList s.vars apart W args.toList ds gs before)
 (hres : ∀ (b : Nat) (sp : Nat → Bool) (hd : Bool), DataW.TrodAll enc P W' b sp hd f.resultTypes.toList (v.resultList f.resultTypes.size) (s.fn H (ds ++ gs)).results [])
 (hargs : ∀ sp : Nat → Bool, (∀ p ∈ before, sp p.block = true) → DataW.TrodAll enc P W' 0 sp true f.params.toList args.toList (s.fn H (ds ++ gs)).args pa)
 (hvars : ∀ sp : Nat → Bool, (∀ p ∈ before, sp p.block = true) → DataW.TrodVars enc P W' sp s.vars (s.fn H (ds ++ gs)).vars pv)
 (hps : before = pa ++ pv) (hb : Below W.heap.size W W') : s.post enc P f apart fresh handsOn false W args v W' := by
 have held : ∀ p ∈ before, (fun b => decide (b < W.heap.size)) p.block = true := fun p hp => by simpa using hW.lt p hp
 refine ⟨ds, gs, before, [], pa, pv, hW, hres _ _ _, hargs _ held, hvars _ held, ?_, fun h => by cases h⟩
 refine World.keptBut_mono (fun p hp => ⟨hp, .inr ?_⟩) (hb.frame (· ∈ before))
 rw [hps, List.mem_append] at hp
 exact hp
end
end Go.Proofs.Ytoncepgcfifgbaa
end
section
namespace Go.Proofs.Ytoncepgcfifgbaa
open Go
def cutW : List Char := [Char.ofNat 99, Char.ofNat 117, Char.ofNat 116]
theorem strip_cut (rest : List (List Char)) : stripLifts liftWords (cutW :: rest) = ([], cutW :: rest) := by
 have key : ∀ os : List String, (os.all fun o => !(cutW == o.toList)) = true → stripLifts os (cutW :: rest) = ([], cutW :: rest) := by
  intro os
  induction os with
  | nil => intro _; rfl
  | cons o os ih =>
   intro h
   simp only [List.all_cons, Bool.and_eq_true, Bool.not_eq_true'] at h
   unfold stripLifts
   rw [h.1]
   exact ih h.2
 exact key _ (by decide +kernel)
theorem make_cut {P : Program} {rest : List (List Char)} (h : behindMainWord (wordsSigns P.initOrder.toList) = cutW :: rest) : P.make = some .cut := by
 unfold Program.make
 rw [h]
 have e1 : (cutW == "gc".toList || cutW == "spec".toList) = false := by decide +kernel
 have e2 : (cutW == "cut".toList) = true := by decide +kernel
 simp only [e1, e2, Bool.true_or]
 rfl
theorem mayEnter_cut {P : Program} {rest : List (List Char)} (h : behindMainWord (wordsSigns P.initOrder.toList) = cutW :: rest) (h1 : P.laysLater = false) (h2 : P.bearsReflect = false) (h3 : P.doorFits [] = true) : P.mayEnter = true := by
 unfold Program.mayEnter
 rw [h]
 have e2 : (some cutW == some "cut".toList) = true := by decide +kernel
 simp only [strip_cut, h1, h2, h3, List.head?_cons, e2]
 simp
theorem lifts_cut {P : Program} {rest : List (List Char)} (h : behindMainWord (wordsSigns P.initOrder.toList) = cutW :: rest) : P.liftsFinal = false := by
 unfold Program.liftsFinal Program.headLifts
 rw [h]
 have e2 : (some cutW == some "cut".toList) = true := by decide +kernel
 have e3 : (some cutW == some "carried".toList) = false := by decide +kernel
 simp only [strip_cut, List.head?_cons, e2, e3]
 simp
/-- the signs of the head, and its words behind the first three -/
def initRest : List (List Nat) := [[97, 116], [108, 111, 111, 112, 46, 101, 120, 97, 109, 112, 108, 101, 47, 103, 48, 49, 50, 52, 53, 47, 108, 97, 119, 115, 46, 70, 110, 69, 120, 97, 99, 116, 68, 101, 114, 105, 118, 97, 116, 105, 118, 101, 79, 102], [108, 111, 111, 112, 46, 101, 120, 97, 109, 112, 108, 101, 47, 103, 48, 49, 50, 52, 53, 47, 108, 97, 119, 115, 46, 70, 110, 69, 120, 97, 99, 116, 80, 111, 119, 101, 114, 79, 102], [108, 111, 111, 112, 46, 101, 120, 97, 109, 112, 108, 101, 47, 103, 48, 49, 50, 52, 53, 47, 108, 97, 119, 115, 46, 70, 110, 69, 120, 97, 99, 116, 80, 111, 119, 101, 114, 77, 111, 100, 117, 108, 111], [108, 111, 111, 112, 46, 101, 120, 97, 109, 112, 108, 101, 47, 103, 48, 49, 50, 52, 53, 47, 108, 97, 119, 115, 46, 70, 110, 69, 120, 97, 99, 116, 77, 111, 110, 105, 99, 80, 111, 108, 121, 115], [108, 111, 111, 112, 46, 101, 120, 97, 109, 112, 108, 101, 47, 103, 48, 49, 50, 52, 53, 47, 108, 97, 119, 115, 46, 70, 110, 69, 120, 97, 99, 116, 73, 115, 73, 114, 114, 101, 100, 117, 99, 105, 98, 108, 101], [108, 111, 111, 112, 46, 101, 120, 97, 109, 112, 108, 101, 47, 103, 48, 49, 50, 52, 53, 47, 108, 97, 119, 115, 46, 70, 110, 69, 120, 97, 99, 116, 73, 114, 114, 101, 100, 117, 99, 105, 98, 108, 101, 115, 79, 102], [108, 111, 111, 112, 46, 101, 120, 97, 109, 112, 108, 101, 47, 103, 48, 49, 50, 52, 53, 47, 108, 97, 119, 115, 46, 70, 110, 69, 120, 97, 99, 116, 70, 97, 99, 116, 111, 114, 115, 79, 102], [108, 111, 111, 112, 46, 101, 120, 97, 109, 112, 108, 101, 47, 103, 48, 49, 50, 52, 53, 47, 108, 97, 119, 115, 46, 70, 110, 69, 120, 97, 99, 116, 77, 111, 101, 98, 105, 117, 115, 79, 102], [108, 111, 111, 112, 46, 101, 120, 97, 109, 112, 108, 101, 47, 103, 48, 49, 50, 52, 53, 47, 108, 97, 119, 115, 46, 70, 110, 69, 120, 97, 99, 116, 69, 117, 108, 101, 114, 79, 102], [108, 111, 111, 112, 46, 101, 120, 97, 109, 112, 108, 101, 47, 103, 48, 49, 50, 52, 53, 47, 108, 97, 119, 115, 46, 70, 110, 69, 120, 97, 99, 116, 79, 114, 100, 101, 114, 77, 111, 100, 117, 108, 111], [108, 111, 111, 112, 46, 101, 120, 97, 109, 112, 108, 101, 47, 103, 48, 49, 50, 52, 53, 47, 108, 97, 119, 115, 46, 70, 110, 69, 120, 97, 99, 116, 80, 114, 105, 109, 105, 116, 105, 118, 101, 79, 102], [108, 111, 111, 112, 46, 101, 120, 97, 109, 112, 108, 101, 47, 103, 48, 49, 50, 52, 53, 47, 108, 97, 119, 115, 46, 70, 110, 69, 120, 97, 99, 116, 73, 115, 70, 105, 101, 108, 100], [108, 111, 111, 112, 46, 101, 120, 97, 109, 112, 108, 101, 47, 103, 48, 49, 50, 52, 53, 47, 108, 97, 119, 115, 46, 70, 110, 69, 120, 97, 99, 116, 73, 115, 68, 105, 115, 99, 114, 105, 109, 105, 110, 97, 110, 116], [108, 111, 111, 112, 46, 101, 120, 97, 109, 112, 108, 101, 47, 103, 48, 49, 50, 52, 53, 47, 108, 97, 119, 115, 46, 70, 110, 69, 120, 97, 99, 116, 73, 115, 70, 111, 114, 109], [108, 111, 111, 112, 46, 101, 120, 97, 109, 112, 108, 101, 47, 103, 48, 49, 50, 52, 53, 47, 108, 97, 119, 115, 46, 70, 110, 69, 120, 97, 99, 116, 82, 101, 100, 117, 99, 101, 70, 111, 114, 109], [108, 111, 111, 112, 46, 101, 120, 97, 109, 112, 108, 101, 47, 103, 48, 49, 50, 52, 53, 47, 108, 97, 119, 115, 46, 70, 110, 69, 120, 97, 99, 116, 82, 101, 100, 117, 99, 101, 100, 70, 111, 114, 109, 115], [108, 111, 111, 112, 46, 101, 120, 97, 109, 112, 108, 101, 47, 103, 48, 49, 50, 52, 53, 47, 108, 97, 119, 115, 46, 70, 110, 69, 120, 97, 99, 116, 67, 108, 97, 115, 115, 78, 117, 109, 98, 101, 114], [108, 111, 111, 112, 46, 101, 120, 97, 109, 112, 108, 101, 47, 103, 48, 49, 50, 52, 53, 47, 108, 97, 119, 115, 46, 70, 110, 69, 120, 97, 99, 116, 67, 111, 109, 112, 111, 115, 101, 70, 111, 114, 109, 115], [108, 111, 111, 112, 46, 101, 120, 97, 109, 112, 108, 101, 47, 103, 48, 49, 50, 52, 53, 47, 108, 97, 119, 115, 46, 70, 110, 69, 120, 97, 99, 116, 73, 110, 118, 101, 114, 115, 101, 70, 111, 114, 109], [108, 111, 111, 112, 46, 101, 120, 97, 109, 112, 108, 101, 47, 103, 48, 49, 50, 52, 53, 47, 108, 97, 119, 115, 46, 70, 110, 69, 120, 97, 99, 116, 80, 111, 119, 101, 114, 79, 102, 70, 111, 114, 109], [108, 111, 111, 112, 46, 101, 120, 97, 109, 112, 108, 101, 47, 103, 48, 49, 50, 52, 53, 47, 108, 97, 119, 115, 46, 70, 110, 69, 120, 97, 99, 116, 79, 114, 100, 101, 114, 79, 102, 70, 111, 114, 109], [108, 111, 111, 112, 46, 101, 120, 97, 109, 112, 108, 101, 47, 103, 48, 49, 50, 52, 53, 47, 108, 97, 119, 115, 46, 70, 110, 69, 120, 97, 99, 116, 71, 114, 111, 117, 112, 79, 114, 100, 101, 114, 115]]
def initSigns : List Nat := [104, 97, 114, 110, 101, 115, 115, 32, 54, 99, 102, 49, 53, 49, 53, 53, 52, 52, 52, 99, 55, 99, 57, 49, 55, 97, 101, 98, 56, 53, 98, 101, 56, 49, 49, 51, 101, 55, 102, 51, 55, 49, 102, 53, 49, 49, 53, 98, 55, 51, 55, 54, 53, 100, 53, 55, 49, 55, 50, 97, 102, 52, 98, 51, 97, 98, 97, 55, 100, 98, 53, 50, 32, 99, 117, 116] ++ initRest.flatMap fun x => 32 :: x
theorem init_split : behindMainWord (wordsSigns (initSigns.map Char.ofNat)) = cutW :: initRest.map (fun w => w.map Char.ofNat) := by kernel_rfl
theorem init_order : Try.prog.initOrder = String.ofList (initSigns.map Char.ofNat) := by kernel_rfl
theorem init_cut : behindMainWord (wordsSigns Try.prog.initOrder.toList) = cutW :: initRest.map (fun w => w.map Char.ofNat) :=
 (congrArg (fun s : String => behindMainWord (wordsSigns s.toList)) init_order).trans ((congrArg (fun l => behindMainWord (wordsSigns l)) String.toList_ofList).trans init_split)
theorem Try.laysLater : Try.prog.laysLater = false := by kernel_rfl
theorem Try.bearsReflect : Try.prog.bearsReflect = false := by kernel_rfl
theorem Try.doorFits : Try.prog.doorFits [] = true := by kernel_rfl
theorem Try.mayEnter : Try.pinned.checked.prog.mayEnter = true := mayEnter_cut init_cut Try.laysLater Try.bearsReflect Try.doorFits
theorem Try.liftsFinal : Try.pinned.checked.prog.liftsFinal = false := lifts_cut init_cut
theorem Try.make : Try.pinned.checked.prog.make = some .cut := make_cut init_cut
end Go.Proofs.Ytoncepgcfifgbaa
end
