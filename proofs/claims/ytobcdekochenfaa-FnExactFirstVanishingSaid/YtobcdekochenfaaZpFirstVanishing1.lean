/-
  What the rows of this claim rest on: arrays of bytes, walks of the functions, plain mathematics.
-/
import Derived.Test.YtobcdekochenfaaZp2
import Derived.Laws.StructEq
import Derived.WalkKit
import Derived.WalkSpells
import Derived.WalkLawsBesides
import Derived.Lib.Hide
import Derived.Laws.Rows
import Derived.Laws.CopyOwn
import Derived.Deep.QuietTactic
import Derived.Deep.WholeRow
import Derived.Deep.Draws
import Derived.Deep.MidRow
import Derived.Deep.CutRange
import Derived.Deep.DeepCutAuto
import Derived.Deep.RegionHeld3
import Derived.BigQuiet
import Derived.BigRegion
import Derived.Test.YtobcdekochenfaaRows
import Derived.Great.BuildSlice
import Derived.ScopeJumps
import Derived.Laws.Tables
import Derived.Deep.CutBlock
import Derived.OwnWalk
import Derived.RangeFuncNested
import Derived.RangeFuncBound
import Derived.RangeFuncCalls
import Derived.RangeFuncLeaves
import Derived.Shelf.Abstract
import Derived.Shelf.RegionOpen
import Derived.OwnWalkIn
import Derived.TacticsInMore
import Derived.LoopNIn
import Derived.LoopIn
import Derived.Maps.OwnOps
import Derived.DeepKeys4
import Derived.Carry
import Derived.Test.YtobcdekochenfaaProg
section
namespace Go.Proofs.Ytobcdekochenfaa
open Go Go.RowKit
/-- the first n cells are the same -/
def eqN (n : Nat) (f g : Nat → Nat) : Bool := (List.range n).all fun i => f i == g i
theorem eqN_iff {n : Nat} {f g : Nat → Nat} : eqN n f g = true ↔ ∀ i, i < n → f i = g i := by
 simp [eqN, List.all_eq_true]
section
variable {P : Program}
theorem run_part_byte (w : World) (e n i : Nat) (f : Nat → Nat) (he : P.underlying e = some (.int .u8)) (hi : i < n) : (part e (zb n f) (i * 1)).run P w = .ok (.int .u8 (f i : Int)) w := by
 have h := bcells_get (f := f) hi
 rw [Nat.mul_one]
 unfold part isAgg
 simp only [Sem.run_bind, run_underlying he, Result.andThen_ok, Sem.run_pure]
 simp [h]
theorem zeb (w : World) (d t e n : Nat) (f g : Nat → Nat) (hu : P.underlying t = some (.array n e)) (he : P.underlying e = some (.int .u8)) (hs : (P.info? e).map (·.size) = some 1) :
 (Op.equalIn (d + 2) t (.agg (zb n f)) (.agg (zb n g))).run P w = .ok (eqN n f g) w := by
 have hsz : (sizeOf e).run P w = .ok 1 w := by
  cases hq : P.info? e with
  | none => simp [hq] at hs
  | some i =>
   have : i.size = 1 := by simpa [hq] using hs
   simp [sizeOf, typeInfo, hq, this, Sem.run_bind]
 rw [Op.equalIn]
 simp only [Sem.run_bind, run_underlying hu, Result.andThen_ok, hsz]
 rw [Std.Legacy.Range.forIn_eq_forIn_range']
 have key : ∀ l : List Nat, (∀ i, i ∈ l → i < n) → (forIn l ((none : Option Bool), ()) fun i __s => (do
           let __do_lift ← part e (zb n f) (i * 1)
           let __do_lift_1 ← part e (zb n g) (i * 1)
           let __do_lift ← Op.equalIn (d + 1) e __do_lift __do_lift_1
           if (!__do_lift) = true then pure (ForInStep.done (some false, ())) else pure (ForInStep.yield (none, ())) : Sem (ForInStep (Option Bool × Unit)))).run P w = .ok (if (l.all fun i => f i == g i) then none else some false, ()) w := by
  intro l
  induction l with
  | nil => intro _; simp
  | cons i l ih =>
   intro hl
   have hi := hl i (by simp)
   rw [List.forIn_cons]
   simp only [Sem.run_bind, run_part_byte w e n i f he hi, run_part_byte w e n i g he hi, Result.andThen_ok, run_equalIn_int w d e .u8 .u8 _ _ he]
   by_cases h : f i = g i
   · have h' : ((f i : Int) == (g i : Int)) = true := by simp [h]
     rw [h']
     simp only [Bool.not_true, Bool.false_eq_true, if_false, Sem.run_pure, Result.andThen_ok, List.all_cons, h, beq_self_eq_true, Bool.true_and]
     exact ih (fun j hj => hl j (by simp [hj]))
   · have h' : ((f i : Int) == (g i : Int)) = false := by simp; omega
     rw [h']
     simp [List.all_cons, h]
 have hr := key (List.range' 0 n) (fun i hi => by simpa using hi)
 have e1 : (List.range' 0 n).all (fun i => f i == g i) = eqN n f g := by rw [eqN, List.range_eq_range']
 rw [e1] at hr
 have e2 : ([:n].size) = n := by simp [Std.Legacy.Range.size]
 rw [show (List.range' [:n].start [:n].size [:n].step) = List.range' 0 n by rw [e2]]
 rw [hr]
 cases eqN n f g <;> simp
end
end Go.Proofs.Ytobcdekochenfaa
end
section
namespace Go.Proofs.Ytobcdekochenfaa
open Go.RowKit
set_option linter.unusedVariables false
set_option linter.unusedSimpArgs false
attribute [local irreducible] deg invN dS qS stp quoP resP
theorem Try.noGuard23 : Try.prog.eqGuardType Try.prog.depth 23 = false := by kernel_rfl
theorem eqN_zero (f : Nat → Nat) : eqN 64 f (fun _ => 0) = decide (deg f < 0) := by
 by_cases h : deg f < 0
 · rw [eqN_iff.2 (deg_neg_iff.1 h)]; simp [h]
 · have : eqN 64 f (fun _ => 0) = false := by
    cases he : eqN 64 f (fun _ => 0) with
    | false => rfl
    | true => exact absurd (deg_neg_iff.2 (eqN_iff.1 he)) h
   rw [this]; simp [h]
end Go.Proofs.Ytobcdekochenfaa
end
section
namespace Go.Proofs.Ytobcdekochenfaa
open Go Go.RowKit
set_option linter.unusedVariables false
set_option linter.unusedSimpArgs false
/-- the code of a prime and a number in a range -/
def rgD (p n lo hi : Int) : Int := if okP p = true then (if lo ≤ n ∧ n ≤ hi then 0 else 2) else 1
theorem rgD_cases {p n lo hi : Int} : (∃ c, rgD p n lo hi = c ∧ c ≠ 0 ∧ (c = 1 ∨ c = 2)) ∨ (rgD p n lo hi = 0 ∧ okP p = true ∧ lo ≤ n ∧ n ≤ hi) := by
 unfold rgD
 by_cases h : okP p = true
 · by_cases h2 : lo ≤ n ∧ n ≤ hi
   · right; rw [if_pos h, if_pos h2]; exact ⟨rfl, h, h2⟩
   · left; rw [if_pos h, if_neg h2]; exact ⟨2, rfl, by omega, .inr rfl⟩
 · left; rw [if_neg h]; exact ⟨1, rfl, by omega, .inl rfl⟩
set_option maxRecDepth 100000 in
set_option maxHeartbeats 3200000 in
theorem l04Rng_any (p n lo hi : Int) (w : World) : Calls Try.prog 70 #[.int .i64 p, .int .i64 n, .int .i64 lo, .int .i64 hi] w fun e w' => e = .returned (.int .i64 (rgD p n lo hi)) ∧ w = w' := by
 go_enter Try.func70, Try.ntmps70
 cases hp : okP p with
 | false =>
  go_wp2_with (first | (go_at_call 134; refine (l01Prime_any p _).mono ?_; rintro e wS ⟨rfl, rfl⟩; rw [hp]))
  go_ret
  exact ⟨by unfold rgD; rw [hp]; rfl, rfl⟩
 | true =>
  by_cases hr : lo ≤ n ∧ n ≤ hi
  · have HV := Lib.hid (show rgD p n lo hi = 0 by unfold rgD; rw [if_pos hp, if_pos hr])
    go_wp2_with (first | (go_at_call 134; refine (l01Prime_any p _).mono ?_; rintro e wS ⟨rfl, rfl⟩; rw [hp]) | (go_at_call 85; refine (l01In_yes n lo hi hr _).mono ?_; rintro e wS ⟨rfl, rfl⟩))
    go_ret
    exact ⟨by rw [HV.out]; rfl, rfl⟩
  · have HV := Lib.hid (show rgD p n lo hi = 2 by unfold rgD; rw [if_pos hp, if_neg hr])
    go_wp2_with (first | (go_at_call 134; refine (l01Prime_any p _).mono ?_; rintro e wS ⟨rfl, rfl⟩; rw [hp]) | (go_at_call 85; refine (l01In_no n lo hi hr _).mono ?_; rintro e wS ⟨rfl, rfl⟩))
    go_ret
    exact ⟨by rw [HV.out]; rfl, rfl⟩
attribute [local irreducible] pwT cdW pqW psV sdB xpB
end Go.Proofs.Ytobcdekochenfaa
end
section
namespace Go.Proofs.Ytobcdekochenfaa
open Go Go.RowKit
set_option linter.unusedVariables false
set_option linter.unusedSimpArgs false
attribute [local irreducible] deg pwT cdW pqW psV sdB xpB rgD
theorem rgD_1 {p n lo hi : Int} (h : okP p = false) : rgD p n lo hi = 1 := by unfold rgD; rw [if_neg (by rw [h]; decide)]
theorem rgD_2 {p n lo hi : Int} (h : okP p = true) (h2 : ¬ (lo ≤ n ∧ n ≤ hi)) : rgD p n lo hi = 2 := by unfold rgD; rw [if_pos h, if_neg h2]
theorem rgD_0 {p n lo hi : Int} (h : okP p = true) (h2 : lo ≤ n ∧ n ≤ hi) : rgD p n lo hi = 0 := by unfold rgD; rw [if_pos h, if_pos h2]
/-- the search -/
def fvS (p k : Int) : Nat → Nat → Int × Int
 | 0, _ => (0, 2)
 | f + 1, d => if (pqW p d k).2 = 0 then (if deg (pqW p d k).1 < 0 then ((d : Int), 0) else fvS p k f (d + 1)) else (0, (pqW p d k).2)
def fvV (p k : Int) : Int × Int := if rgD p k 1 40 = 0 then fvS p k 10 0 else (0, rgD p k 1 40)
theorem fvV_c {p k c : Int} (h : rgD p k 1 40 = c) (h0 : c ≠ 0) : fvV p k = (0, c) := by unfold fvV; rw [h, if_neg h0]
theorem fvV_0 {p k : Int} (h : rgD p k 1 40 = 0) : fvV p k = fvS p k 10 0 := by unfold fvV; rw [if_pos h]
theorem fvS_c {p k : Int} {f d : Nat} (h : (pqW p d k).2 ≠ 0) : fvS p k (f + 1) d = (0, (pqW p d k).2) := by rw [fvS, if_neg h]
theorem fvS_z {p k : Int} {f d : Nat} (h : (pqW p d k).2 = 0) (h2 : deg (pqW p d k).1 < 0) : fvS p k (f + 1) d = ((d : Int), 0) := by rw [fvS, if_pos h, if_pos h2]
theorem fvS_n {p k : Int} {f d : Nat} (h : (pqW p d k).2 = 0) (h2 : ¬ deg (pqW p d k).1 < 0) : fvS p k (f + 1) d = fvS p k f (d + 1) := by rw [fvS, if_pos h, if_neg h2]
theorem pqW_two (p d k : Int) : (pqW p d k).2 = 0 ∨ (pqW p d k).2 = 1 ∨ (pqW p d k).2 = 2 ∨ (pqW p d k).2 = 3 := by
 rcases cdW_cases (p := p) (d := d) (k := k) with ⟨c, hc, hc0, h12⟩ | ⟨hc, _⟩
 · rw [pqW_c hc hc0]; rcases h12 with h | h <;> simp [h]
 · by_cases h : d * k ≤ 63
   · left; unfold pqW; rw [if_pos hc, if_pos h]
   · right; right; right; rw [pqW_3 hc h]
theorem pqW_ok {p d k : Int} (h : (pqW p d k).2 = 0) : cdW p d k = 0 ∧ d * k ≤ 63 := by
 rcases cdW_cases (p := p) (d := d) (k := k) with ⟨c, hc, hc0, h12⟩ | ⟨hc, _⟩
 · rw [pqW_c hc hc0] at h; exact absurd h hc0
 · refine ⟨hc, ?_⟩
   apply Classical.byContradiction
   intro h2
   rw [pqW_3 hc h2] at h
   exact absurd h (by decide)
attribute [local irreducible] fvS fvV
set_option maxRecDepth 100000 in
set_option maxHeartbeats 3200000 in
theorem impl_FirstVanishing_any (p k : Int) (w : World) : Calls Try.prog 28 #[.int .i64 p, .int .i64 k] w fun e w' => e = .returned (.tuple #[.int .i64 (fvV p k).1, .int .i64 (fvV p k).2]) ∧ Below w.heap.size w w' := by
 have hb := Below.refl w.heap.size w
 cases hp : okP p with
 | false =>
  have HP := Lib.hid hp
  have HV := Lib.hid (fvV_c (k := k) (rgD_1 hp) (by decide))
  clear hp
  go_enter Try.func28, Try.ntmps28
  go_wp2_with (go_at_call 66; refine (isPrime_any _ _).mono ?_; rintro e wS ⟨rfl, rfl⟩; rw [HP.out])
  go_ret2
  exact ⟨by first | (rw [HV.out]; rfl) | rw [HV.out], hb⟩
 | true =>
  have HP := Lib.hid hp
  by_cases h1 : k < 1
  · have HV := Lib.hid (fvV_c (k := k) (rgD_2 hp (by omega)) (by decide))
    clear hp
    go_enter Try.func28, Try.ntmps28
    go_wp2_with (go_at_call 66; refine (isPrime_any _ _).mono ?_; rintro e wS ⟨rfl, rfl⟩; rw [HP.out])
    go_ret2
    exact ⟨by first | (rw [HV.out]; rfl) | rw [HV.out], hb⟩
  · have HS0 : Hid (fvV p k = fvS p k 10 0) := by
     by_cases h2 : k ≤ 40
     · exact Lib.hid (fvV_0 (rgD_0 hp (by omega)))
     · refine Lib.hid ?_
       have hc : cdW p (0 : Nat) k = 2 := cdW_2 hp (by
        intro h; obtain ⟨n, e, hn⟩ := xpB_yes h.2; omega)
       rw [fvV_c (rgD_2 hp (by omega)) (by decide), fvS_c (by rw [pqW_c hc (by decide)]; decide), pqW_c hc (by decide)]
    clear hp
    go_enter Try.func28, Try.ntmps28
    go_wp2_with (go_at_call 66; refine (isPrime_any _ _).mono ?_; rintro e wS ⟨rfl, rfl⟩; rw [HP.out])
    go_loopw [6] (fun i wr => ∃ j : Nat, j ≤ 9 ∧ i = .int .i64 (j : Int) ∧ Hid (fvV p k = fvS p k (10 - j) j) ∧ Below w.heap.size w wr) (fun i _ => 10 - (intOf i).toNat)
    case atStart => exact ⟨0, by omega, rfl, HS0, hb⟩
    case round =>
     clear hb HS0
     obtain ⟨j, hj, rfl, hS, hb⟩ := hrel
     have HPS := Lib.hid (fun W => impl_PowerSum_any p (j : Int) k W)
     have h9 : j = 9 → (pqW p (j : Int) k).2 ≠ 0 := by
      intro e h
      obtain ⟨hc, _⟩ := pqW_ok h
      rcases cdW_cases (p := p) (d := (j : Int)) (k := k) with ⟨c, hc2, hc0, _⟩ | ⟨_, _, hs, _⟩
      · omega
      · have := of_decide_eq_true (show decide ((0 : Int) ≤ (j : Int) ∧ (j : Int) ≤ 8 ∧ p.toNat ^ ((j : Int)).toNat ≤ 343) = true by unfold sdB at hs; exact hs)
        omega
     have htw := pqW_two p (j : Int) k
     have HSc := Lib.hid (fun h => hS.out.trans ((show fvS p k (10 - j) j = fvS p k (9 - j + 1) j by rw [show 10 - j = (9 - j) + 1 by omega]).trans (fvS_c (p := p) (k := k) (f := 9 - j) (d := j) h)))
     have HSz := Lib.hid (fun h h2 => hS.out.trans ((show fvS p k (10 - j) j = fvS p k (9 - j + 1) j by rw [show 10 - j = (9 - j) + 1 by omega]).trans (fvS_z (p := p) (k := k) (f := 9 - j) (d := j) h h2)))
     have HSn := Lib.hid (fun h h2 => hS.out.trans ((show fvS p k (10 - j) j = fvS p k (9 - j + 1) j by rw [show 10 - j = (9 - j) + 1 by omega]).trans (fvS_n (p := p) (k := k) (f := 9 - j) (d := j) h h2)))
     obtain ⟨V, hV⟩ : ∃ V, V = (pqW p (j : Int) k) := ⟨_, rfl⟩
     rw [← hV] at HPS h9 htw HSc HSz HSn
     clear hV hS
     obtain ⟨X, C⟩ := V
     dsimp only at HPS h9 htw HSc HSz HSn
     by_cases hC : C = 0
     · subst hC
       have hj8 : j ≤ 8 := by
        apply Classical.byContradiction
        intro h
        exact h9 (by omega) rfl
       go_upto_region 7 with (fail)
       go_upto_region 8 with (first | rw [← z64] | (go_at_call 20; refine (HPS.out _).mono ?_; rintro e W1 ⟨rfl, hW1⟩; replace hb := (hb).trans (hW1.mono (hb).size)) | (refine wpList_store_blk rfl 23 (.tmp 7) (.tmp 21) rfl _ 64 (X) rfl rfl 23 _ ((Blk.new W1 64 23 (fun _ => 0))) Try.size23 ?_; try simp only [Act.put]; go_upto_region 8 with (fail)))
       have lhb := hb.size
       obtain ⟨W2, hwo, hzQ⟩ : ∃ v : World, v = ((W1.alloc (.cells (zb 64 (fun _ => 0)) 23)).setRow (W1.heap.size) (zb 64 (X))) ∧ Blk v (W1.heap.size) 64 23 (X) ∧ Below w.heap.size w v := ⟨_, rfl, ((Blk.new W1 64 23 (fun _ => 0)).row (X)), (zr (hb.alloc (by have := hb.size; simp; omega) (.cells (zb 64 (fun _ => 0)) 23)) (by omega) _)⟩
       rw [← hwo]
       clear hwo hb
       obtain ⟨B0, hb⟩ := hzQ
       obtain ⟨N1, hNN⟩ : ∃ n : Nat, n = W1.heap.size := ⟨_, rfl⟩
       rw [← hNN] at  lhb B0 ⊢
       clear hNN
       have zN1 := lhb
       clear  lhb
       try simp only [Act.put, pA, pB, pC]
       go_upto_region 10 with (fail)
       by_cases hz : deg X < 0
       · have HV := Lib.hid (HSz.out (by trivial) hz)
         have hgd := Try.noGuard23
         have heq := fun W => zeb (P := Try.prog) W 9998 23 5 64 (X) (fun _ => 0) Try.underlying23 Try.underlying5 Try.size5
         rw [eqN_zero, show decide (deg (X) < 0) = true by simp [hz]] at heq
         simp only [z64] at heq
         go_wp2_with (first | (refine zla (.tmp 7) B0 Try.underlying23 Try.size23 ?_))
         go_ret2
         exact ⟨by first | (rw [HV.out]; rfl) | rw [HV.out], hb⟩
       · have HV := Lib.hid (HSn.out (by trivial) (by omega))
         have hgd := Try.noGuard23
         have heq := fun W => zeb (P := Try.prog) W 9998 23 5 64 (X) (fun _ => 0) Try.underlying23 Try.underlying5 Try.size5
         rw [eqN_zero, show decide (deg (X) < 0) = false by simp [hz]] at heq
         simp only [z64] at heq
         go_upto_region 6 with (first | (refine zla (.tmp 7) B0 Try.underlying23 Try.size23 ?_))
         clear heq hgd
         go_wp2_with fail
         go_roundw
         case rel => exact ⟨j + 1, by omega, by go_num, Lib.hid (by rw [HV.out, show 9 - j = 10 - (j + 1) by omega]), hb⟩
         case measure => simp [intOf] <;> omega
     · have hb1 : ((C : Int) != 0) = true := by simp [hC]
       have HV := Lib.hid (HSc.out hC)
       go_upto_region 7 with (fail)
       go_upto_region 8 with (first | rw [← z64] | (go_at_call 20; refine (HPS.out _).mono ?_; rintro e W1 ⟨rfl, hW1⟩; replace hb := (hb).trans (hW1.mono (hb).size)) | (refine wpList_store_blk rfl 23 (.tmp 7) (.tmp 21) rfl _ 64 (X) rfl rfl 23 _ ((Blk.new W1 64 23 (fun _ => 0))) Try.size23 ?_; try simp only [Act.put]; go_upto_region 8 with (fail)))
       have lhb := hb.size
       obtain ⟨W2, hwo, hzQ⟩ : ∃ v : World, v = ((W1.alloc (.cells (zb 64 (fun _ => 0)) 23)).setRow (W1.heap.size) (zb 64 (X))) ∧ Blk v (W1.heap.size) 64 23 (X) ∧ Below w.heap.size w v := ⟨_, rfl, ((Blk.new W1 64 23 (fun _ => 0)).row (X)), (zr (hb.alloc (by have := hb.size; simp; omega) (.cells (zb 64 (fun _ => 0)) 23)) (by omega) _)⟩
       rw [← hwo]
       clear hwo hb
       obtain ⟨B0, hb⟩ := hzQ
       obtain ⟨N1, hNN⟩ : ∃ n : Nat, n = W1.heap.size := ⟨_, rfl⟩
       rw [← hNN] at  lhb B0 ⊢
       clear hNN
       have zN1 := lhb
       clear  lhb
       try simp only [Act.put, pA, pB, pC]
       go_wp2_with fail
       go_ret2
       exact ⟨by first | (rw [HV.out]; rfl) | rw [HV.out], hb⟩
set_option maxRecDepth 100000 in
set_option maxHeartbeats 3200000 in
theorem spec_FirstVanishing_any (p k : Int) (w : World) : Calls Try.prog 27 #[.int .i64 p, .int .i64 k] w fun e w' => e = .returned (.tuple #[.int .i64 (fvV p k).1, .int .i64 (fvV p k).2]) ∧ Below w.heap.size w w' := by
 have hb := Below.refl w.heap.size w
 rcases rgD_cases (p := p) (n := k) (lo := 1) (hi := 40) with ⟨c, hc, hc0, hc12⟩ | ⟨hc, hp, hr1, hr2⟩
 · have HC := Lib.hid hc
   have HV := Lib.hid (fvV_c hc hc0)
   have hb1 : ((c : Int) != 0) = true := by simp [hc0]
   clear hc
   go_enter Try.func27, Try.ntmps27
   go_wp2_with (go_at_call 70; refine (l04Rng_any _ _ 1 40 _).mono ?_; rintro e wS ⟨rfl, rfl⟩; rw [HC.out])
   go_ret2
   exact ⟨by first | (rw [HV.out]; rfl) | rw [HV.out], hb⟩
 · have HC := Lib.hid hc
   have HS0 := Lib.hid (fvV_0 hc)
   obtain ⟨n, hn, n2, n7⟩ := okP_nat hp
   subst hn
   obtain ⟨k, rfl⟩ : ∃ j : Nat, k = (j : Int) := ⟨k.toNat, by omega⟩
   have hk40 : k ≤ 40 := by omega
   clear hc
   go_enter Try.func27, Try.ntmps27
   go_wp2_with (go_at_call 70; refine (l04Rng_any _ _ 1 40 _).mono ?_; rintro e wS ⟨rfl, rfl⟩; rw [HC.out])
   go_loopw [7] (fun i wr => ∃ j : Nat, j ≤ 9 ∧ i = .int .i64 (j : Int) ∧ Hid (fvV (n : Int) (k : Int) = fvS (n : Int) (k : Int) (10 - j) j) ∧ Below w.heap.size w wr) (fun i _ => 10 - (intOf i).toNat)
   case atStart => exact ⟨0, by omega, rfl, HS0, hb⟩
   case round =>
    clear hb HS0
    obtain ⟨j, hj, rfl, hS, hb⟩ := hrel
    have HSc := Lib.hid (fun h => hS.out.trans ((show fvS (n : Int) (k : Int) (10 - j) j = fvS (n : Int) (k : Int) (9 - j + 1) j by rw [show 10 - j = (9 - j) + 1 by omega]).trans (fvS_c (p := (n : Int)) (k := (k : Int)) (f := 9 - j) (d := j) h)))
    have HSz := Lib.hid (fun h h2 => hS.out.trans ((show fvS (n : Int) (k : Int) (10 - j) j = fvS (n : Int) (k : Int) (9 - j + 1) j by rw [show 10 - j = (9 - j) + 1 by omega]).trans (fvS_z (p := (n : Int)) (k := (k : Int)) (f := 9 - j) (d := j) h h2)))
    have HSn := Lib.hid (fun h h2 => hS.out.trans ((show fvS (n : Int) (k : Int) (10 - j) j = fvS (n : Int) (k : Int) (9 - j + 1) j by rw [show 10 - j = (9 - j) + 1 by omega]).trans (fvS_n (p := (n : Int)) (k := (k : Int)) (f := 9 - j) (d := j) h h2)))
    clear hS
    go_upto_region 6 with (fail)
    rcases cdW_cases (p := (n : Int)) (d := (j : Int)) (k := (k : Int)) with ⟨c, hc, hc0, hc12⟩ | ⟨hc, _, hs, hx⟩
    · have HV := Lib.hid (show fvV (n : Int) (k : Int) = (0, c) by rw [HSc.out (by rw [pqW_c hc hc0]; exact hc0), pqW_c hc hc0])
      have hb1 : ((c : Int) != 0) = true := by simp [hc0]
      go_upto_region 7 with (first | (refine wpList_buildI rfl 42 _ (k : Int) rfl 2 Try.underlying42 Try.elemInt rfl ?_; intro W1 hps hba; replace hb := hb.trans (hba.mono hb.size)) | (go_at_call 64; refine (l08Code_one (n : Int) (j : Int) (k : Int) _ _ (row_one hps)).mono ?_; rintro e wS ⟨rfl, rfl⟩; rw [hc]))
      clear hps hba
      clear hc
      go_wp2_with fail
      go_ret2
      exact ⟨by first | (rw [HV.out]; rfl) | rw [HV.out], hb⟩
    · obtain ⟨d, hd, hd8, hq3⟩ := sdB_yes hs
      obtain rfl : j = d := by omega
      have HSU := Lib.hid (fun W => l08Sum_any n j k W n2 n7 hd8 hk40 hq3)
      by_cases hlim : (j : Int) * (k : Int) ≤ 63
      · have hPW := pqW_0 hc hlim
        have HPV := Lib.hid (show psV n j k = (pwT n j k, true) by unfold psV; exact if_pos (by exact_mod_cast hlim))
        rw [hPW] at HSz HSn
        dsimp only at HSz HSn
        obtain ⟨X, hX⟩ : ∃ X, X = pwT n j k := ⟨_, rfl⟩
        rw [← hX] at HSz HSn HPV
        clear hPW hX
        go_upto_region 7 with (first | (refine wpList_buildI rfl 42 _ (k : Int) rfl 2 Try.underlying42 Try.elemInt rfl ?_; intro W1 hps hba; replace hb := hb.trans (hba.mono hb.size)) | (go_at_call 64; refine (l08Code_one (n : Int) (j : Int) (k : Int) _ _ (row_one hps)).mono ?_; rintro e wS ⟨rfl, rfl⟩; rw [hc]))
        clear hps hba
        clear hc
        go_upto_region 9 with (fail)
        go_upto_region 10 with (first | rw [← z64] | (go_at_call 65; refine (HSU.out _).mono ?_; rintro e W2 ⟨rfl, hW2⟩; replace hb := (hb).trans (hW2.mono (hb).size); rw [HPV.out]) | (refine wpList_store_blk rfl 23 (.tmp 9) (.tmp 32) rfl _ 64 (X) rfl rfl 23 _ ((Blk.new W2 64 23 (fun _ => 0))) Try.size23 ?_; try simp only [Act.put]; go_upto_region 10 with (fail)))
        have lhb := hb.size
        obtain ⟨W3, hwo, hzQ⟩ : ∃ v : World, v = ((W2.alloc (.cells (zb 64 (fun _ => 0)) 23)).setRow (W2.heap.size) (zb 64 (X))) ∧ Blk v (W2.heap.size) 64 23 (X) ∧ Below w.heap.size w v := ⟨_, rfl, ((Blk.new W2 64 23 (fun _ => 0)).row (X)), (zr (hb.alloc (by have := hb.size; simp; omega) (.cells (zb 64 (fun _ => 0)) 23)) (by omega) _)⟩
        rw [← hwo]
        clear hwo hb
        obtain ⟨B0, hb⟩ := hzQ
        obtain ⟨N1, hNN⟩ : ∃ n : Nat, n = W2.heap.size := ⟨_, rfl⟩
        rw [← hNN] at  lhb B0 ⊢
        clear hNN
        have zN1 := lhb
        clear  lhb
        try simp only [Act.put, pA, pB, pC]
        go_upto_region 12 with (fail)
        by_cases hz : deg X < 0
        · have HV := Lib.hid (HSz.out (by trivial) hz)
          have hgd := Try.noGuard23
          have heq := fun W => zeb (P := Try.prog) W 9998 23 5 64 (X) (fun _ => 0) Try.underlying23 Try.underlying5 Try.size5
          rw [eqN_zero, show decide (deg (X) < 0) = true by simp [hz]] at heq
          simp only [z64] at heq
          go_wp2_with (first | (refine zla (.tmp 9) B0 Try.underlying23 Try.size23 ?_))
          go_ret2
          exact ⟨by first | (rw [HV.out]; rfl) | rw [HV.out], hb⟩
        · have HV := Lib.hid (HSn.out (by trivial) (by omega))
          have hgd := Try.noGuard23
          have heq := fun W => zeb (P := Try.prog) W 9998 23 5 64 (X) (fun _ => 0) Try.underlying23 Try.underlying5 Try.size5
          rw [eqN_zero, show decide (deg (X) < 0) = false by simp [hz]] at heq
          simp only [z64] at heq
          go_upto_region 5 with (first | (refine zla (.tmp 9) B0 Try.underlying23 Try.size23 ?_))
          clear heq hgd
          go_wp2_with fail
          go_roundw
          case rel => exact ⟨j + 1, by omega, by go_num, Lib.hid (by rw [HV.out, show 9 - j = 10 - (j + 1) by omega]), hb⟩
          case measure => simp [intOf] <;> omega
      · have HV := Lib.hid (show fvV (n : Int) (k : Int) = (0, 3) by rw [HSc.out (by rw [pqW_3 hc hlim]; decide), pqW_3 hc hlim])
        have HPV := Lib.hid (show psV n j k = (fun _ => 0, false) by unfold psV; exact if_neg (fun h => hlim (by exact_mod_cast h)))
        go_upto_region 7 with (first | (refine wpList_buildI rfl 42 _ (k : Int) rfl 2 Try.underlying42 Try.elemInt rfl ?_; intro W1 hps hba; replace hb := hb.trans (hba.mono hb.size)) | (go_at_call 64; refine (l08Code_one (n : Int) (j : Int) (k : Int) _ _ (row_one hps)).mono ?_; rintro e wS ⟨rfl, rfl⟩; rw [hc]))
        clear hps hba
        clear hc
        go_upto_region 9 with (fail)
        go_upto_region 10 with (first | rw [← z64] | (go_at_call 65; refine (HSU.out _).mono ?_; rintro e W2 ⟨rfl, hW2⟩; replace hb := (hb).trans (hW2.mono (hb).size); rw [HPV.out]) | (refine wpList_store_blk rfl 23 (.tmp 9) (.tmp 32) rfl _ 64 (fun _ => 0) rfl rfl 23 _ ((Blk.new W2 64 23 (fun _ => 0))) Try.size23 ?_; try simp only [Act.put]; go_upto_region 10 with (fail)))
        have lhb := hb.size
        obtain ⟨W3, hwo, hzQ⟩ : ∃ v : World, v = ((W2.alloc (.cells (zb 64 (fun _ => 0)) 23)).setRow (W2.heap.size) (zb 64 (fun _ => 0))) ∧ Blk v (W2.heap.size) 64 23 (fun _ => 0) ∧ Below w.heap.size w v := ⟨_, rfl, ((Blk.new W2 64 23 (fun _ => 0)).row (fun _ => 0)), (zr (hb.alloc (by have := hb.size; simp; omega) (.cells (zb 64 (fun _ => 0)) 23)) (by omega) _)⟩
        rw [← hwo]
        clear hwo hb
        obtain ⟨B0, hb⟩ := hzQ
        obtain ⟨N1, hNN⟩ : ∃ n : Nat, n = W2.heap.size := ⟨_, rfl⟩
        rw [← hNN] at  lhb B0 ⊢
        clear hNN
        have zN1 := lhb
        clear  lhb
        try simp only [Act.put, pA, pB, pC]
        go_wp2_with fail
        go_ret2
        exact ⟨by first | (rw [HV.out]; rfl) | rw [HV.out], hb⟩
end Go.Proofs.Ytobcdekochenfaa
end
section
namespace Go.Proofs.Ytobcdekochenfaa
open Go Go.RowKit
set_option linter.unusedVariables false
set_option linter.unusedSimpArgs false
set_option maxRecDepth 100000 in
set_option maxHeartbeats 1600000 in
theorem FnExactFirstVanishing_walk (p : Int) (k : Int)  (w : World) :
 Calls Try.prog 6 #[.int .i64 p, .int .i64 k] w fun e w' => e = .returned (.bool true) ∧ Below w.heap.size w w' := by
 go_enter Try.func6, Try.ntmps6
 go_upto_region 1 with (fail)
 have hb : Below w.heap.size w w := Below.refl _ _
 have hne0 : (((fvV p k).1) != ((fvV p k).1)) = false := by simp
 have hne1 : (((fvV p k).2) != ((fvV p k).2)) = false := by simp
 go_upto_region 2 with (first | (go_at_call 27; refine (spec_FirstVanishing_any p k _).mono ?_; rintro e W1 ⟨rfl, hW1⟩; replace hb := (hb).trans (hW1.mono (hb).size)))
 go_upto_region 3 with (first | (go_at_call 28; refine (impl_FirstVanishing_any p k _).mono ?_; rintro e W2 ⟨rfl, hW2⟩; replace hb := (hb).trans (hW2.mono (hb).size)))
 go_wp2_with fail
 go_ret
 exact ⟨rfl, hb⟩
end Go.Proofs.Ytobcdekochenfaa
end
