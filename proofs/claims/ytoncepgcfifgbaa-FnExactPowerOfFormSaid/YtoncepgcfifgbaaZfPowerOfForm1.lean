/-
  What the rows of this claim rest on: arrays of bytes, walks of the functions, plain mathematics.
-/
import Derived.Test.YtoncepgcfifgbaaZf6
import Derived.WalkKit
import Derived.WalkSpells
import Derived.WalkLawsBesides
import Derived.Lib.Hide
import Derived.Laws.Rows
import Derived.Laws.CopyOwn
import Derived.Deep.QuietTactic
import Derived.Deep.WholeRow
import Derived.Deep.Draws
import Derived.Deep.MidRow
import Derived.Deep.CutRange
import Derived.Deep.DeepCutAuto
import Derived.Deep.RegionHeld3
import Derived.BigQuiet
import Derived.BigRegion
import Derived.Test.YtoncepgcfifgbaaRows
import Derived.Great.BuildSlice
import Derived.Maps.OwnOps
import Derived.DeepKeys4
import Derived.Carry
import Derived.Test.YtoncepgcfifgbaaProg
import Derived.Laws.Tables
import Derived.Laws.StructEq
import Derived.ScopeJumps
import Derived.Deep.CutBlock
import Derived.OwnWalk
import Derived.RangeFuncNested
import Derived.RangeFuncBound
import Derived.RangeFuncCalls
import Derived.RangeFuncLeaves
import Derived.Shelf.Abstract
import Derived.Shelf.RegionOpen
import Derived.OwnWalkIn
import Derived.TacticsInMore
import Derived.LoopNIn
import Derived.LoopIn
section
namespace Go.Proofs.Ytoncepgcfifgbaa
open Go.RowKit
theorem bcells_inj {n : Nat} {f g : Nat → Nat} (h : zb n f = zb n g) : ∀ i, i < n → f i = g i := by
 intro i hi
 have h1 := bcells_get (f := f) hi
 rw [h, bcells_get hi] at h1
 simp at h1
 omega

end Go.Proofs.Ytoncepgcfifgbaa
end
section
namespace Go.Proofs.Ytoncepgcfifgbaa
open Go.RowKit
set_option linter.unusedVariables false
set_option maxRecDepth 100000 in
set_option maxHeartbeats 400000 in
theorem sum_any (p : Nat) (f g : Nat → Nat) (w : World) (hp1 : 2 ≤ p) (hp2 : p ≤ 7) (hf : ∀ i, i < 64 → f i < p) (hg : ∀ i, i < 64 → g i < p) :
 Calls Try.prog 173 #[.int .i64 (p : Int), .agg (zb 64 f), .agg (zb 64 g)] w fun e w' => e = .returned (.agg (zb 64 fun i => (f i + g i) % p)) ∧ Below w.heap.size w w' := by
 go_enter Try.func173, Try.ntmps173
 go_wp2_with fail
 have HF := Lib.hid hf; clear hf
 have HG := Lib.hid hg; clear hg
 rw [← z64]
 go_loopw [8] (fun i wr => ∃ k : Nat, k ≤ 64 ∧ i = .int .i64 (k : Int) ∧ Below w.heap.size w wr ∧ Blk wr w.heap.size 64 23 (fun i => if i < k then (f i + g i) % p else f i) ∧ Blk wr (w.heap.size + 1) 64 23 g ∧ Blk wr (w.heap.size + 1 + 1) 64 23 (fun _ => 0)) (fun i _ => 64 - (intOf i).toNat)
 case atStart =>
  refine ⟨0, by omega, rfl, (((Below.refl _ _).alloc (Nat.le_refl _) _).alloc (by simp) _).alloc (by simp; omega) _, ?_, ?_, ?_⟩
  · exact (((Blk.new w _ _ _).alloc _).alloc _).congr (by simp)
  · have := ((Blk.new (w.alloc (.cells (zb 64 f) 23)) 64 23 g).alloc (.cells (zb 64 fun _ => 0) 23)); simpa using this
  · have := (Blk.new ((w.alloc (.cells (zb 64 f) 23)).alloc (.cells (zb 64 g) 23)) 64 23 (fun _ => 0)); simpa using this
 case round =>
  obtain ⟨k, hk, rfl, hb, h0, h1, h2⟩ := hrel
  by_cases hlt : k < 64
  · have c4 : wr.cell? ⟨w.heap.size, k, none⟩ = some (.int .u8 (f k : Int)) := by rw [h0.cell hlt]; simp
    have c5 := h1.cell hlt
    have z4 := h0.frozen k
    have b1 : f k < p := HF.out k hlt
    have b2 : g k < p := HG.out k hlt
    go_wp2_with fail
    go_region
    go_wp2_with fail
    go_roundw
    case rel =>
     refine ⟨k + 1, by omega, by go_num, (hb.setCell (by simp) _).drew, ?_, ?_, ?_⟩
     · exact ((h0.set (v := (f k + g k) % p) (by push_cast; rfl)).congr (fun i _ => upd_lt (a := fun i => (f i + g i) % p) rfl i)).drew
     · exact (h1.setOther (by simp)).drew
     · exact (h2.setOther (by simp; omega)).drew
    case measure => simp [intOf]; omega
  · have e : k = 64 := by omega
    subst e
    go_wp2_with (first | refine zlb rfl 23 _ rfl _ rfl 64 23 _ (h0) 5 Try.underlying23 Try.size23 ?_ | refine wpList_store_blk rfl 23 _ _ rfl _ 64 ((fun i => if i < 64 then (f i + g i) % p else f i)) rfl rfl 23 _ (h2) Try.size23 ?_)
    refine bodyPost_ret (zrb rfl _ _ _ 64 23 5 _ rfl (h2.row _) Try.underlying23 Try.size23) rfl ⟨?_, ?_⟩
    · rw [zbc (g := fun i => (f i + g i) % p)]
      intro i hi; simp [hi]
    · exact below_setRow hb (by omega) _

end Go.Proofs.Ytoncepgcfifgbaa
end
section
namespace Go.Proofs.Ytoncepgcfifgbaa
open Go.RowKit
set_option linter.unusedVariables false
theorem addK_one (p : Nat) (f g : Nat → Nat) : addK p f g 1 = fun i => (f i + g i) % p := by
 funext i; unfold addK
 rw [Int.one_mul, ← Int.natCast_add, ← Int.natCast_emod, Int.toNat_natCast]
end Go.Proofs.Ytoncepgcfifgbaa
end
section
namespace Go.Proofs.Ytoncepgcfifgbaa
open Go.RowKit
set_option linter.unusedVariables false
set_option maxHeartbeats 400000 in
theorem l01In_any (n l h : Int) (w : World) : Calls Try.prog 89 #[.int .i64 n, .int .i64 l, .int .i64 h] w fun e w' => e = .returned (.bool (decide (l ≤ n ∧ n ≤ h))) ∧ w = w' := by
 by_cases h1 : l ≤ n
 · by_cases h2 : n ≤ h
   · go_enter Try.func89, Try.ntmps89
     go_wp2
     go_ret
     exact ⟨ret_bool (by simp [h1, h2]), rfl⟩
   · go_enter Try.func89, Try.ntmps89
     go_wp2
     go_ret
     exact ⟨ret_bool (by simp [h2]), rfl⟩
 · go_enter Try.func89, Try.ntmps89
   go_wp2
   go_ret
   exact ⟨ret_bool (by simp; omega), rfl⟩
end Go.Proofs.Ytoncepgcfifgbaa
end
section
namespace Go.Proofs.Ytoncepgcfifgbaa
attribute [local irreducible] deg invN
/-- below the divisor's degree nothing is divided -/
theorem resP_small {p : Nat} {a b : Nat → Nat} (hp : 0 < p) (ha : ∀ k, k < 64 → a k < p) (hlt : deg a < deg b) (k : Nat) (hk : k < 64) : resP p a b k = a k := by
 obtain ⟨a1, a2⟩ := zdb a
 obtain ⟨b1, b2⟩ := zdb b
 obtain ⟨m, hm⟩ : ∃ m : Nat, deg b = (m : Int) := ⟨(deg b).toNat, by omega⟩
 obtain ⟨N, hN⟩ : ∃ N : Nat, deg a + 1 = (N : Int) := ⟨(deg a + 1).toNat, by omega⟩
 have hz : ∀ k, N ≤ k → k < 128 → cut a k = 0 := by
  intro k h1 h2
  by_cases h : k < 64
  · rw [cut_in a h]; exact zero_above (by omega) h
  · exact zcz a (by omega)
 rw [resP_at hm]
 unfold resW
 rw [dS_stay (N := N) (fun j _ => cut_all hp ha j) hz _ (by omega) k (by omega), cut_in a hk]
end Go.Proofs.Ytoncepgcfifgbaa
end
section
namespace Go.Proofs.Ytoncepgcfifgbaa
namespace Rg
variable {R : Type} [Rg R]
theorem mule (a : R) : a * e = a := by rw [mcomm]; exact emul a
theorem diff (x r : R) : ∃ d, x = r + d := ⟨-r + x, by rw [← aassoc, acomm r, nadd, oadd]⟩
theorem nm_mul (a b : R) : ∀ k, nm k a * b = nm k (a * b)
 | 0 => omul b
 | k + 1 => by show (nm k a + a) * b = nm k (a * b) + a * b; rw [addm, nm_mul a b k]
theorem nm_one (a : R) : nm 1 a = a := oadd a
end Rg
end Go.Proofs.Ytoncepgcfifgbaa
namespace Go.Proofs.Ytoncepgcfifgbaa
open Rg
section
variable {p : Int} {m : Nat → Int}
theorem rAdd_cl {f g : Nat → Int} {hf : fin f} {hg : fin g} : rAdd (cl f hf : Res p m) (cl g hg) = cl (az f g) (fin_az hf hg) := rfl
theorem fin_c (c : Nat) : fin (fun k => if k = 0 then (c : Int) else 0) := ⟨1, fun k hk => by show (if k = 0 then (c : Int) else 0) = 0; rw [if_neg (by omega)]⟩
theorem nm_cl : ∀ c : Nat, (nm c Rg.e : Res p m) = cl (fun k => if k = 0 then (c : Int) else 0) (fin_c c)
 | 0 => cl_congr (by funext k; unfold zS; split <;> rfl)
 | c + 1 => by
  show rAdd (nm c Rg.e) (cl oneS fin_oneS) = _
  rw [nm_cl c, rAdd_cl]
  exact cl_congr (by funext k; unfold az oneS; by_cases h : k = 0 <;> simp [h])
end
end Go.Proofs.Ytoncepgcfifgbaa
set_option linter.unusedVariables false
set_option linter.unusedVariables false
set_option linter.unusedVariables false
set_option linter.unusedVariables false
set_option linter.unusedVariables false
set_option linter.unusedVariables false
set_option linter.unusedVariables false
namespace Go.Proofs.Ytoncepgcfifgbaa
attribute [local irreducible] deg invN quoP resP
theorem bzRun_udeg {p : Nat} {d : Int} (hp : p = 2 ∨ p = 3 ∨ p = 5 ∨ p = 7) (hd : 0 ≤ d) : ∀ (n : Nat) (a b u x v y : Nat → Nat), bzI p a b u x v y → deg b + 1 ≤ (n : Int) → deg b < deg a → deg u + deg a ≤ d - 1 → deg x + deg a ≤ d → deg (bzRun p n a b u x v y).2.1 ≤ d - 1
 | n, a, b, u, x, v, y, hI, hn, hlt, h1, h2 => by
  have hp0 : 0 < p := by omega
  obtain ⟨a1, a2⟩ := zdb a
  obtain ⟨b1, b2⟩ := zdb b
  by_cases hz : deg b < 0
  · rw [bzRun_stop hz]
    show deg u ≤ d - 1
    omega
  · cases n with
    | zero => omega
    | succ n =>
     obtain ⟨hI', hdr, hdx, hdy⟩ := bzI_next hp hI hz
     rw [bzRun_go hz]
     obtain ⟨x1, x2⟩ := zdb x
     obtain ⟨u1, u2⟩ := zdb u
     refine bzRun_udeg hp hd n b (resP p a b) x _ y _ hI' (by push_cast at hn; omega) hdr (by omega) ?_
     have hle : deg (subP p u (prd p (quoP p a b) x)) ≤ d - deg b := by
      refine deg_le (by omega) (fun k hk hk2 => subP_zero (zero_above (f := u) (by omega) hk2) ?_)
      rcases quoP_deg hp0 hI.1 (by omega) (b := b) with hq | hq
      · exact prd_zero_left hp0 (deg_neg (by omega)) k
      · exact prd_above hp0 (by omega)
     omega
theorem one_lz : lz oneP = oneS := by
 funext k; unfold lz oneS
 by_cases hk : k < 64
 · rw [cut_in _ hk]; unfold oneP; split <;> rfl
 · rw [zcz _ (by omega), if_neg (by omega)]; rfl
end Go.Proofs.Ytoncepgcfifgbaa
set_option linter.unusedVariables false
namespace Go.Proofs.Ytoncepgcfifgbaa
attribute [local irreducible] deg invN quoP resP
theorem addK_cg {p : Nat} {f g : Nat → Nat} {c : Int} (hp : 0 < p) : cg p (lz (addK p f g c)) (az (lz f) (cz c (lz g))) := by
 intro k
 show (p : Int) ∣ ((cut (addK p f g c) k : Nat) : Int) - (((cut f k : Nat) : Int) + c * ((cut g k : Nat) : Int))
 by_cases hk : k < 64
 · rw [cut_in _ hk, cut_in _ hk, cut_in _ hk]
   unfold addK
   have h1 : 0 ≤ ((f k : Int) + c * (g k : Int)) % (p : Int) := Int.emod_nonneg _ (by omega)
   rw [Int.toNat_of_nonneg h1]
   have := Int.dvd_self_sub_emod (x := (f k : Int) + c * (g k : Int)) (m := (p : Int))
   have h2 := Int.dvd_neg.2 this
   rwa [Int.neg_sub] at h2
 · rw [zcz _ (by omega), zcz _ (by omega), zcz _ (by omega)]; exact ⟨0, by simp⟩
end Go.Proofs.Ytoncepgcfifgbaa
end
section
namespace Go.Proofs.Ytoncepgcfifgbaa
open Go.RowKit
theorem cut_cut (f : Nat → Nat) : cut (cut f) = cut f := by funext i; unfold cut; split <;> rfl
theorem lz_cut (f : Nat → Nat) : lz (cut f) = lz f := by unfold lz; rw [cut_cut]
theorem cut_eq {f g : Nat → Nat} (h : ∀ i, i < 64 → f i = g i) : cut f = cut g := by
 funext i; unfold cut
 split
 · rename_i hi; exact h i hi
 · rfl
end Go.Proofs.Ytoncepgcfifgbaa
namespace Go.Proofs.Ytoncepgcfifgbaa
open Go Go.RowKit Go.ChangeMaps
open Go.Maps (Keyed)
theorem mapM_ex {α β : Type} (f : α → Option β) : ∀ l : List α, (∀ x ∈ l, ∃ y, f x = some y) → ∃ ys, l.mapM f = some ys
 | [], _ => ⟨[], rfl⟩
 | a :: l, h => by
  obtain ⟨y, hy⟩ := h a (by simp)
  obtain ⟨ys, hys⟩ := mapM_ex f l fun x hx => h x (by simp [hx])
  exact ⟨y :: ys, by simp [List.mapM_cons, hy, hys]⟩
theorem wpList_look {P : Program} (w : World) {ops : Array Oper} {rest : List Oper} {o : Oper} {a : Act} {Q : Exit → Act → World → Prop}
 (hg : o.guard = none) (m x : Operand) (t : TypeId) (c : Bool) (hop : o.op = Op.lookup t m x c) (mv : Value) (hm : a.eval m = mv) (key : Value) (hx : a.eval x = key) (v : Value) (hrun : (Instr.lookup t mv key c).run P w = .ok v w)
 (hK : wpList P ops Q rest (a.put o.dst v) w) : wpList P ops Q (o :: rest) a w := by
 refine wpList_plain hg fun K' hK' => ?_
 unfold Oper.wp
 simp [execOp, hop, hm, hx, hrun, Result.andThen]
 exact hK' _ _ hK
theorem wpList_put {P : Program} (w : World) {ops : Array Oper} {rest : List Oper} {o : Oper} {a : Act} {Q : Exit → Act → World → Prop}
 (hg : o.guard = none) (m x v : Operand) (t : TypeId) (hop : o.op = Op.mapUpdate t m x v) (mv : Value) (hm : a.eval m = mv) (key : Value) (hx : a.eval x = key) (val : Value) (hv : a.eval v = val) (w' : World) (hrun : (Instr.mapUpdate t mv key val).run P w = .ok () w')
 (hK : wpList P ops Q rest (a.put o.dst undef) w') : wpList P ops Q (o :: rest) a w := by
 refine wpList_plain hg fun K' hK' => ?_
 unfold Oper.wp
 simp [execOp, hop, hm, hx, hv, hrun, Result.andThen]
 exact hK' _ _ hK
end Go.Proofs.Ytoncepgcfifgbaa
namespace Go.Proofs.Ytoncepgcfifgbaa
open Go Go.RowKit Go.ChangeMaps
open Go.Maps (Keyed)
theorem Try.laidOutP : laidOutB Try.prog = true := by kernel_rfl
end Go.Proofs.Ytoncepgcfifgbaa
end
section
namespace Go.Proofs.Ytoncepgcfifgbaa
open Go Go.RowKit
set_option linter.unusedVariables false
theorem fdC_all (p : Int) (m : Nat → Nat) : (fdC p m).toArray.all (·.oneCell') = true := Array.all_eq_true_iff_forall_mem.2 fun u hu => by
 have hu' : u ∈ fdC p m := by simpa using hu
 unfold fdC at hu'
 rcases List.mem_cons.1 hu' with h | h
 · subst h; rfl
 · unfold bl at h
   obtain ⟨i, _, rfl⟩ := List.mem_map.1 h
   rfl
end Go.Proofs.Ytoncepgcfifgbaa
end
section
set_option linter.unusedVariables false
namespace Go.Proofs.Ytoncepgcfifgbaa
namespace Rg
variable {R : Type} [Rg R]
/-- the action of T -/
def sR (t : R) (p : Nat) (x : R) : R := t * x + pw x p
/-- the action by Horner's way, and by powers -/
def hrR (t : R) (p : Nat) (x : R) : List Nat → R
 | [] => o
 | c :: cs => sR t p (hrR t p x cs) + nm c x
end Rg
open Rg
section
variable {p : Nat} {m : Nat → Int}
theorem nm_rs (c : Nat) {f : Nat → Int} (hf : fin f) : nm c (cl f hf : Res p m) = cl (cz (c : Int) f) (fin_cz _ hf) := by
 have h1 : nm c (cl f hf : Res p m) = nm c e * cl f hf := by rw [nm_mul, emul]
 rw [h1, nm_cl]
 refine cl_eq.2 (rm_of_cg fun k => ⟨0, ?_⟩)
 have := mz_mono (c : Int) 0 f k
 rw [this, if_pos (Nat.zero_le _), Nat.sub_zero]
 unfold cz; omega
theorem rs_addK {f g : Nat → Nat} {c : Nat} (hp : 0 < p) : (rs (addK p f g (c : Int)) : Res p m) = rs f + nm c (rs g) := by
 unfold rs
 rw [nm_rs]
 exact cl_eq.2 (rm_of_cg (addK_cg hp))
theorem rs_add {f g : Nat → Nat} (hp : 0 < p) : (rs (addK p f g 1) : Res p m) = rs f + rs g := by
 have := rs_addK (m := m) (f := f) (g := g) (c := 1) hp
 rw [nm_one] at this; exact this
end
theorem deg_addK {p : Nat} {f g : Nat → Nat} {c d : Int} (hp : 0 < p) (hd : 0 ≤ d) (hf : deg f < d) (hg : deg g < d) : deg (addK p f g c) < d := by
 have : deg (addK p f g c) ≤ d - 1 := by
  refine deg_le (by omega) (fun k h1 h2 => ?_)
  have above : ∀ (f : Nat → Nat), deg f < d → f k = 0 := by
   intro f hf
   rcases deg_spec f with ⟨_, h5⟩ | ⟨j, hj, h4, _, h5⟩
   · exact h5 _ h2
   · exact h5 _ (by omega) h2
  unfold addK
  rw [above f hf, above g hg]
  simp
 omega
end Go.Proofs.Ytoncepgcfifgbaa
end
section
namespace Go.Proofs.Ytoncepgcfifgbaa
open Go Go.RowKit
set_option linter.unusedVariables false
set_option linter.unusedSimpArgs false
theorem frC_congr {A B A' B' : Nat → Nat} (h1 : ∀ i, i < 64 → A i = A' i) (h2 : ∀ i, i < 64 → B i = B' i) : frC A B = frC A' B' := by
 have key : ∀ f g : Nat → Nat, (∀ i, i < 64 → f i = g i) → bl 64 f = bl 64 g := fun f g h => by
  unfold bl
  apply List.map_congr_left
  intro i hi
  rw [h i (by simpa using hi)]
 unfold frC
 rw [key A A' h1, key B B' h2]
theorem built_fr0 (A : Nat → Nat) : Try.prog.built 55 [(0, .agg (zb 64 A))] = some (frC A fun _ => 0).toArray := by unfold frC zb bl; kernel_rfl
theorem cvC_zero : (fdC 0 (fun _ => 0)).toArray = Try.zeroCells107 := by unfold fdC bl; kernel_rfl
end Go.Proofs.Ytoncepgcfifgbaa
end
section
set_option linter.unusedVariables false
namespace Go.Proofs.Ytoncepgcfifgbaa
theorem prd_le {p : Nat} {f g : Nat → Nat} {a b : Nat} (hp : 0 < p) (hf : deg f ≤ (a : Int)) (hg : deg g ≤ (b : Int)) : deg (prd p f g) ≤ ((a + b : Nat) : Int) :=
 deg_le (by omega) (fun k h1 _ => prd_above hp (by omega))
end Go.Proofs.Ytoncepgcfifgbaa
end
section
namespace Go.Proofs.Ytoncepgcfifgbaa
open Rg
set_option linter.unusedVariables false
set_option linter.unusedSimpArgs false
attribute [local irreducible] deg invN quoP resP prd bzD bzU bzW
theorem quoP_congr {p : Nat} {a a' m : Nat → Nat} (h : ∀ k, k < 64 → a k = a' k) : quoP p a m = quoP p a' m := by
 have e : cut a = cut a' := by
  funext k; unfold cut
  by_cases hk : k < 64
  · rw [if_pos hk, if_pos hk, h k hk]
  · rw [if_neg hk, if_neg hk]
 unfold quoP; rw [e]
/-- the same square modulo A, for the same B -/
theorem sq_same2 {p : Nat} {D A B C : Nat → Nat} (hp : p = 2 ∨ p = 3 ∨ p = 5 ∨ p = 7) (z : Res p zS) (hz : (rs B : Res p zS) = z * rs A + rs C) (fB : deg B + deg B ≤ 63) (fC : deg C + deg C ≤ 63)
 (h : dv p (lz A) (lz (sqP p D B))) : dv p (lz A) (lz (sqP p D C)) := by
 have hp0 : 0 < p := by omega
 obtain ⟨k, hk⟩ := dv_pr.1 h
 refine dv_pr.2 ⟨k + z * rs B + z * rs C, ?_⟩
 have s1 := rs_subP (p := p) (m := zS) (f := D) (g := prd p B B) (fun k _ => prd_lt hp0 k)
 have s2 := rs_subP (p := p) (m := zS) (f := D) (g := prd p C C) (fun k _ => prd_lt hp0 k)
 rw [rs_prd hp0 fB] at s1
 rw [rs_prd hp0 fC] at s2
 have e1 : (rs (sqP p D C) : Res p zS) + rs C * rs C = rs (sqP p D B) + rs B * rs B := by unfold sqP; rw [s1, s2]
 rw [hk] at e1
 refine cancel (a := rs C * rs C) ?_
 generalize (rs (sqP p D C) : Res p zS) = S at *
 generalize (rs B : Res p zS) = b at *
 generalize (rs C : Res p zS) = c at *
 generalize (rs A : Res p zS) = a at *
 rw [acomm, e1]
 have e3 : b * b = z * a * b + (c * (z * a) + c * c) := by
  have : b * b = (z * a + c) * b := by rw [← hz]
  rw [this, addm]
  congr 1
  rw [hz, madd]
 rw [e3]
 simp only [madd, addm, acomm, aassoc, alcomm, mcomm, massoc, mlcomm]
section
variable {R : Type} [Rg R]
/-- the composition, in letters -/
theorem comp_ring {g a1 a2 c r s t A1 A2 B1 B2 C1 C2 D top : R} (can : ∀ x y : R, x * g = y * g → x = y) (h1 : A1 = a1 * g) (h2 : A2 = a2 * g) (h3 : B1 + B2 = c * g) (hg : g = r * A1 + (s * A2 + t * (B1 + B2)))
 (d1 : D = C1 * A1 + B1 * B1) (d2 : D = C2 * A2 + B2 * B2) (ht : top = r * (A1 * B2) + (s * (A2 * B1) + t * (B1 * B2 + D))) :
 ∃ b3 Z, top = b3 * g ∧ D = Z * (a1 * a2) + b3 * b3 := by
 obtain ⟨δ, hδ⟩ := diff B2 B1
 -- 1 = r a1 + s a2 + t c
 have one : r * a1 + (s * a2 + t * c) = e := can _ _ (by
  rw [emul]
  conv => rhs; rw [hg, h1, h2, h3]
  simp only [addm, massoc])
 -- B3 = B1 + a1 x
 obtain ⟨x, hx⟩ : ∃ x, x = r * δ + t * C1 := ⟨_, rfl⟩
 have hb : top = (B1 + a1 * x) * g := by
  rw [ht]
  have e1 : (B1 + a1 * x) * g = B1 * g + x * A1 := by rw [addm, h1]; congr 1; rw [mcomm a1 x, massoc]
  rw [e1]
  have e2 : B1 * g = B1 * (r * A1) + (B1 * (s * A2) + (B1 * (t * B1) + B1 * (t * B2))) := by
   conv => lhs; rw [hg]
   rw [madd, madd, madd t, madd B1]
  rw [e2, hx, hδ, d1]
  simp only [madd, addm, acomm, aassoc, alcomm, mcomm, massoc, mlcomm]
 -- a1 C1 = δ c + a2 C2
 have k1 : a1 * C1 = δ * c + a2 * C2 := can _ _ (by
  have e1 : C1 * A1 + B1 * B1 = C2 * A2 + B2 * B2 := by rw [← d1, ← d2]
  have e2 : B2 * B2 = δ * (B1 + B2) + B1 * B1 := by
   rw [hδ]
   simp only [madd, addm, acomm, aassoc, alcomm, mcomm]
  rw [e2, h3, h1, h2] at e1
  have e3 : B1 * B1 + C1 * (a1 * g) = B1 * B1 + (C2 * (a2 * g) + δ * (c * g)) := by
   rw [acomm, e1]
   simp only [acomm, aassoc, alcomm]
  have e4 := cancel e3
  rw [addm, massoc δ c g]
  have e5 : a1 * C1 * g = C1 * (a1 * g) := by rw [mcomm a1 C1, massoc]
  have e6 : a2 * C2 * g = C2 * (a2 * g) := by rw [mcomm a2 C2, massoc]
  rw [e5, e6, e4]
  exact acomm _ _)
 -- C1 = x c + a2 (r C2 + s C1)
 have k2 : C1 = x * c + a2 * (r * C2 + s * C1) := by
  have e1 : C1 = C1 * (r * a1 + (s * a2 + t * c)) := by rw [one, mule]
  have e2 : C1 * (r * a1 + (s * a2 + t * c)) = r * (a1 * C1) + (s * (a2 * C1) + t * (c * C1)) := by
   simp only [madd, addm, acomm, aassoc, alcomm, mcomm, massoc, mlcomm]
  rw [e2, k1] at e1
  conv => lhs; rw [e1]
  rw [hx]
  simp only [madd, addm, acomm, aassoc, alcomm, mcomm, massoc, mlcomm]
 -- B3 + a2 s δ = B2 + a2 t C2
 have k3 : (B1 + a1 * x) + a2 * (s * δ) = B2 + a2 * (t * C2) := by
  have e1 : a1 * x = r * (δ * a1) + t * (a1 * C1) := by rw [hx]; simp only [madd, mcomm, massoc, mlcomm]
  have e2 : δ = δ * (r * a1 + (s * a2 + t * c)) := by rw [one, mule]
  rw [e1, k1]
  have e3 : B2 = B1 + δ * (r * a1 + (s * a2 + t * c)) := by rw [← e2]; exact hδ
  rw [e3]
  simp only [madd, addm, acomm, aassoc, alcomm, mcomm, massoc, mlcomm]
 refine ⟨B1 + a1 * x, g * (r * C2 + s * C1) + (x * (s * δ) + -(x * (t * C2))), hb, ?_⟩
 -- D = B1² + a1 C1 g
 have f1 : D = a1 * (g * C1) + B1 * B1 := by rw [d1, h1]; simp only [mcomm, massoc, mlcomm]
 have f2 : (B1 + a1 * x) * (B1 + a1 * x) = B1 * B1 + a1 * (x * (B1 + (B1 + a1 * x))) := by
  simp only [madd, addm, acomm, aassoc, alcomm, mcomm, massoc, mlcomm]
 rw [f1, f2]
 -- g C1 = x (B1 + B3) + a2 Z
 have f3 : g * C1 = x * (B1 + (B1 + a1 * x)) + a2 * (g * (r * C2 + s * C1) + (x * (s * δ) + -(x * (t * C2)))) := by
  refine cancel (a := x * (a2 * (t * C2))) ?_
  have e1 : g * C1 = x * (c * g) + a2 * (g * (r * C2 + s * C1)) := by
   conv => lhs; rw [k2]
   simp only [madd, mcomm, massoc, mlcomm]
  have e2 : x * (B1 + (B1 + a1 * x)) + x * (a2 * (s * δ)) = x * (c * g) + x * (a2 * (t * C2)) := by
   rw [← madd, ← madd, aassoc B1, k3, ← h3, aassoc]
  have e3 : x * (a2 * (t * C2)) + a2 * -(x * (t * C2)) = o := by
   rw [mlcomm x a2, ← madd, acomm, nadd, mulo]
  rw [e1, madd a2, madd a2]
  generalize a2 * (g * (r * C2 + s * C1)) = u at *
  generalize x * (B1 + (B1 + a1 * x)) = v at *
  rw [mlcomm x a2 (s * δ)] at e2
  generalize a2 * (x * (s * δ)) = y at *
  generalize x * (c * g) = z at *
  generalize a2 * -(x * (t * C2)) = n at *
  generalize x * (a2 * (t * C2)) = q at *
  have e4 : q + (v + (u + (y + n))) = (v + y) + (u + (q + n)) := by simp only [acomm, aassoc, alcomm]
  rw [e4, e2, e3, addo]
  simp only [acomm, aassoc, alcomm]
 rw [f3, madd]
 generalize B1 * B1 = u
 generalize a1 * (x * (B1 + (B1 + a1 * x))) = v
 have f4 : ∀ Z : R, a1 * (a2 * Z) = Z * (a1 * a2) := fun Z => by simp only [mcomm, massoc, mlcomm]
 rw [f4]
 simp only [acomm, aassoc, alcomm]
end
end Go.Proofs.Ytoncepgcfifgbaa
end
section
namespace Go.Proofs.Ytoncepgcfifgbaa
open Rg
set_option linter.unusedVariables false
set_option linter.unusedSimpArgs false
attribute [local irreducible] deg invN quoP resP prd bzD bzU bzW
theorem bzRun_vdeg {p : Nat} {d : Int} (hp : p = 2 ∨ p = 3 ∨ p = 5 ∨ p = 7) (hd : 0 ≤ d) : ∀ (n : Nat) (a b u x v y : Nat → Nat), bzI p a b u x v y → deg b + 1 ≤ (n : Int) → deg b < deg a → deg v + deg a ≤ d - 1 → deg y + deg a ≤ d → deg (bzRun p n a b u x v y).2.2 ≤ d - 1
 | n, a, b, u, x, v, y, hI, hn, hlt, h1, h2 => by
  have hp0 : 0 < p := by omega
  obtain ⟨a1, a2⟩ := zdb a
  obtain ⟨b1, b2⟩ := zdb b
  by_cases hz : deg b < 0
  · rw [bzRun_stop hz]
    show deg v ≤ d - 1
    omega
  · cases n with
    | zero => omega
    | succ n =>
     obtain ⟨hI', hdr, hdx, hdy⟩ := bzI_next hp hI hz
     rw [bzRun_go hz]
     obtain ⟨x1, x2⟩ := zdb y
     obtain ⟨u1, u2⟩ := zdb v
     refine bzRun_vdeg hp hd n b (resP p a b) x _ y _ hI' (by push_cast at hn; omega) hdr (by omega) ?_
     have hle : deg (subP p v (prd p (quoP p a b) y)) ≤ d - deg b := by
      refine deg_le (by omega) (fun k hk hk2 => subP_zero (zero_above (f := v) (by omega) hk2) ?_)
      rcases quoP_deg hp0 hI.1 (by omega) (b := b) with hq | hq
      · exact prd_zero_left hp0 (deg_neg (by omega)) k
      · exact prd_above hp0 (by omega)
     omega
theorem bz_le {p N : Nat} {a b : Nat → Nat} (hp : p = 2 ∨ p = 3 ∨ p = 5 ∨ p = 7) (ha : ∀ k, k < 64 → a k < p) (hb : ∀ k, k < 64 → b k < p) (h0 : 0 ≤ deg a) (hN : deg a ≤ (N : Int)) (hM : deg b ≤ (N : Int)) :
 deg (bzU p a b) ≤ (N : Int) ∧ deg (bzW p a b) ≤ (N : Int) := by
 have hp0 : 0 < p := by omega
 have hI := bzI_start (p := p) (a := a) (b := b) (by omega) ha hb (.inl h0)
 have hz0 : deg (fun _ => 0) < 0 := deg_neg_iff.2 (fun _ _ => rfl)
 have scl : ∀ (f : Nat → Nat) (c : Nat), deg f ≤ (N : Int) → deg (sclP p f c) ≤ (N : Int) := fun f c hf => deg_le (by omega) (fun k hk hk2 => by
  unfold sclP
  rw [zero_above (f := f) (by omega) hk2, Nat.zero_mul, Nat.zero_mod])
 suffices h : deg (bzV p a b).2.1 ≤ (N : Int) ∧ deg (bzV p a b).2.2 ≤ (N : Int) by
  unfold bzU bzW
  exact ⟨scl _ _ h.1, scl _ _ h.2⟩
 by_cases hz : deg b < 0
 · have e : bzV p a b = (a, oneP, fun _ => 0) := by unfold bzV; rw [bzRun_stop hz]
   rw [e]
   refine ⟨?_, ?_⟩
   · show deg oneP ≤ (N : Int)
     rw [deg_one]; omega
   · show deg (fun _ => 0) ≤ (N : Int)
     omega
 · obtain ⟨hI', hdr, _, _⟩ := bzI_next hp hI hz
   obtain ⟨m1, m2⟩ := zdb b
   obtain ⟨z1, _⟩ := zdb (fun _ => 0)
   have hV : bzV p a b = bzRun p 64 b (resP p a b) (fun _ => 0) (subP p oneP (prd p (quoP p a b) (fun _ => 0))) oneP (subP p (fun _ => 0) (prd p (quoP p a b) oneP)) := by
    unfold bzV; rw [bzRun_go hz]
   rw [hV]
   constructor
   · have key := bzRun_udeg (d := deg b + 1) hp (by omega) 64 b (resP p a b) (fun _ => 0) (subP p oneP (prd p (quoP p a b) (fun _ => 0))) oneP (subP p (fun _ => 0) (prd p (quoP p a b) oneP)) hI' (by omega) hdr (by omega) (by
      have : deg (subP p oneP (prd p (quoP p a b) (fun _ => 0))) ≤ 0 := deg_le (by omega) (fun k hk hk2 => subP_zero (by unfold oneP; rw [if_neg (by omega)]) (prd_zero_right hp0 (fun _ _ => rfl) k))
      omega)
     omega
   · have key := bzRun_vdeg (d := (N : Int) + 1) hp (by omega) 64 b (resP p a b) (fun _ => 0) (subP p oneP (prd p (quoP p a b) (fun _ => 0))) oneP (subP p (fun _ => 0) (prd p (quoP p a b) oneP)) hI' (by omega) hdr (by rw [deg_one]; omega) (by
      have hq := quoP_deg hp0 ha (b := b) (by omega)
      have : deg (subP p (fun _ => 0) (prd p (quoP p a b) oneP)) ≤ (N : Int) + 1 - deg b := by
       refine deg_le (by omega) (fun k hk hk2 => subP_zero rfl ?_)
       rcases hq with hq | hq
       · exact prd_zero_left hp0 (deg_neg (by omega)) k
       · exact prd_above hp0 (by rw [deg_one]; omega)
      omega)
     omega
theorem one_of_dvd {p v : Nat} (hp : 2 ≤ p) (hv : v < p) (h : (p : Int) ∣ (v : Int) - 1) : v = 1 := by
 have := dvd_small h (by omega) (by omega)
 omega
theorem mz_lead {f g : Nat → Nat} {a b p : Nat} (ha : deg f = (a : Int)) (hb : deg g = (b : Int)) : (p : Int) ∣ mz (lz f) (lz g) (a + b) - (f a : Int) * (g b : Int) := by
 obtain ⟨a1, a2, a3⟩ := deg_top ha
 obtain ⟨b1, b2, b3⟩ := deg_top hb
 have h2 : (p : Int) ∣ mz (lz f) (lz g) (a + b) - lz f a * lz g (a + b - a) := cs_but (t := fun i => lz f i * lz g (a + b - i)) (a + b + 1) (by omega) (fun i hi hne => by
  by_cases h : a < i
  · rw [lz_above ha h, Int.zero_mul]; exact ⟨0, by simp⟩
  · rw [lz_above hb (show b < a + b - i by omega), Int.mul_zero]; exact ⟨0, by simp⟩)
 rwa [show a + b - a = b by omega, show lz f a = (f a : Int) by unfold lz; rw [cut_in f a1], show lz g b = (g b : Int) by unfold lz; rw [cut_in g b1]] at h2
theorem mon_prd {p a b : Nat} {f g : Nat → Nat} (hp : p = 2 ∨ p = 3 ∨ p = 5 ∨ p = 7) (lf : ∀ k, k < 64 → f k < p) (lg : ∀ k, k < 64 → g k < p) (hf : mon f a) (hg : mon g b) (hab : a + b ≤ 63) : mon (prd p f g) (a + b) := by
 refine ⟨prd_deg hp lf lg hf.1 hg.1 hab, one_of_dvd (by omega) (prd_lt (by omega) _) ?_⟩
 have h1 := prd_mz p f g (a + b)
 have h2 := mz_lead (p := p) hf.1 hg.1
 rw [hf.2, hg.2] at h2
 have h3 := Int.dvd_add h1 h2
 rwa [show (prd p f g (a + b) : Int) - mz (lz f) (lz g) (a + b) + (mz (lz f) (lz g) (a + b) - ((1 : Nat) : Int) * ((1 : Nat) : Int)) = (prd p f g (a + b) : Int) - 1 by omega] at h3
theorem mon_quo {p n d j : Nat} {a q m : Nat → Nat} (hp : p = 2 ∨ p = 3 ∨ p = 5 ∨ p = 7) (lq : ∀ k, k < 64 → q k < p) (ha : mon a n) (hm : mon m d) (hq : deg q = (j : Int)) (hj : j + d = n) (h : cg p (lz a) (mz (lz q) (lz m))) : mon q j := by
 obtain ⟨q1, q2, q3⟩ := deg_top hq
 refine ⟨hq, one_of_dvd (by omega) (lq j q1) ?_⟩
 have h1 := h n
 rw [(mon_S ha).1] at h1
 have h2 := mz_lead (p := p) hq hm.1
 rw [hm.2, hj] at h2
 have h3 := Int.dvd_add h1 h2
 have h4 : (p : Int) ∣ 1 - (q j : Int) := by
  rwa [show (1 : Int) - mz (lz q) (lz m) n + (mz (lz q) (lz m) n - (q j : Int) * ((1 : Nat) : Int)) = 1 - (q j : Int) by omega] at h3
 have h5 := Int.dvd_neg.2 h4
 rwa [show -(1 - (q j : Int)) = (q j : Int) - 1 by omega] at h5
/-- the composition -/
def cpR (p : Nat) (A1 B1 A2 B2 : Nat → Nat) : Nat → Nat := prd p (bzU p (bzD p A1 A2) (addK p B1 B2 1)) (bzU p A1 A2)
def cpS (p : Nat) (A1 B1 A2 B2 : Nat → Nat) : Nat → Nat := prd p (bzU p (bzD p A1 A2) (addK p B1 B2 1)) (bzW p A1 A2)
def cpT (p : Nat) (A1 B1 A2 B2 : Nat → Nat) : Nat → Nat := bzW p (bzD p A1 A2) (addK p B1 B2 1)
def cpD (p : Nat) (A1 B1 A2 B2 : Nat → Nat) : Nat → Nat := bzD p (bzD p A1 A2) (addK p B1 B2 1)
def cpL (p : Nat) (D A1 B1 A2 B2 : Nat → Nat) : Nat → Nat := prd p (cpT p A1 B1 A2 B2) (addK p (prd p B1 B2) D 1)
def cpQ (p : Nat) (D A1 B1 A2 B2 : Nat → Nat) : Nat → Nat :=
 addK p (addK p (prd p (cpR p A1 B1 A2 B2) (prd p A1 B2)) (prd p (cpS p A1 B1 A2 B2) (prd p A2 B1)) 1) (cpL p D A1 B1 A2 B2) 1
def cpM (p : Nat) (D A1 B1 A2 B2 : Nat → Nat) : Nat → Nat :=
 addK p (addK p (prd p (prd p (cpR p A1 B1 A2 B2) A1) B2) (prd p (prd p (cpS p A1 B1 A2 B2) A2) B1) 1) (cpL p D A1 B1 A2 B2) 1
def cpB (p : Nat) (D A1 B1 A2 B2 : Nat → Nat) : Nat → Nat := quoP p (cpQ p D A1 B1 A2 B2) (cpD p A1 B1 A2 B2)
def cpA (p : Nat) (A1 B1 A2 B2 : Nat → Nat) : Nat → Nat := quoP p (prd p A1 A2) (prd p (cpD p A1 B1 A2 B2) (cpD p A1 B1 A2 B2))
/-- a reduced form -/
def fmR (p : Nat) (D A B : Nat → Nat) (g : Nat) : Prop := fmI p D A B ∧ deg A ≤ (g : Int)
section
variable {p g : Nat} {D A1 B1 A2 B2 : Nat → Nat} (hp : p = 2 ∨ p = 3 ∨ p = 5 ∨ p = 7) (lD : ∀ k, k < 64 → D k < p) (hD : deg D = ((2 * g + 1 : Nat) : Int)) (hg : g ≤ 2) (h1 : fmR p D A1 B1 g) (h2 : fmR p D A2 B2 g)
include hp lD hD hg h1 h2
/-- what all products need -/
theorem cp_deg : 0 ≤ deg A1 ∧ 0 ≤ deg A2 ∧ deg A1 ≤ 2 ∧ deg A2 ≤ 2 ∧ deg B1 ≤ 1 ∧ deg B2 ≤ 1 ∧ deg (bzU p A1 A2) ≤ 2 ∧ deg (bzW p A1 A2) ≤ 2 ∧ (∃ e : Nat, mon (bzD p A1 A2) e ∧ e ≤ 2) ∧
 deg (addK p B1 B2 1) ≤ 1 ∧ deg (bzU p (bzD p A1 A2) (addK p B1 B2 1)) ≤ 2 ∧ deg (cpT p A1 B1 A2 B2) ≤ 2 ∧ (∃ e : Nat, mon (cpD p A1 B1 A2 B2) e ∧ e ≤ 2) ∧ deg (cpR p A1 B1 A2 B2) ≤ 4 ∧ deg (cpS p A1 B1 A2 B2) ≤ 4 ∧
 deg (prd p B1 B2) ≤ 2 ∧ deg (addK p (prd p B1 B2) D 1) ≤ 5 := by
 have _u0 := lD
 have hp0 : 0 < p := by omega
 obtain ⟨⟨lA1, lB1, ⟨n1, m1, _⟩, b1, _⟩, r1⟩ := h1
 obtain ⟨⟨lA2, lB2, ⟨n2, m2, _⟩, b2, _⟩, r2⟩ := h2
 have a1 : 0 ≤ deg A1 := by rw [m1.1]; omega
 have a2 : 0 ≤ deg A2 := by rw [m2.1]; omega
 obtain ⟨u1, u2⟩ := bz_le (N := 2) hp lA1 lA2 a1 (by omega) (by omega)
 obtain ⟨c1, ⟨e1, c2⟩, _, c4⟩ := bz_all hp lA1 lA2 (.inl a1)
 have d1 := (c4 _).1 (dv_self (p := p) (lz (bzD p A1 A2)))
 have le1 := dv_deg lA1 c2 d1.1 a1
 have s1 : deg (addK p B1 B2 1) < 2 := deg_addK hp0 (by omega) (by omega) (by omega)
 have ls : ∀ k, k < 64 → addK p B1 B2 1 k < p := fun k _ => addK_lt hp0 k
 have g0 : 0 ≤ deg (bzD p A1 A2) := by rw [c2.1]; omega
 obtain ⟨w1, w2⟩ := bz_le (N := 2) hp (fun k _ => c1 k) ls g0 (by rw [c2.1]; omega) (by omega)
 obtain ⟨f1, ⟨e2, f2⟩, _, f4⟩ := bz_all hp (fun k _ => c1 k) ls (.inl g0)
 have d2 := (f4 _).1 (dv_self (p := p) (lz (bzD p (bzD p A1 A2) (addK p B1 B2 1))))
 have le2 := dv_deg (fun k _ => c1 k) f2 d2.1 g0
 have pb : deg (prd p B1 B2) ≤ ((1 + 1 : Nat) : Int) := prd_le hp0 (by omega) (by omega)
 have pr : deg (cpR p A1 B1 A2 B2) ≤ ((2 + 2 : Nat) : Int) := prd_le hp0 (by omega) (by omega)
 have ps : deg (cpS p A1 B1 A2 B2) ≤ ((2 + 2 : Nat) : Int) := prd_le hp0 (by omega) (by omega)
 have pl : deg (addK p (prd p B1 B2) D 1) < 6 := deg_addK hp0 (by omega) (by omega) (by omega)
 exact ⟨a1, a2, by omega, by omega, by omega, by omega, by omega, by omega, ⟨e1, c2, by rw [c2.1] at *; omega⟩, by omega, by omega, by unfold cpT; omega, ⟨e2, f2, by have := c2.1; omega⟩, by omega, by omega, by omega, by omega⟩
theorem cp_lt : (∀ k, cpR p A1 B1 A2 B2 k < p) ∧ (∀ k, cpS p A1 B1 A2 B2 k < p) ∧ (∀ k, cpT p A1 B1 A2 B2 k < p) ∧ (∀ k, cpD p A1 B1 A2 B2 k < p) ∧ (∀ k, bzD p A1 A2 k < p) := by
 have _u0 := lD
 have _u1 := hD
 have _u2 := hg
 have hp0 : 0 < p := by omega
 obtain ⟨⟨lA1, lB1, ⟨n1, m1, _⟩, b1, _⟩, r1⟩ := h1
 obtain ⟨⟨lA2, lB2, ⟨n2, m2, _⟩, b2, _⟩, r2⟩ := h2
 have a1 : 0 ≤ deg A1 := by rw [m1.1]; omega
 obtain ⟨c1, ⟨e1, c2⟩, _, c4⟩ := bz_all hp lA1 lA2 (.inl a1)
 have g0 : 0 ≤ deg (bzD p A1 A2) := by rw [c2.1]; omega
 obtain ⟨f1, _⟩ := bz_all hp (fun k _ => c1 k) (fun k _ => addK_lt (p := p) (f := B1) (g := B2) (c := 1) hp0 k) (.inl g0)
 exact ⟨fun k => prd_lt hp0 k, fun k => prd_lt hp0 k, fun k => by unfold cpT bzW; exact Nat.mod_lt _ hp0, f1, c1⟩
theorem cp_same : ∀ k, k < 64 → cpM p D A1 B1 A2 B2 k = cpQ p D A1 B1 A2 B2 k := by
 have hp0 : 0 < p := by omega
 obtain ⟨a1, a2, a3, a4, b1, b2, u1, u2, _, s1, w1, t1, _, r1, r2, pb, pl⟩ := cp_deg hp lD hD hg h1 h2
 have q1 : deg (prd p (cpR p A1 B1 A2 B2) A1) ≤ ((4 + 2 : Nat) : Int) := prd_le hp0 (by omega) (by omega)
 have q2 : deg (prd p (cpS p A1 B1 A2 B2) A2) ≤ ((4 + 2 : Nat) : Int) := prd_le hp0 (by omega) (by omega)
 have q3 : deg (prd p A1 B2) ≤ ((2 + 1 : Nat) : Int) := prd_le hp0 (by omega) (by omega)
 have q4 : deg (prd p A2 B1) ≤ ((2 + 1 : Nat) : Int) := prd_le hp0 (by omega) (by omega)
 refine pr_same ?_ (fun k _ => addK_lt hp0 k) (fun k _ => addK_lt hp0 k)
 unfold cpM cpQ
 rw [rs_add hp0, rs_add hp0, rs_add hp0, rs_add hp0, rs_prd hp0 (by omega), rs_prd hp0 (by omega), rs_prd hp0 (by omega), rs_prd hp0 (by omega), rs_prd hp0 (by omega), rs_prd hp0 (by omega), rs_prd hp0 (by omega), rs_prd hp0 (by omega), massoc, massoc]
theorem cp_ok : fmI p D (cpA p A1 B1 A2 B2) (resP p (cpB p D A1 B1 A2 B2) (cpA p A1 B1 A2 B2)) := by
 have hp0 : 0 < p := by omega
 obtain ⟨a1, a2, a3, a4, b1, b2, u1, u2, ⟨e1, mG, _⟩, s1, w1, t1, ⟨e, mD, he⟩, r1, r2, pb, pl⟩ := cp_deg hp lD hD hg h1 h2
 obtain ⟨lR, lS, lT, lC, lG⟩ := cp_lt hp lD hD hg h1 h2
 obtain ⟨⟨lA1, lB1, ⟨n1, m1, _⟩, _, v1⟩, _⟩ := h1
 obtain ⟨⟨lA2, lB2, ⟨n2, m2, _⟩, _, v2⟩, _⟩ := h2
 have ls : ∀ k, k < 64 → addK p B1 B2 1 k < p := fun k _ => addK_lt hp0 k
 obtain ⟨_, _, c3, c4⟩ := bz_all hp lA1 lA2 (.inl a1)
 obtain ⟨_, _, f3, f4⟩ := bz_all hp (fun k _ => lG k) ls (.inl (show 0 ≤ deg (bzD p A1 A2) by rw [mG.1]; omega))
 have dG := (c4 _).1 (dv_self (p := p) (lz (bzD p A1 A2)))
 have dD := (f4 _).1 (dv_self (p := p) (lz (bzD p (bzD p A1 A2) (addK p B1 B2 1))))
 obtain ⟨x1, hx1⟩ := dv_pr.1 (dv_trans dD.1 dG.1)
 obtain ⟨x2, hx2⟩ := dv_pr.1 (dv_trans dD.1 dG.2)
 obtain ⟨x3, hx3⟩ := dv_pr.1 dD.2
 rw [rs_add hp0] at hx3
 obtain ⟨C1, k1⟩ := dv_pr.1 v1
 obtain ⟨C2, k2⟩ := dv_pr.1 v2
 have y1 := rs_subP (p := p) (m := zS) (f := D) (g := prd p B1 B1) (fun k _ => prd_lt hp0 k)
 have y2 := rs_subP (p := p) (m := zS) (f := D) (g := prd p B2 B2) (fun k _ => prd_lt hp0 k)
 rw [rs_prd hp0 (by omega)] at y1 y2
 rw [show (rs (subP p D (prd p B1 B1)) : Res p zS) = C1 * rs A1 from k1] at y1
 rw [show (rs (subP p D (prd p B2 B2)) : Res p zS) = C2 * rs A2 from k2] at y2
 have hgG : (rs (bzD p A1 A2) : Res p zS) = rs (bzU p A1 A2) * rs A1 + rs (bzW p A1 A2) * rs A2 := cl_eq.2 (rm_of_cg c3)
 have hgD : (rs (cpD p A1 B1 A2 B2) : Res p zS) = rs (bzU p (bzD p A1 A2) (addK p B1 B2 1)) * rs (bzD p A1 A2) + rs (cpT p A1 B1 A2 B2) * rs (addK p B1 B2 1) := cl_eq.2 (rm_of_cg f3)
 have hR : (rs (cpR p A1 B1 A2 B2) : Res p zS) = rs (bzU p (bzD p A1 A2) (addK p B1 B2 1)) * rs (bzU p A1 A2) := rs_prd hp0 (by omega)
 have hS : (rs (cpS p A1 B1 A2 B2) : Res p zS) = rs (bzU p (bzD p A1 A2) (addK p B1 B2 1)) * rs (bzW p A1 A2) := rs_prd hp0 (by omega)
 have hgg : (rs (cpD p A1 B1 A2 B2) : Res p zS) = rs (cpR p A1 B1 A2 B2) * rs A1 + (rs (cpS p A1 B1 A2 B2) * rs A2 + rs (cpT p A1 B1 A2 B2) * (rs B1 + rs B2)) := by
  rw [hgD, hgG, rs_add hp0, madd (rs (bzU p (bzD p A1 A2) (addK p B1 B2 1))), hR, hS, massoc, massoc, aassoc]
 have q3 : deg (prd p A1 B2) ≤ ((2 + 1 : Nat) : Int) := prd_le hp0 (by omega) (by omega)
 have q4 : deg (prd p A2 B1) ≤ ((2 + 1 : Nat) : Int) := prd_le hp0 (by omega) (by omega)
 have htop : (rs (cpQ p D A1 B1 A2 B2) : Res p zS) = rs (cpR p A1 B1 A2 B2) * (rs A1 * rs B2) + (rs (cpS p A1 B1 A2 B2) * (rs A2 * rs B1) + rs (cpT p A1 B1 A2 B2) * (rs B1 * rs B2 + rs D)) := by
  unfold cpQ cpL
  rw [rs_add hp0, rs_add hp0, rs_prd hp0 (by omega), rs_prd hp0 (by omega), rs_prd hp0 (by omega), rs_prd hp0 (by omega), rs_prd hp0 (by omega), rs_add hp0, rs_prd hp0 (by omega), aassoc]
 obtain ⟨b3, Z, z1, z2⟩ := comp_ring (fun x y h => pr_cancel mD x y h) hx1 hx2 hx3 hgg y1.symm y2.symm htop
 -- the quotients
 have lN : ∀ k, k < 64 → cpQ p D A1 B1 A2 B2 k < p := fun k _ => addK_lt hp0 k
 have d0 : 0 ≤ deg (cpD p A1 B1 A2 B2) := by rw [mD.1]; omega
 have hres : deg (resP p (cpQ p D A1 B1 A2 B2) (cpD p A1 B1 A2 B2)) < 0 := (res_zero_iff hp lN (fun k _ => lC k) d0).2 (dv_pr.2 ⟨b3, z1⟩)
 have hB := divP hp lN (fun k _ => lC k) d0
 rw [lz_neg hres, az_zS] at hB
 have eB : (rs (cpB p D A1 B1 A2 B2) : Res p zS) = b3 := pr_cancel mD _ _ (by rw [← z1]; exact (cl_eq.2 (rm_of_cg hB)).symm)
 have mAA := mon_prd hp lA1 lA2 m1 m2 (by have := m1.1; have := m2.1; omega)
 have mDD := mon_prd hp (fun k _ => lC k) (fun k _ => lC k) mD mD (by omega)
 have lAA : ∀ k, k < 64 → prd p A1 A2 k < p := fun k _ => prd_lt hp0 k
 have lDD : ∀ k, k < 64 → prd p (cpD p A1 B1 A2 B2) (cpD p A1 B1 A2 B2) k < p := fun k _ => prd_lt hp0 k
 have eAA : (rs (prd p A1 A2) : Res p zS) = x1 * x2 * rs (prd p (cpD p A1 B1 A2 B2) (cpD p A1 B1 A2 B2)) := by
  rw [rs_prd hp0 (by omega), rs_prd hp0 (by rw [mD.1]; omega), hx1, hx2]
  show x1 * rs (cpD p A1 B1 A2 B2) * (x2 * rs (cpD p A1 B1 A2 B2)) = _
  simp only [mcomm, massoc, mlcomm]
 obtain ⟨g1, g2⟩ := quo_exact hp lAA lDD mDD (by rw [mAA.1]; omega) (dv_pr.2 ⟨_, eAA⟩)
 have eA : (rs (cpA p A1 B1 A2 B2) : Res p zS) = x1 * x2 := pr_cancel mDD _ _ (by rw [← eAA]; exact (cl_eq.2 (rm_of_cg g1)).symm)
 have leD : e + e ≤ n1 + n2 := by
  have := dv_deg lA1 mD (dv_pr.2 ⟨x1, hx1⟩) a1
  have := dv_deg lA2 mD (dv_pr.2 ⟨x2, hx2⟩) a2
  have := m1.1
  have := m2.1
  omega
 have lA3 : ∀ k, k < 64 → cpA p A1 B1 A2 B2 k < p := fun k _ => quoP_lt hp0 k
 have mA : mon (cpA p A1 B1 A2 B2) (n1 + n2 - (e + e)) := mon_quo hp lA3 mAA mDD (by
  have e2 := mAA.1
  unfold cpA; omega) (by omega) g1
 have hA0 : 0 ≤ deg (cpA p A1 B1 A2 B2) := by rw [mA.1]; omega
 have lB3 : ∀ k, k < 64 → cpB p D A1 B1 A2 B2 k < p := fun k _ => quoP_lt hp0 k
 have hBd := resP_deg hp lB3 lA3 hA0
 have hA4 : deg (cpA p A1 B1 A2 B2) ≤ 4 := by
  have := m1.1
  have := m2.1
  rw [mA.1]; omega
 have hN8 : deg (cpQ p D A1 B1 A2 B2) < 8 := by
  have k1 : deg (prd p (cpR p A1 B1 A2 B2) (prd p A1 B2)) ≤ ((4 + 3 : Nat) : Int) := prd_le hp0 (by omega) (by omega)
  have k2 : deg (prd p (cpS p A1 B1 A2 B2) (prd p A2 B1)) ≤ ((4 + 3 : Nat) : Int) := prd_le hp0 (by omega) (by omega)
  have k3 : deg (cpL p D A1 B1 A2 B2) ≤ ((2 + 5 : Nat) : Int) := prd_le hp0 (by omega) (by omega)
  exact deg_addK hp0 (by omega) (deg_addK hp0 (by omega) (by omega) (by omega)) (by omega)
 have hB8 : deg (cpB p D A1 B1 A2 B2) < 8 := by
  have := quoP_deg (b := cpD p A1 B1 A2 B2) hp0 lN d0
  unfold cpB; omega
 refine ⟨lA3, fun k hk => resP_lt hp0 lB3 k hk, ⟨_, mA, by have := m1.1; have := m2.1; omega⟩, hBd.1, ?_⟩
 have hdiv : (rs (cpB p D A1 B1 A2 B2) : Res p zS) = rs (quoP p (cpB p D A1 B1 A2 B2) (cpA p A1 B1 A2 B2)) * rs (cpA p A1 B1 A2 B2) + rs (resP p (cpB p D A1 B1 A2 B2) (cpA p A1 B1 A2 B2)) := cl_eq.2 (rm_of_cg (divP hp lB3 lA3 hA0))
 refine sq_same2 hp _ hdiv (by omega) (by omega) (dv_pr.2 ⟨Z, ?_⟩)
 have y3 := rs_subP (p := p) (m := zS) (f := D) (g := prd p (cpB p D A1 B1 A2 B2) (cpB p D A1 B1 A2 B2)) (fun k _ => prd_lt hp0 k)
 rw [rs_prd hp0 (by omega), eB, z2, ← eA] at y3
 rw [acomm, acomm (Z * _)] at y3
 exact cancel y3
end
theorem rdR_ok {p g : Nat} {D : Nat → Nat} (hp : p = 2 ∨ p = 3 ∨ p = 5 ∨ p = 7) (lD : ∀ k, k < 64 → D k < p) (hD : deg D = ((2 * g + 1 : Nat) : Int)) : ∀ (f : Nat) (A B : Nat → Nat), fmI p D A B → deg A ≤ (f : Int) → fmR p D (rdR p D g f A B).1 (rdR p D g f A B).2 g
 | 0, A, B, h, hf => ⟨h, by show deg A ≤ (g : Int); omega⟩
 | f + 1, A, B, h, hf => by
  by_cases hl : deg A ≤ (g : Int)
  · rw [rdR_stop hl]; exact ⟨h, hl⟩
  · rw [rdR_go hl]
    obtain ⟨s1, s2, _⟩ := rd_step hp lD hD h (by omega)
    exact rdR_ok hp lD hD f _ _ s1 (by omega)
/-- the composition, reduced -/
def cpF (p : Nat) (D : Nat → Nat) (g : Nat) (A1 B1 A2 B2 : Nat → Nat) : (Nat → Nat) × (Nat → Nat) := rdR p D g 64 (cpA p A1 B1 A2 B2) (resP p (cpB p D A1 B1 A2 B2) (cpA p A1 B1 A2 B2))
theorem cpF_ok {p g : Nat} {D A1 B1 A2 B2 : Nat → Nat} (hp : p = 2 ∨ p = 3 ∨ p = 5 ∨ p = 7) (lD : ∀ k, k < 64 → D k < p) (hD : deg D = ((2 * g + 1 : Nat) : Int)) (hg : g ≤ 2) (h1 : fmR p D A1 B1 g) (h2 : fmR p D A2 B2 g) :
 fmR p D (cpF p D g A1 B1 A2 B2).1 (cpF p D g A1 B1 A2 B2).2 g :=
 rdR_ok hp lD hD 64 _ _ (cp_ok hp lD hD hg h1 h2) (by have := zdb (cpA p A1 B1 A2 B2); omega)
end Go.Proofs.Ytoncepgcfifgbaa
end
section
namespace Go.Proofs.Ytoncepgcfifgbaa
open Go Go.RowKit
set_option linter.unusedVariables false
set_option linter.unusedSimpArgs false
attribute [local irreducible] deg invN quoP resP prd bzD bzU bzW sqP ngP mkP
set_option maxRecDepth 100000 in
set_option maxHeartbeats 3200000 in
theorem unitForm_any (w : World) : Calls Try.prog 140 #[] w fun e w' => e = .returned (.agg (frC oneP (fun _ => 0)).toArray) ∧ Below w.heap.size w w' := by
 go_enter Try.func140, Try.ntmps140
 go_upto_region 1 with (fail)
 rw [← frC_zero]
 obtain ⟨W1, hwo⟩ : ∃ v : World, v = (w.alloc (.cells (frC (fun _ => 0) (fun _ => 0)).toArray 55)) := ⟨_, rfl⟩
 have B0 : Row W1 (w.heap.size) 55 (frC (fun _ => 0) (fun _ => 0)).toArray := by subst hwo; have := (Row.new w 55 (frC (fun _ => 0) (fun _ => 0)).toArray); simpa using this
 have hb : Below w.heap.size w W1 := by subst hwo; exact ((Below.refl _ _).alloc (Nat.le_refl _) _)
 rw [← hwo]
 clear hwo
 have lt_B0 := B0.lt
 go_wp2_with (first | rw [← z64] | (refine zbo rfl 23 _ rfl (zb 64 oneP) (by rw [Array.toList_map]; show Try.prog.built 23 [(0, .int .u8 1)] = some (zb 64 oneP); exact built_one) ?_) | (refine zbo rfl 55 _ rfl (frC oneP fun _ => 0).toArray (by rw [Array.toList_map]; exact built_fr0 oneP) ?_) | (refine wpList_store_rowv rfl 55 (.tmp 0) (.tmp 2) rfl _ rfl (frC oneP (fun _ => 0)).toArray rfl 55 _ (B0) 128 Try.size55 (by simp [frC_len]) (by simp [frC_len]) (frC_all _ _) ?_; try simp only [Act.put]))
 obtain ⟨W2, hwo, hzQ⟩ : ∃ v : World, v = (W1.setRow (w.heap.size) (frC oneP (fun _ => 0)).toArray) ∧ Row v (w.heap.size) 55 (frC oneP (fun _ => 0)).toArray ∧ Below w.heap.size w v := ⟨_, rfl, (B0.row (frC oneP (fun _ => 0)).toArray), (zr hb (by omega) _)⟩
 rw [← hwo]
 clear hwo B0 hb
 obtain ⟨B0, hb⟩ := hzQ
 try simp only [Act.put, pA, pB, pC]
 refine bodyPost_ret (results_row rfl _ _ _ _ _ rfl B0 _ Try.underlying55 rfl (by rw [Try.size55]; simp [frC_len])) rfl ⟨rfl, hb⟩
set_option maxRecDepth 100000 in
set_option maxHeartbeats 3200000 in
theorem l07Unit_any (w : World) : Calls Try.prog 138 #[] w fun e w' => e = .returned (.agg (frC oneP (fun _ => 0)).toArray) ∧ Below w.heap.size w w' := by
 go_enter Try.func138, Try.ntmps138
 go_upto_region 1 with (fail)
 rw [← frC_zero]
 obtain ⟨W1, hwo⟩ : ∃ v : World, v = (w.alloc (.cells (frC (fun _ => 0) (fun _ => 0)).toArray 55)) := ⟨_, rfl⟩
 have B0 : Row W1 (w.heap.size) 55 (frC (fun _ => 0) (fun _ => 0)).toArray := by subst hwo; have := (Row.new w 55 (frC (fun _ => 0) (fun _ => 0)).toArray); simpa using this
 have hb : Below w.heap.size w W1 := by subst hwo; exact ((Below.refl _ _).alloc (Nat.le_refl _) _)
 rw [← hwo]
 clear hwo
 have lt_B0 := B0.lt
 go_wp2_with (first | rw [← z64] | (go_at_call 90; refine (l01One_any _).mono ?_; rintro e W2 ⟨rfl, hW2⟩; replace B0 := B0.zw hW2; replace hb := (hb).trans (hW2.mono (hb).size)) | (refine zbo rfl 55 _ rfl (frC oneP fun _ => 0).toArray (by rw [Array.toList_map]; exact built_fr0 oneP) ?_) | (refine wpList_store_rowv rfl 55 (.tmp 0) (.tmp 2) rfl _ rfl (frC oneP (fun _ => 0)).toArray rfl 55 _ (B0) 128 Try.size55 (by simp [frC_len]) (by simp [frC_len]) (frC_all _ _) ?_; try simp only [Act.put]))
 obtain ⟨W3, hwo, hzQ⟩ : ∃ v : World, v = (W2.setRow (w.heap.size) (frC oneP (fun _ => 0)).toArray) ∧ Row v (w.heap.size) 55 (frC oneP (fun _ => 0)).toArray ∧ Below w.heap.size w v := ⟨_, rfl, (B0.row (frC oneP (fun _ => 0)).toArray), (zr hb (by omega) _)⟩
 rw [← hwo]
 clear hwo B0 hb
 obtain ⟨B0, hb⟩ := hzQ
 try simp only [Act.put, pA, pB, pC]
 refine bodyPost_ret (results_row rfl _ _ _ _ _ rfl B0 _ Try.underlying55 rfl (by rw [Try.size55]; simp [frC_len])) rfl ⟨rfl, hb⟩
end Go.Proofs.Ytoncepgcfifgbaa
end
