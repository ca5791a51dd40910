/-
  What the rows of this claim rest on: arrays of bytes, walks of the functions, plain mathematics.
-/
import Derived.Test.YteloknnooebabaaZa7
import Derived.WalkKit
import Derived.WalkSpells
import Derived.WalkLawsBesides
import Derived.Lib.Hide
import Derived.Laws.Rows
import Derived.Laws.CopyOwn
import Derived.Deep.QuietTactic
import Derived.Deep.WholeRow
import Derived.Deep.Draws
import Derived.Deep.MidRow
import Derived.Deep.CutRange
import Derived.Deep.DeepCutAuto
import Derived.Deep.RegionHeld3
import Derived.BigQuiet
import Derived.BigRegion
import Derived.Laws.Tables
import Derived.Laws.StructEq
import Derived.OpenShut
import Derived.ProofKit
import Derived.Test.YteloknnooebabaaRows
import Derived.Great.BuildSlice
import Derived.ScopeJumps
import Derived.OwnWalk
import Derived.RangeFuncNested
import Derived.RangeFuncBound
import Derived.RangeFuncCalls
import Derived.RangeFuncLeaves
import Derived.Shelf.Abstract
import Derived.Shelf.RegionOpen
import Derived.OwnWalkIn
import Derived.TacticsInMore
import Derived.LoopNIn
import Derived.LoopIn
import Derived.Deep.CutBlock
import Derived.Maps.OwnOps
import Derived.DeepKeys4
import Derived.Carry
import Derived.Test.YteloknnooebabaaProg
import Derived.Handy
import Derived.Laws.MakeOwn
section
namespace Go.Proofs.Yteloknnooebabaa
open Go Go.RowKit
set_option linter.unusedVariables false
theorem fl_at {c : Nat} {F : Nat → Nat → Nat} {i j : Nat} (hj : j < c) : fl c F (i * c + j) = F i j := by
 unfold fl
 rw [Nat.mul_comm i c, Nat.mul_add_div (by omega), Nat.div_eq_of_lt hj, Nat.mul_add_mod, Nat.mod_eq_of_lt hj, Nat.add_zero]
theorem fl_zero (c : Nat) : fl c (fun _ _ => 0) = fun _ => 0 := by delta fl; rfl
/-- m cells from o on replaced -/
def sub (f : Nat → Nat) (o m : Nat) (g : Nat → Nat) : Nat → Nat := fun k => if o ≤ k ∧ k < o + m then g (k - o) else f k
theorem setCells_row {b : Nat} {t : TypeId} : ∀ (vs : List Value) (o : Nat) (w : World) (cs : Array Value), w.heap[b]? = some (.cells cs t (0, 0)) →
 w.setCells b o vs = w.setRow b ((vs.zipIdx 0).foldl (fun (c : Array Value) (x : Value × Nat) => c.setIfInBounds (o + x.2) x.1) cs) := by
 intro vs
 induction vs with
 | nil =>
  intro o w cs h
  simp only [World.setCells, List.zipIdx_nil, List.foldl_nil]
  exact (setRow_self w b cs t (0, 0) h).symm
 | cons v vs ih =>
  intro o w cs h
  rw [World.setCells, ih (o + 1) _ _ (heap_setCell_same _ _ _ _ _ _ h)]
  rw [List.zipIdx_cons, List.foldl_cons]
  have e : ∀ (l : List Value) (k : Nat) (c : Array Value), (l.zipIdx k).foldl (fun (c : Array Value) (x : Value × Nat) => c.setIfInBounds (o + 1 + x.2) x.1) c = (l.zipIdx (k + 1)).foldl (fun (c : Array Value) (x : Value × Nat) => c.setIfInBounds (o + x.2) x.1) c := by
   intro l
   induction l with
   | nil => intro k c; rfl
   | cons y l ihl =>
    intro k c
    simp only [List.zipIdx_cons, List.foldl_cons]
    rw [ihl (k + 1), show o + 1 + k = o + (k + 1) by omega]
  rw [e, Nat.zero_add, Nat.add_zero]
  rw [setCell_eq_setRow w b o cs t (0, 0) v h, setRow_setRow]
theorem Blk.range_at {w : World} {b n : Nat} {t : TypeId} {f : Nat → Nat} (h : Blk w b n t f) {o m : Nat} (ho : o + m ≤ n) {g : Nat → Nat} (hg : ∀ j, j < m → f (o + j) = g j) : w.rangeAt b o (bl m g) := by
 intro j v hv
 have hj : j < m := by have := (List.getElem?_eq_some_iff.1 hv).1; rwa [zl] at this
 rw [h.cell (i := o + j) (by omega), hg j hj]
 unfold bl at hv
 simp [hj] at hv
 rw [← hv]
theorem Blk.rowF {w : World} {b c r : Nat} {t : TypeId} {F : Nat → Nat → Nat} (h : Blk w b (r * c) t (fl c F)) {i : Nat} (hi : i < r) : w.rangeAt b (i * c) (bl c (F i)) :=
 h.range_at (by have := Nat.mul_le_mul_right c (show i + 1 ≤ r by omega); rw [Nat.succ_mul] at this; exact this) (fun j hj => fl_at hj)
theorem foldl_bcells {n o m : Nat} {f g : Nat → Nat} (ho : o + m ≤ n) : ((bl m g).zipIdx 0).foldl (fun (c : Array Value) (x : Value × Nat) => c.setIfInBounds (o + x.2) x.1) (zb n f) = zb n (sub f o m g) := by
 have key : ∀ (k : Nat), k ≤ m → (((bl m g).take k).zipIdx 0).foldl (fun (c : Array Value) (x : Value × Nat) => c.setIfInBounds (o + x.2) x.1) (zb n f) = zb n (sub f o k g) := by
  intro k
  induction k with
  | zero =>
   intro _
   rw [List.take_zero, List.zipIdx_nil, List.foldl_nil]
   exact zbc fun i _ => by unfold sub; rw [if_neg (by omega)]
  | succ k ih =>
   intro hk
   have hv : (bl m g)[k]? = some (.int .u8 (g k : Int)) := by unfold bl; have : k < m := (by omega); simp [this]
   rw [List.take_add_one, hv, List.zipIdx_append, List.foldl_append, ih (by omega)]
   have hl : ((bl m g).take k).length = k := by rw [List.length_take, zl]; omega
   rw [hl]
   simp only [Option.toList_some, List.zipIdx_cons, List.zipIdx_nil, List.foldl_cons, List.foldl_nil, Nat.zero_add]
   rw [bcells_set]
   exact zbc fun i _ => by
    unfold upd sub
    by_cases h1 : i = o + k
    · subst h1; rw [if_pos rfl, if_pos ⟨by omega, by omega⟩, Nat.add_sub_cancel_left]
    · rw [if_neg h1]
      by_cases h2 : o ≤ i ∧ i < o + k
      · rw [if_pos h2, if_pos ⟨h2.1, by omega⟩]
      · rw [if_neg h2, if_neg (by omega)]
 have := key m (Nat.le_refl _)
 rwa [List.take_of_length_le (by rw [zl]; exact Nat.le_refl _)] at this
theorem Blk.setCells {w : World} {b n : Nat} {t : TypeId} {f : Nat → Nat} (h : Blk w b n t f) {o m : Nat} (ho : o + m ≤ n) (g : Nat → Nat) : w.setCells b o (bl m g) = w.setRow b (zb n (sub f o m g)) := by
 have h' : w.heap[b]? = some (.cells (zb n f) t (0, 0)) := by unfold Blk at h; exact h
 rw [setCells_row _ _ _ _ h', foldl_bcells ho]
section
variable {P : Program}
theorem wpList_load_mid_g {ops : Array Oper} {rest : List Oper} {op : Oper} {a : Act} {w : World} {Q : Exit → Act → World → Prop} (hw : Region.wanted op (yielded ops a.tmps) = true) (ty : TypeId) (x : Operand) (ho : op.op = .load ty x)
 (b o : Nat) (hx : a.eval x = .pointer (some ⟨b, o, none⟩)) (cs : List Value) (d : TypeDesc) (hc : w.rangeAt b o cs)
 (hu : P.underlying ty = some d) (hd : d.isRow = true) (hi : (P.info? ty).map (·.size) = some cs.length)
 (h : wpList P ops Q rest (a.put op.dst (.agg cs.toArray)) w) : wpList P ops Q (op :: rest) a w := by
 unfold wpList
 rw [if_pos hw]
 exact Or.inl (wp_load_mid ty x ho b o hx cs d hc hu hd hi h)
end
end Go.Proofs.Yteloknnooebabaa
end
section
namespace Go.Proofs.Yteloknnooebabaa
open Go.ChangeShapes Go.WideShapes Go.ChangeAt Go.RowKit
set_option linter.unusedVariables false
section
variable {H : Type} {enc : TypeId × Value → H} {P : Program}
theorem trod_barr_same {e u n : Nat} {k : IntKind} (he : P.underlying e = some (.array n u)) (hu : P.underlying u = some (.int k)) (w w' : World) (b b' : Nat) (s s' : Nat → Bool) (h h' : Bool) (m : Nat) (c : List Value) :
 DataW.trod enc P w b s h m e c = DataW.trod enc P w' b' s' h' m e c := by
 cases m with
 | zero => simp [DataW.trod]
 | succ m =>
  unfold DataW.trod
  rw [he]
  simp only [trod_int_same hu w w' b b' s s' h h' m]
end
end Go.Proofs.Yteloknnooebabaa
end
section
namespace Go.Proofs.Yteloknnooebabaa
open Go.ChangeShapes Go.WideShapes Go.ChangeAt Go.RowKit
set_option linter.unusedVariables false
section
variable {H : Type} {enc : TypeId × Value → H} {P : Program}
theorem trod_bytes {e u : TypeId} {w : World} {base m : Nat} {spare : Nat → Bool} {held : Bool} {c : List Value} {x : DataW H × List MemPlace}
 (he : P.underlying e = some (.array 64 u)) (hu : P.underlying u = some (.int .u8)) (hCe : P.cellsOf e = 64) (hCu : P.cellsOf u = 1) (h : DataW.trod enc P w base spare held m e c = some x) :
 (∃ g, byte g ∧ c = bl 64 g) ∧ x.2 = [] := by
 obtain ⟨ys, m2, hm2, hx2, hlen2, hyl, hel2⟩ := DataW.trod_array he h
 have byt : ∀ j, j < 64 → ∃ k : Nat, k < 256 ∧ c[j]? = some (.int .u8 (k : Int)) ∧ ys[j]? = some (.lit (.int .u8 (k : Int)), []) := by
  intro j hj
  have h3 := hel2 j hj
  have hyj : ys[j]? = some (ys[j]'(by omega)) := List.getElem?_eq_getElem (by omega)
  rw [hyj, hCu] at h3
  obtain ⟨z, hz1, hz2, hz3⟩ := DataW.trod_int hu h3
  have hb := bounds_u8 hz3
  obtain ⟨k, rfl⟩ := Int.eq_ofNat_of_zero_le hb.1
  refine ⟨k, by omega, ?_, by rw [hyj, hz2]⟩
  have h4 : ((c.drop (j * 1)).take 1)[0]? = some (.int .u8 (k : Int)) := by
   rw [hz1]; rfl
  simp only [List.getElem?_take, List.getElem?_drop, Nat.mul_one, Nat.add_zero, Nat.lt_add_one, if_true] at h4
  exact h4
 refine ⟨⟨fun i => match c[i]? with | some (.int _ z) => if i < 64 then z.toNat else 0 | _ => 0, ?_, ?_⟩, ?_⟩
 · intro i
   by_cases hi : i < 64
   · obtain ⟨k, hk, hc, _⟩ := byt i hi
     simp only [hc, hi, if_true, Int.toNat_natCast]
     exact hk
   · have : c[i]? = none := List.getElem?_eq_none (by rw [hlen2, hCe]; omega)
     simp [this]
 · apply List.ext_getElem?
   intro i
   by_cases hi : i < 64
   · obtain ⟨k, hk, hc, _⟩ := byt i hi
     unfold bl
     simp only [List.getElem?_map, List.getElem?_range hi, Option.map_some, hc, hi, if_true, Int.toNat_natCast]
   · rw [List.getElem?_eq_none (by rw [hlen2, hCe]; omega), List.getElem?_eq_none (by rw [zl]; omega)]
 · have hp : x.2 = ys.flatMap (·.2) := by simpa using congrArg Prod.snd hx2
   rw [hp, List.flatMap_eq_nil_iff]
   intro z hzm
   obtain ⟨j, hj⟩ := List.getElem?_of_mem hzm
   have hjn : j < 64 := by rw [← hyl]; exact (List.getElem?_eq_some_iff.1 hj).1
   obtain ⟨k, _, _, h2⟩ := byt j hjn
   rw [hj] at h2
   injection h2 with h2
   rw [h2]
theorem open_dri {t e u i : TypeId} {f0 f1 f2 f3 : Field} {w : World} {r : Reach} {b0 base : Nat} {spare : Nat → Bool} {held : Bool} {v : Value} {d : DataW H} {p : List MemPlace}
 (ht : P.underlying t = some (.struct #[f0, f1, f2, f3])) (k0 : f0.type = i ∧ f0.offset = 0) (k1 : f1.type = e ∧ f1.offset = 1) (k2 : f2.type = e ∧ f2.offset = 65) (k3 : f3.type = e ∧ f3.offset = 129)
 (hi : P.underlying i = some (.int .i64)) (he : P.underlying e = some (.array 64 u)) (hu : P.underlying u = some (.int .u8)) (hC : P.cellsOf t = 193) (hCi : P.cellsOf i = 1) (hCe : P.cellsOf e = 64) (hCu : P.cellsOf u = 1)
 (hv : Value.okWide P w r b0 t v) (h : DataW.Trod enc P w base spare held t v d p) :
 ∃ (q : Int) (m G D : Nat → Nat), byte m ∧ byte G ∧ byte D ∧ v = .agg (drC q m G D).toArray ∧ p = [] ∧ -9223372036854775808 ≤ q ∧ q ≤ 9223372036854775807 ∧ ∀ (w' : World) (base' : Nat) (spare' : Nat → Bool) (held' : Bool), DataW.Trod enc P w' base' spare' held' t v d [] := by
 unfold Value.okWide at hv
 rw [ht] at hv
 obtain ⟨cs, rfl, hsz, _⟩ := hv
 obtain ⟨fuel, hf⟩ := h
 obtain ⟨xs, n, hn, hx, hlen, hxl, hel⟩ := DataW.trod_struct ht hf
 subst hn
 have hcs : cs.toList.length = 193 := by
  have : cs.size = 193 := by rw [hsz, hC]
  simpa using this
 have hxl4 : xs.length = 4 := by simpa using hxl
 obtain ⟨y0, y1, y2, y3, rfl⟩ : ∃ y0 y1 y2 y3, xs = [y0, y1, y2, y3] := by
  match xs, hxl4 with
  | [a, b, c, d], _ => exact ⟨a, b, c, d, rfl⟩
 have g0 := hel 0 f0 rfl
 have g1 := hel 1 f1 rfl
 have g2 := hel 2 f2 rfl
 have g3 := hel 3 f3 rfl
 rw [k0.1, k0.2, hCi] at g0
 rw [k1.1, k1.2, hCe] at g1
 rw [k2.1, k2.2, hCe] at g2
 rw [k3.1, k3.2, hCe] at g3
 obtain ⟨z, hz1, hz2, hz3⟩ := DataW.trod_int hi g0
 obtain ⟨⟨m, bm, em⟩, n1⟩ := trod_bytes he hu hCe hCu g1
 obtain ⟨⟨G, bG, eG⟩, n2⟩ := trod_bytes he hu hCe hCu g2
 obtain ⟨⟨D, bD, eD⟩, n3⟩ := trod_bytes he hu hCe hCu g3
 have h5 : (Value.agg cs).cells.toList = cs.toList := rfl
 rw [h5] at hz1 em eG eD
 have hcs2 : cs.toList = drC z m G D := by
  have e0 : cs.toList = cs.toList.take 1 ++ ((cs.toList.drop 1).take 64 ++ ((cs.toList.drop 65).take 64 ++ (cs.toList.drop 129).take 64)) := by
   have a1 : (cs.toList.drop 129).take 64 = cs.toList.drop 129 := List.take_of_length_le (by rw [List.length_drop]; omega)
   have a2 : (cs.toList.drop 65).take 64 ++ cs.toList.drop 129 = cs.toList.drop 65 := by
    have := List.take_append_drop 64 (cs.toList.drop 65)
    rwa [List.drop_drop] at this
   have a3 : (cs.toList.drop 1).take 64 ++ cs.toList.drop 65 = cs.toList.drop 1 := by
    have := List.take_append_drop 64 (cs.toList.drop 1)
    rwa [List.drop_drop] at this
   rw [a1, a2, a3, List.take_append_drop]
  rw [List.drop_zero] at hz1
  rw [e0, hz1, em, eG, eD]
  rfl
 have hp : p = [] := by
  have hp : p = [y0, y1, y2, y3].flatMap (·.2) := by simpa using congrArg Prod.snd hx
  have n0 : y0.2 = [] := by rw [hz2]
  simpa [n0, n1, n2, n3] using hp
 have hb := bounds_i64 hz3
 refine ⟨z, m, G, D, bm, bG, bD, ?_, hp, hb.1, hb.2, ?_⟩
 · rw [← hcs2]
 · intro w' base' spare' held'
   refine ⟨n + 1, ?_⟩
   have same : ∀ (f : Field) (c : List Value), f = f0 ∨ f = f1 ∨ f = f2 ∨ f = f3 → DataW.trod enc P w' base' spare' held' n f.type c = DataW.trod enc P w base spare held n f.type c := by
    rintro f c (rfl | rfl | rfl | rfl)
    · rw [k0.1]; exact trod_int_same hi _ _ _ _ _ _ _ _ _ _
    · rw [k1.1]; exact trod_barr_same he hu _ _ _ _ _ _ _ _ _ _
    · rw [k2.1]; exact trod_barr_same he hu _ _ _ _ _ _ _ _ _ _
    · rw [k3.1]; exact trod_barr_same he hu _ _ _ _ _ _ _ _ _ _
   have e1 : DataW.trod enc P w' base' spare' held' (n + 1) t (Value.agg cs).cells.toList = DataW.trod enc P w base spare held (n + 1) t (Value.agg cs).cells.toList := by
    unfold DataW.trod
    rw [ht]
    simp only [List.mapM_cons, List.mapM_nil, same f0 _ (.inl rfl), same f1 _ (.inr (.inl rfl)), same f2 _ (.inr (.inr (.inl rfl))), same f3 _ (.inr (.inr (.inr rfl)))]
   rw [e1, hf, hp]
end
end Go.Proofs.Yteloknnooebabaa
end
section
namespace Go.Proofs.Yteloknnooebabaa
open Go.RowKit
set_option linter.unusedVariables false
set_option maxRecDepth 100000 in
set_option maxHeartbeats 400000 in
theorem sum_any (p : Nat) (f g : Nat → Nat) (w : World) (hp1 : 2 ≤ p) (hp2 : p ≤ 7) (hf : ∀ i, i < 64 → f i < p) (hg : ∀ i, i < 64 → g i < p) :
 Calls Try.prog 177 #[.int .i64 (p : Int), .agg (zb 64 f), .agg (zb 64 g)] w fun e w' => e = .returned (.agg (zb 64 fun i => (f i + g i) % p)) ∧ Below w.heap.size w w' := by
 go_enter Try.func177, Try.ntmps177
 go_wp2_with fail
 have HF := Lib.hid hf; clear hf
 have HG := Lib.hid hg; clear hg
 rw [← z64]
 go_loopw [8] (fun i wr => ∃ k : Nat, k ≤ 64 ∧ i = .int .i64 (k : Int) ∧ Below w.heap.size w wr ∧ Blk wr w.heap.size 64 24 (fun i => if i < k then (f i + g i) % p else f i) ∧ Blk wr (w.heap.size + 1) 64 24 g ∧ Blk wr (w.heap.size + 1 + 1) 64 24 (fun _ => 0)) (fun i _ => 64 - (intOf i).toNat)
 case atStart =>
  refine ⟨0, by omega, rfl, (((Below.refl _ _).alloc (Nat.le_refl _) _).alloc (by simp) _).alloc (by simp; omega) _, ?_, ?_, ?_⟩
  · exact (((Blk.new w _ _ _).alloc _).alloc _).congr (by simp)
  · have := ((Blk.new (w.alloc (.cells (zb 64 f) 24)) 64 24 g).alloc (.cells (zb 64 fun _ => 0) 24)); simpa using this
  · have := (Blk.new ((w.alloc (.cells (zb 64 f) 24)).alloc (.cells (zb 64 g) 24)) 64 24 (fun _ => 0)); simpa using this
 case round =>
  obtain ⟨k, hk, rfl, hb, h0, h1, h2⟩ := hrel
  by_cases hlt : k < 64
  · have c4 : wr.cell? ⟨w.heap.size, k, none⟩ = some (.int .u8 (f k : Int)) := by rw [h0.cell hlt]; simp
    have c5 := h1.cell hlt
    have z4 := h0.frozen k
    have b1 : f k < p := HF.out k hlt
    have b2 : g k < p := HG.out k hlt
    go_wp2_with fail
    go_region
    go_wp2_with fail
    go_roundw
    case rel =>
     refine ⟨k + 1, by omega, by go_num, (hb.setCell (by simp) _).drew, ?_, ?_, ?_⟩
     · exact ((h0.set (v := (f k + g k) % p) (by push_cast; rfl)).congr (fun i _ => upd_lt (a := fun i => (f i + g i) % p) rfl i)).drew
     · exact (h1.setOther (by simp)).drew
     · exact (h2.setOther (by simp; omega)).drew
    case measure => simp [intOf]; omega
  · have e : k = 64 := by omega
    subst e
    go_wp2_with (first | refine zlb rfl 24 _ rfl _ rfl 64 24 _ (h0) 5 Try.underlying24 Try.size24 ?_ | refine wpList_store_blk rfl 24 _ _ rfl _ 64 ((fun i => if i < 64 then (f i + g i) % p else f i)) rfl rfl 24 _ (h2) Try.size24 ?_)
    refine bodyPost_ret (zrb rfl _ _ _ 64 24 5 _ rfl (h2.row _) Try.underlying24 Try.size24) rfl ⟨?_, ?_⟩
    · rw [zbc (g := fun i => (f i + g i) % p)]
      intro i hi; simp [hi]
    · exact below_setRow hb (by omega) _

end Go.Proofs.Yteloknnooebabaa
end
section
namespace Go.Proofs.Yteloknnooebabaa
open Go.RowKit
set_option linter.unusedVariables false
theorem addK_one (p : Nat) (f g : Nat → Nat) : addK p f g 1 = fun i => (f i + g i) % p := by
 funext i; unfold addK
 rw [Int.one_mul, ← Int.natCast_add, ← Int.natCast_emod, Int.toNat_natCast]
end Go.Proofs.Yteloknnooebabaa
end
section
namespace Go.Proofs.Yteloknnooebabaa
open Go.RowKit
set_option linter.unusedVariables false
theorem lt_of_code {n : Nat} {fs : List (Nat → Nat)} (hc : codeL (n : Int) fs = 0) {f : Nat → Nat} (h : f ∈ fs) : ∀ i, i < 64 → f i < n := by
 intro i hi
 have := okA_lt ((codeL_zero hc).2 f h) hi
 omega
end Go.Proofs.Yteloknnooebabaa
end
section
namespace Go.Proofs.Yteloknnooebabaa
open Go Go.RowKit
set_option linter.unusedVariables false
theorem Blk.kx {S : List Nat} {w w' : World} {b n : Nat} {t : TypeId} {f : Nat → Nat} (h : Blk w b n t f) (hX : Kx S w w') (hn : b ∉ S) : Blk w' b n t f := by
 have hl := h.lt
 unfold Blk at *; rw [hX.2 b hl hn]; exact h
theorem Row.kx {S : List Nat} {w w' : World} {b : Nat} {t : TypeId} {cs : Array Value} (h : Row w b t cs) (hX : Kx S w w') (hn : b ∉ S) : Row w' b t cs := h.of (hX.2 b h.lt hn)
theorem One.kx {S : List Nat} {w w' : World} {b : Nat} {t : TypeId} {v : Value} (h : One w b t v) (hX : Kx S w w') (hn : b ∉ S) : One w' b t v := h.of (hX.2 b h.lt hn)
end Go.Proofs.Yteloknnooebabaa
end
section
namespace Go.Proofs.Yteloknnooebabaa
open Go Go.RowKit
set_option linter.unusedVariables false
theorem Try.size26 : (Try.prog.info? 26).map (·.size) = some 512 := by kernel_rfl
theorem zero512 : zb 512 (fl 64 fun _ _ => 0) = Try.zeroCells26 := by rw [fl_zero]; simp only [zb, bl]; kernel_rfl
theorem Blk.sk {w : World} {b : Nat} {t : TypeId} {F : Nat → Nat → Nat} (h : Blk w b 512 t (fl 64 F)) {i : Nat} (hi : i < 8) : w.rangeAt b (i * 64) (bl 64 (F i)) := Blk.rowF (r := 8) (c := 64) h hi
section
variable {P : Program}
theorem run_loadVar_any (w : World) (b n : Nat) (t ty : TypeId) (f : Nat → Nat) (hb : Blk w b n t f) (d : TypeDesc) (hu : P.underlying ty = some d) (hd : (match d with | .struct _ | .array _ _ => true | _ => false) = true) (hi : (P.info? ty).map (·.size) = some n) :
 (loadVar ty ⟨b, 0, none⟩).run P w = .ok (.agg (zb n f)) w := by
 have hb' : w.heap[b]? = some (.cells (zb n f) t (0, 0)) := by unfold Blk at hb; exact hb
 exact run_loadVar_row w b t ty _ (0, 0) d hb' hu hd (by rw [zbs]; exact hi)
theorem results_any {fn : Func} {p : Tmp} {ty : TypeId} (h : fn.results = #[.cell p ty]) (tmps : Array Value) (w : World) (b n : Nat) (t : TypeId) (f : Nat → Nat)
 (hp : tmps.getD p undef = .pointer (some ⟨b, 0, none⟩)) (hb : Blk w b n t f) (d : TypeDesc) (hu : P.underlying ty = some d) (hd : (match d with | .struct _ | .array _ _ => true | _ => false) = true) (hi : (P.info? ty).map (·.size) = some n) :
 (results fn tmps).run P w = .ok (.agg (zb n f)) w := by
 have hp' : tmps[p]?.getD undef = .pointer (some ⟨b, 0, none⟩) := by simpa using hp
 simp [results, h, hp', asAddr, run_loadVar_any w b n t ty f hb d hu hd hi]
end
/-- a prime with a polynomial -/
def fdC (p : Int) (m : Nat → Nat) : List Value := .int .i64 p :: bl 64 m
theorem fdC_len (p : Int) (m : Nat → Nat) : (fdC p m).length = 65 := by simp [fdC, bl]
theorem fdC_at (p : Int) (m : Nat → Nat) : (fdC p m).toArray[0]? = some (.int .i64 p) := by simp [fdC]
theorem fdC_all (p : Int) (m : Nat → Nat) : (fdC p m).toArray.all (·.oneCell') = true := Array.all_eq_true_iff_forall_mem.2 fun u hu => by
 have hu' : u ∈ fdC p m := by simpa using hu
 unfold fdC at hu'
 rcases List.mem_cons.1 hu' with h | h
 · subst h; rfl
 · unfold bl at h
   obtain ⟨i, _, rfl⟩ := List.mem_map.1 h
   rfl
theorem fdC_zero : (fdC 0 (fun _ => 0)).toArray = Try.zeroCells96 := by unfold fdC bl; kernel_rfl
theorem built_fd (p : Int) (m : Nat → Nat) : Try.prog.built 96 [(0, .int .i64 p), (1, .agg (zb 64 m))] = some (fdC p m).toArray := by unfold fdC zb bl; kernel_rfl
theorem Row.fd {w : World} {b : Nat} {t : TypeId} {p : Int} {m : Nat → Nat} (h : Row w b t (fdC p m).toArray) : w.rangeAt b 1 (bl 64 m) := by
 intro j v hv
 have := h.range (j + 1) v (by unfold fdC; simpa using hv)
 rw [Nat.zero_add] at this
 rw [Nat.add_comm]; exact this
theorem Try.size96 : (Try.prog.info? 96).map (·.size) = some 65 := by kernel_rfl
theorem skN_z (F : Nat → Nat → Nat) : skN F 0 = -1 := by unfold skN; rfl
theorem skN_skip {F : Nat → Nat → Nat} {n : Nat} (h : eqN 64 (F n) (fun _ => 0) = true) : skN F (n + 1) = skN F n := by rw [skN, if_pos h]
theorem skN_stop {F : Nat → Nat → Nat} {n : Nat} (h : eqN 64 (F n) (fun _ => 0) = false) : skN F (n + 1) = (n : Int) := by rw [skN, if_neg (by rw [h]; simp)]
theorem skN_bounds (F : Nat → Nat → Nat) : ∀ n, -1 ≤ skN F n ∧ skN F n < (n : Int)
 | 0 => by rw [skN_z]; omega
 | n + 1 => by
  have := skN_bounds F n
  rw [skN]; split <;> omega
theorem zsd (F : Nat → Nat → Nat) : -1 ≤ skD F ∧ skD F ≤ 7 := by
 have := skN_bounds F 8
 unfold skD; omega
theorem skN_spec (F : Nat → Nat → Nat) : ∀ n i, i < n → skN F n < (i : Int) → eqN 64 (F i) (fun _ => 0) = true
 | 0, i, h, _ => by omega
 | n + 1, i, h, h2 => by
  cases he : eqN 64 (F n) (fun _ => 0) with
  | true =>
   by_cases e : i = n
   · subst e; exact he
   · rw [skN_skip he] at h2; exact skN_spec F n i (by omega) h2
  | false => rw [skN_stop he] at h2; omega
end Go.Proofs.Yteloknnooebabaa
end
section
set_option linter.unusedVariables false
namespace Go.Proofs.Yteloknnooebabaa
open Rg
section
variable {p : Nat} {m : Nat → Int}
theorem res_char : nm p (e : Res p m) = o := by
 rw [nm_cl]
 exact cl_eq.2 (rm_of_cg fun k => by
  unfold zS
  split
  · exact ⟨1, by omega⟩
  · exact ⟨0, by omega⟩)
/-- the class of a polynomial -/
def rs (f : Nat → Nat) : Res p m := cl (lz f) (fin_lz f)
theorem nm_rs (c : Nat) {f : Nat → Int} (hf : fin f) : nm c (cl f hf : Res p m) = cl (cz (c : Int) f) (fin_cz _ hf) := by
 have h1 : nm c (cl f hf : Res p m) = nm c e * cl f hf := by rw [nm_mul, emul]
 rw [h1, nm_cl]
 refine cl_eq.2 (rm_of_cg fun k => ⟨0, ?_⟩)
 have := mz_mono (c : Int) 0 f k
 rw [this, if_pos (Nat.zero_le _), Nat.sub_zero]
 unfold cz; omega
theorem rs_addK {f g : Nat → Nat} {c : Nat} (hp : 0 < p) : (rs (addK p f g (c : Int)) : Res p m) = rs f + nm c (rs g) := by
 unfold rs
 rw [nm_rs]
 exact cl_eq.2 (rm_of_cg (addK_cg hp))
theorem rs_add {f g : Nat → Nat} (hp : 0 < p) : (rs (addK p f g 1) : Res p m) = rs f + rs g := by
 have := rs_addK (m := m) (f := f) (g := g) (c := 1) hp
 rw [nm_one] at this; exact this
theorem rs_scl {f : Nat → Nat} {c : Nat} : (rs (sclP p f c) : Res p m) = nm c (rs f) := by
 unfold rs
 rw [nm_rs]
 exact cl_eq.2 (rm_of_cg (sclP_cg f c))
theorem rs_zero : (rs (fun _ => 0) : Res p m) = o := cl_eq.2 (rm_of_cg fun k => by unfold lz cut zS; simp)
end
theorem rs_res {p : Nat} {f m : Nat → Nat} (hp : p = 2 ∨ p = 3 ∨ p = 5 ∨ p = 7) (ha : ∀ k, k < 64 → f k < p) (hm : ∀ k, k < 64 → m k < p) (h0 : 0 ≤ deg m) : (rs (resP p f m) : Res p (lz m)) = rs f := cl_eq.2 (rm_symm (res_rm hp ha hm h0))
theorem rs_mm {p : Nat} {a b m : Nat → Nat} (hp : p = 2 ∨ p = 3 ∨ p = 5 ∨ p = 7) (hm : ∀ k, k < 64 → m k < p) (h0 : 0 ≤ deg m) : (rs (mmP p a b m) : Res p (lz m)) = rs a * rs b := cl_eq.2 (rm_symm (mmP_rm hp hm h0))
theorem rs_pm {p k : Nat} {a m : Nat → Nat} (hp : p = 2 ∨ p = 3 ∨ p = 5 ∨ p = 7) (ha : ∀ k, k < 64 → a k < p) (hm : ∀ k, k < 64 → m k < p) (h0 : 0 ≤ deg m) (hk : k < 2 ^ 64) : (rs (pmP p a k m) : Res p (lz m)) = pw (rs a) k := by
 unfold rs
 have : pw (cl (lz a) (fin_lz a) : Res p (lz m)) k = cl (pwz (lz a) k) (fin_pwz (fin_lz _) _) := pw_cl (fin_lz _) _
 rw [this]
 exact cl_eq.2 (pmP_spec hp ha hm h0 hk).2.2
theorem strP_lt {p q : Nat} {x : Nat → Nat} (hp : 0 < p) (hq : 1 ≤ q) (hx : ∀ k, k < 64 → x k < p) (k : Nat) (hk : k < 64) : strP q x k < p := by
 unfold strP
 split
 · exact hx _ (Nat.lt_of_le_of_lt (Nat.div_le_self _ _) hk)
 · exact hp
def srq (q : Nat) (cs : List Nat) : Nat → Int := fun k => if k % q = 0 then ((cs.getD (k / q) 0 : Nat) : Int) else 0
theorem fin_srq {q : Nat} (hq : 0 < q) (cs : List Nat) : fin (srq q cs) := ⟨cs.length * q, fun k hk => by
 unfold srq
 split
 · have : cs.length ≤ k / q := (Nat.le_div_iff_mul_le hq).2 hk
   simp [this]
 · rfl⟩
theorem mz_TSq (f : Nat → Int) : ∀ q, mz (pwz TS q) f = fun k => if k < q then 0 else f (k - q)
 | 0 => by
  have : pwz TS 0 = oneS := rfl
  rw [this]
  have := mz_one f
  rw [show mz oneS f = f from this]
  funext k; rw [if_neg (by omega), Nat.sub_zero]
 | q + 1 => by
  have h1 : pwz TS (q + 1) = mz (pwz TS q) TS := rfl
  have h2 : mz (mz (pwz TS q) TS) f = mz (pwz TS q) (mz TS f) := mz_assoc _ _ _
  rw [h1, h2, mz_TSq (mz TS f) q, mz_TS]
  funext k
  by_cases h : k < q
  · rw [if_pos h, if_pos (by omega)]
  · rw [if_neg h]
    dsimp only
    by_cases h3 : k = q
    · rw [if_pos (by omega), if_pos (by omega)]
    · rw [if_neg (by omega), if_neg (by omega), Nat.sub_sub]
theorem pe_srq {p : Nat} {m : Nat → Int} {q : Nat} (hq : 0 < q) : ∀ cs : List Nat, (pe cs (pw tt q) : Res p m) = cl (srq q cs) (fin_srq hq cs)
 | [] => by
  show (o : Res p m) = _
  refine cl_congr ?_
  funext k; unfold srq zS; simp
 | c :: cs => by
  show nm c e + pw tt q * pe cs (pw tt q) = _
  rw [pe_srq hq cs, nm_cl]
  have h1 : (pw tt q : Res p m) = cl (pwz TS q) (fin_pwz fin_TS _) := pw_cl fin_TS _
  rw [h1]
  refine cl_congr (?_ : az _ (mz _ _) = _)
  rw [mz_TSq]
  funext k
  show (if k = 0 then (c : Int) else 0) + (if k < q then 0 else srq q cs (k - q)) = srq q (c :: cs) k
  unfold srq
  by_cases h : k < q
  · rw [if_pos h]
    by_cases h0 : k = 0
    · subst h0; simp
    · have e1 : k % q = k := Nat.mod_eq_of_lt h
      rw [if_neg h0, e1, if_neg h0]; rfl
  · have h0 : ¬ k = 0 := by omega
    obtain ⟨j, rfl⟩ : ∃ j, k = j + q := ⟨k - q, by omega⟩
    rw [if_neg h, if_neg h0, Nat.add_sub_cancel, Nat.add_mod_right, Nat.add_div_right _ hq]
    split
    · simp
    · rfl
theorem rs_list {p : Nat} {m : Nat → Int} (f : Nat → Nat) : (rs f : Res p m) = pe ((List.range 64).map f) tt := by
 rw [pe_cl]
 refine cl_congr ?_
 funext k; unfold lz cut ser
 by_cases h : k < 64
 · simp [h]
 · simp [h]
theorem rs_str {p : Nat} {m : Nat → Int} {x : Nat → Nat} (hp : p = 2 ∨ p = 3 ∨ p = 5 ∨ p = 7) (h : deg x * (p : Int) ≤ 63) : (rs (strP p x) : Res p m) = pw (rs x) p := by
 have hp0 : 0 < p := by omega
 have h1 := fr_pe (R := Res p m) hp res_char 1 tt ((List.range 64).map x)
 unfold fr' at h1
 rw [Nat.pow_one] at h1
 rw [rs_list x, h1, pe_srq hp0]
 refine cl_congr ?_
 funext k
 unfold lz cut strP srq
 by_cases hk : k < 64
 · rw [if_pos hk]
   split
   · have : k / p < 64 := Nat.lt_of_le_of_lt (Nat.div_le_self _ _) hk
     simp [this]
   · rfl
 · rw [if_neg hk]
   split
   · rename_i hm
     by_cases h2 : k / p < 64
     · have e1 := Nat.div_add_mod k p
       have e3 : x (k / p) = 0 := by
        rcases deg_spec x with ⟨_, h5⟩ | ⟨d, hd, h4, _, h5⟩
        · exact h5 _ h2
        · refine h5 _ ?_ h2
          rw [h4] at h
          have h6 : d * p ≤ 63 := by exact_mod_cast h
          apply Classical.byContradiction
          intro h7
          have := Nat.mul_le_mul_right p (show k / p ≤ d by omega)
          rw [Nat.mul_comm p] at e1
          omega
       simp [h2, e3]
     · simp [h2]
   · rfl
theorem deg_addK {p : Nat} {f g : Nat → Nat} {c d : Int} (hp : 0 < p) (hd : 0 ≤ d) (hf : deg f < d) (hg : deg g < d) : deg (addK p f g c) < d := by
 have : deg (addK p f g c) ≤ d - 1 := by
  refine deg_le (by omega) (fun k h1 h2 => ?_)
  have above : ∀ (f : Nat → Nat), deg f < d → f k = 0 := by
   intro f hf
   rcases deg_spec f with ⟨_, h5⟩ | ⟨j, hj, h4, _, h5⟩
   · exact h5 _ h2
   · exact h5 _ (by omega) h2
  unfold addK
  rw [above f hf, above g hg]
  simp
 omega
section
variable {p : Nat} {m : Nat → Nat} (hp : p = 2 ∨ p = 3 ∨ p = 5 ∨ p = 7) (hm : ∀ k, k < 64 → m k < p) (h0 : 0 ≤ deg m)
include hp hm h0
def lsC (a : Nat → Nat) (i j : Nat) : List Nat := (List.range' i j).map a
end
end Go.Proofs.Yteloknnooebabaa
end
section
namespace Go.Proofs.Yteloknnooebabaa
open Go Go.RowKit
set_option linter.unusedVariables false
set_option linter.unusedSimpArgs false
theorem wp_load_rowv {P : Program} {o : Oper} {a : Act} {w : World} {K : Act → World → Prop} {Q : Exit → Act → World → Prop} (ty : TypeId) (x : Operand) (ho : o.op = .load ty x)
 (b : Nat) (hx : a.eval x = .pointer (some ⟨b, 0, none⟩)) (t : TypeId) (cs : Array Value) (hb : Row w b t cs) (d : TypeDesc)
 (hu : P.underlying ty = some d) (hd : (match d with | .struct _ | .array _ _ => true | _ => false) = true) (n : Nat) (hi : (P.info? ty).map (·.size) = some n) (hn : cs.size = n) (h : K (a.put o.dst (.agg cs)) w) : o.wp P a w K Q := by
 have hb' : w.heap[b]? = some (.cells cs t (0, 0)) := by unfold Row at hb; exact hb
 exact wp_load_row ty x ho b hx t _ (0, 0) d hb' hu hd (by rw [hi, hn]) h
/-- the cells below j of the stretched polynomial -/
def spS (q : Nat) (x : Nat → Nat) (j : Nat) : Nat → Nat := fun k => if k % q = 0 ∧ k / q < j then x (k / q) else 0
theorem spS_z (q : Nat) (x : Nat → Nat) : spS q x 0 = fun _ => 0 := by funext k; unfold spS; rw [if_neg (fun h => Nat.not_lt_zero _ h.2)]
theorem spS_s {q j : Nat} {x : Nat → Nat} (hq : 1 ≤ q) (k : Nat) : (if k = j * q then x j else spS q x j k) = spS q x (j + 1) k := by
 unfold spS
 by_cases h : k = j * q
 · subst h
   have e1 : j * q % q = 0 := Nat.mul_mod_left j q
   have e2 : j * q / q = j := Nat.mul_div_cancel j (by omega)
   rw [if_pos rfl, e1, e2, if_pos ⟨rfl, by omega⟩]
 · rw [if_neg h]
   by_cases h1 : k % q = 0
   · have e := Nat.div_add_mod k q
     have : k / q ≠ j := by
      intro h2; rw [h2, h1, Nat.add_zero, Nat.mul_comm] at e; omega
     by_cases h3 : k / q < j
     · rw [if_pos ⟨h1, h3⟩, if_pos ⟨h1, by omega⟩]
     · rw [if_neg (fun h => h3 h.2), if_neg (fun h => by have := h.2; omega)]
   · rw [if_neg (fun h => h1 h.1), if_neg (fun h => h1 h.1)]
theorem spS_end {q n : Nat} {x : Nat → Nat} (h : deg x < (n : Int)) : ∀ k, k < 64 → spS q x n k = strP q x k := by
 intro k hk
 unfold spS strP
 by_cases h1 : k % q = 0
 · rw [if_pos h1]
   by_cases h2 : k / q < n
   · rw [if_pos ⟨h1, h2⟩]
   · rw [if_neg (fun h => h2 h.2)]
     have h3 : k / q < 64 := Nat.lt_of_le_of_lt (Nat.div_le_self _ _) hk
     rcases deg_spec x with ⟨_, h5⟩ | ⟨d, hd, h4, _, h5⟩
     · exact (h5 _ h3).symm
     · exact (h5 _ (by omega) h3).symm
 · rw [if_neg (fun h => h1 h.1), if_neg h1]
attribute [local irreducible] deg invN dS qS stp stpr quoP resP oneP upP upF hmR mmP shA addK pgR mmC pmI pmP TP strP
set_option maxRecDepth 100000 in
set_option maxHeartbeats 1600000 in
theorem stretched_any (q : Nat) (f : Nat → Nat) (w : World) (hq : 1 ≤ q) (hq2 : q ≤ 1000000) (hf : ∀ k, k < 64 → f k < 256) (hd : deg f * (q : Int) ≤ 63) :
 Calls Try.prog 223 #[.agg (zb 64 f), .int .i64 (q : Int)] w fun e w' => e = .returned (.agg (zb 64 (strP q f))) ∧ Below w.heap.size w w' := by
 obtain ⟨gb1, gb2⟩ := zdb f
 obtain ⟨NN, hNN⟩ : ∃ NN : Nat, deg f = (NN : Int) - 1 := ⟨(deg f + 1).toNat, by omega⟩
 have HD := Lib.hid hNN
 have hN6 : NN ≤ 64 := by omega
 have HQ := Lib.hid (show ∀ j, j < NN → j * q ≤ 63 from fun j hj => by
  rw [hNN] at hd
  have h1 : (j : Int) * (q : Int) ≤ ((NN : Int) - 1) * (q : Int) := Int.mul_le_mul_of_nonneg_right (by omega) (by omega)
  have h2 : (j : Int) * (q : Int) ≤ 63 := by omega
  exact_mod_cast h2)
 have HV := Lib.hid (zbc (spS_end (q := q) (x := f) (n := NN) (by omega)))
 have HSS := Lib.hid (fun j k => spS_s (q := q) (j := j) (x := f) hq k)
 have HZ := Lib.hid (spS_z q f)
 clear hNN hd
 go_enter Try.func223, Try.ntmps223
 go_upto_region 1 with (fail)
 rw [← z64]
 obtain ⟨W1, hwo⟩ : ∃ v : World, v = ((w.alloc (.cells (zb 64 (f)) 24)).alloc (.cells (zb 64 fun _ => 0) 24)) := ⟨_, rfl⟩
 have B0 : Blk W1 (w.heap.size) 64 24 (f) := by subst hwo; have := ((Blk.new w 64 24 (f)).alloc (.cells (zb 64 fun _ => 0) 24)); simpa using this
 have B1 : Blk W1 (w.heap.size + 1) 64 24 (fun _ => 0) := by subst hwo; have := (Blk.new (w.alloc (.cells (zb 64 (f)) 24)) 64 24 (fun _ => 0)); simpa using this
 have hb : Below w.heap.size w W1 := by subst hwo; exact (((Below.refl _ _).alloc (Nat.le_refl _) _).alloc (by simp) _)
 rw [← hwo]
 clear hwo
 go_upto_region 2 with (first | rw [← z64])
 have lt_B0 := B0.lt
 have lt_B1 := B1.lt
 have lhb := hb.size
 obtain ⟨W2, hwo, hzQ⟩ : ∃ v : World, v = (W1.alloc (.cells (zb 64 fun _ => 0) 24)) ∧ Blk v (w.heap.size) 64 24 (f) ∧ Blk v (w.heap.size + 1) 64 24 (fun _ => 0) ∧ Blk v (W1.heap.size) 64 24 (fun _ => 0) ∧ Below w.heap.size w v := ⟨_, rfl, (B0.alloc (.cells (zb 64 fun _ => 0) 24)), (B1.alloc (.cells (zb 64 fun _ => 0) 24)), (Blk.new W1 64 24 (fun _ => 0)), (hb.alloc (by have := hb.size; simp; omega) (.cells (zb 64 fun _ => 0) 24))⟩
 rw [← hwo]
 clear hwo B0 B1 hb
 obtain ⟨B0, B1, B2, hb⟩ := hzQ
 obtain ⟨N1, hNN⟩ : ∃ n : Nat, n = W1.heap.size := ⟨_, rfl⟩
 rw [← hNN] at lt_B0 lt_B1 lhb B2 ⊢
 clear hNN
 have zN1_0 := lt_B0
 have zN1_1 := lt_B1
 have zN1 := lhb
 clear lt_B0 lt_B1 lhb
 try simp only [Act.put, pA, pB, pC]
 go_upto_region 99 with (first | (refine zla (.tmp 2) B0 Try.underlying24 Try.size24 ?_) | (go_at_call 150; refine (degree_any f _).mono ?_; rintro e W3 ⟨rfl, hW3⟩; replace B0 := B0.zw hW3; replace B1 := B1.zw hW3; replace B2 := B2.zw hW3; replace hb := (hb).trans (hW3.mono (hb).size); rw [HD.out]))
 have hcnt : ((NN : Int) - 1 + 1) = (NN : Int) := by omega
 go_loopw [10] (fun i wr => ∃ j : Nat, i = .int .i64 (j : Int) ∧ j ≤ NN ∧ Below w.heap.size w wr ∧ Blk wr (w.heap.size) 64 24 f ∧ Blk wr (w.heap.size + 1) 64 24 (fun _ => 0) ∧ Blk wr (N1) 64 24 (spS q f j)) (fun i _ => NN - (intOf i).toNat)
 case atStart => exact ⟨0, rfl, Nat.zero_le _, hb, B0, B1, by rw [HZ.out]; exact B2⟩
 case round =>
  clear hb B0 B1 B2
  obtain ⟨j, rfl, hjn, hb, B0, B1, B2⟩ := hrel
  by_cases hj : j < NN
  · have hji : (j : Int) < (NN : Int) - 1 + 1 := by omega
    have hj6 : j < 64 := by omega
    have hjq := HQ.out j hj
    obtain ⟨J, hJ⟩ : ∃ J, J = j * q := ⟨_, rfl⟩
    have hJi : (j : Int) * (q : Int) = (J : Int) := by rw [hJ]; push_cast; rfl
    have hJ6 : J < 64 := by omega
    have hC6 := hf j hj6
    have HSJ := Lib.hid (show ∀ k, (if k = J then f j else spS q f j k) = spS q f (j + 1) k from fun k => by rw [hJ]; exact HSS.out j k)
    clear hjq
    go_upto_region 5 with (fail)
    have cc := B0.cell (i := j) hj6
    have c5 := B2.cell (i := J) hJ6
    have zz := B2.frozen J
    clear hJ
    have hwr : ∀ x : Int, x = (J : Int) → 0 ≤ x ∧ x < 64 := fun x e => by omega
    go_upto_region 6 with (first | rw [hJi])
    clear cc c5 zz hwr
    have lt_B0 := B0.lt
    have lt_B1 := B1.lt
    have lt_B2 := B2.lt
    have qB0 : Blk (wr.setCell ⟨N1, J, none⟩ (.int .u8 ((f j : Int)))) (w.heap.size) 64 24 (f) := (B0.setOther (by show (w.heap.size) ≠ (N1); omega))
    have qB1 : Blk (wr.setCell ⟨N1, J, none⟩ (.int .u8 ((f j : Int)))) (w.heap.size + 1) 64 24 (fun _ => 0) := (B1.setOther (by show (w.heap.size + 1) ≠ (N1); omega))
    have qB2 : Blk (wr.setCell ⟨N1, J, none⟩ (.int .u8 ((f j : Int)))) (N1) 64 24 (spS q f (j + 1)) := ((B2.set (v := f j) (rfl)).congr (fun k _ => HSJ.out k))
    have qhb : Below w.heap.size w (wr.setCell ⟨N1, J, none⟩ (.int .u8 ((f j : Int)))) := (hb.setCell (by show w.heap.size ≤ (N1); omega) _)
    obtain ⟨W4, hwo⟩ : ∃ v : World, v = (wr.setCell ⟨N1, J, none⟩ (.int .u8 ((f j : Int)))) := ⟨_, rfl⟩
    rw [← hwo] at qB0 qB1 qB2 qhb ⊢
    clear hwo
    clear B0 B1 B2 hb
    have B0 := qB0
    have B1 := qB1
    have B2 := qB2
    have hb := qhb
    clear qB0 qB1 qB2 qhb
    try simp only [Act.put, pA, pB, pC]
    go_wp2_with fail
    go_roundw
    case rel => exact ⟨j + 1, by go_num, by omega, hb, B0, B1, B2⟩
    case measure => simp [intOf] <;> omega
  · have hji : ¬ (j : Int) < (NN : Int) - 1 + 1 := by omega
    obtain rfl : j = NN := by omega
    go_upto_region 7 with (fail)
    have lt_B0 := B0.lt
    have lt_B1 := B1.lt
    have lt_B2 := B2.lt
    go_wp2_with (first | rw [← z64] | (refine zla (.tmp 5) B2 Try.underlying24 Try.size24 ?_) | (refine zsr (.tmp 4) (.tmp 21) (spS q f j) B1 Try.size24 ?_; try simp only [Act.put]))
    obtain ⟨W4, hwo, hzQ⟩ : ∃ v : World, v = (wr.setRow (w.heap.size + 1) (zb 64 (spS q f j))) ∧ Blk v (w.heap.size) 64 24 (f) ∧ Blk v (w.heap.size + 1) 64 24 (spS q f j) ∧ Blk v (N1) 64 24 (spS q f j) ∧ Below w.heap.size w v := ⟨_, rfl, (B0.rowOther (by omega)), (B1.row (spS q f j)), (B2.rowOther (by omega)), (zr hb (by omega) _)⟩
    rw [← hwo]
    clear hwo B0 B1 B2 hb
    obtain ⟨B0, B1, B2, hb⟩ := hzQ
    try simp only [Act.put, pA, pB, pC]
    refine bodyPost_ret (zrb rfl _ _ _ 64 24 5 _ rfl B1 Try.underlying24 Try.size24) rfl ⟨by rw [HV.out], hb⟩
end Go.Proofs.Yteloknnooebabaa
end
section
namespace Go.Proofs.Yteloknnooebabaa
open Go Go.RowKit
set_option linter.unusedVariables false
set_option linter.unusedSimpArgs false
attribute [local irreducible] deg addK
set_option maxRecDepth 100000 in
set_option maxHeartbeats 1600000 in
theorem skDegree_any (F : Nat → Nat → Nat) (w : World) : Calls Try.prog 95 #[.agg (zb 512 (fl 64 F))] w fun e w' => e = .returned (.int .i64 (skD F)) ∧ Below w.heap.size w w' := by
 have HD := Lib.hid (show skD F = skN F 8 from rfl)
 have HZ := Lib.hid (skN_z F)
 have HS := Lib.hid (fun n (h : eqN 64 (F n) (fun _ => 0) = true) => skN_skip h)
 have HT := Lib.hid (fun n (h : eqN 64 (F n) (fun _ => 0) = false) => skN_stop h)
 go_enter Try.func95, Try.ntmps95
 go_upto_region 1 with (fail)
 obtain ⟨W1, hwo⟩ : ∃ v : World, v = (w.alloc (.cells (zb 512 (fl 64 F)) 26)) := ⟨_, rfl⟩
 have B0 : Blk W1 (w.heap.size) 512 26 (fl 64 F) := by subst hwo; have := (Blk.new w 512 26 (fl 64 F)); simpa using this
 have hb : Below w.heap.size w W1 := by subst hwo; exact ((Below.refl _ _).alloc (Nat.le_refl _) _)
 rw [← hwo]
 clear hwo
 go_wp2_with fail
 go_loopw [3] (fun c wr => ∃ q : Nat, c = .int .i64 ((q : Int) - 1) ∧ q ≤ 8 ∧ Hid (skN F 8 = skN F q) ∧ Below w.heap.size w wr ∧ Blk wr (w.heap.size) 512 26 (fl 64 F)) (fun c _ => (intOf c + 1).toNat)
 case atStart => exact ⟨8, rfl, Nat.le_refl _, Lib.hid rfl, hb, B0⟩
 case round =>
  clear hb B0
  obtain ⟨q, rfl, hq, hs, hb, B0⟩ := hrel
  by_cases h0 : q = 0
  · subst h0
    have HV := Lib.hid (show skD F = -1 by rw [HD.out, hs.out, HZ.out])
    go_wp2_with fail
    go_ret
    exact ⟨by rw [HV.out]; rfl, hb⟩
  · obtain ⟨q, rfl⟩ : ∃ k, q = k + 1 := ⟨q - 1, by omega⟩
    have hge : (0 : Int) ≤ ((q + 1 : Nat) : Int) - 1 := by omega
    have hge2 : ((q + 1 : Nat) : Int) - 1 ≥ 0 := by omega
    have hq8 : q < 8 := by omega
    have hgd := Try.noGuard24
    have heq := fun W => zeb (P := Try.prog) W 9998 24 5 64 (F q) (fun _ => 0) Try.underlying24 Try.underlying5 Try.size5
    cases hz : eqN 64 (F q) (fun _ => 0) with
    | true =>
     rw [hz] at heq
     go_wp2_with (first | (refine wpList_load_mid rfl 24 (.tmp 9) rfl _ (q * 64) rfl (bl 64 (F q)) _ (B0.sk hq8) Try.underlying24 rfl (by rw [zl]; exact Try.size24) ?_) | rw [← z64])
     go_roundw
     case rel => exact ⟨q, by go_num, by omega, Lib.hid (by rw [hs.out, HS.out q hz]), hb, B0⟩
     case measure => simp [intOf] <;> omega
    | false =>
     rw [hz] at heq
     go_wp2_with (first | (refine wpList_load_mid rfl 24 (.tmp 9) rfl _ (q * 64) rfl (bl 64 (F q)) _ (B0.sk hq8) Try.underlying24 rfl (by rw [zl]; exact Try.size24) ?_) | rw [← z64])
     have HV := Lib.hid (show skD F = (q : Int) by rw [HD.out, hs.out, HT.out q hz])
     go_ret
     exact ⟨by rw [HV.out, show ((q : Nat) : Int) = ((q + 1 : Nat) : Int) - 1 by omega]; rfl, hb⟩
attribute [local irreducible] skA
end Go.Proofs.Yteloknnooebabaa
end
section
namespace Go.Proofs.Yteloknnooebabaa
open Go Go.RowKit
set_option linter.unusedVariables false
set_option linter.unusedSimpArgs false
attribute [local irreducible] deg addK okA flV
/-- a residue -/
noncomputable def rsB (p : Int) (m x : Nat → Nat) : Bool := okA p x && decide (deg x < deg m)
theorem rsB_1 {p : Int} {m x : Nat → Nat} (h : okA p x = false) : rsB p m x = false := by unfold rsB; rw [h]; rfl
theorem rsB_2 {p : Int} {m x : Nat → Nat} (h : okA p x = true) (h2 : deg x < deg m) : rsB p m x = true := by unfold rsB; rw [h]; simpa using h2
theorem rsB_3 {p : Int} {m x : Nat → Nat} (h : okA p x = true) (h2 : ¬ deg x < deg m) : rsB p m x = false := by unfold rsB; rw [h]; simpa using h2
attribute [irreducible] rsB
set_option maxRecDepth 100000 in
set_option maxHeartbeats 1600000 in
theorem isResidue_any (p : Int) (m x : Nat → Nat) (hm : byte m) (hx : byte x) (w : World) :
 Calls Try.prog 114 #[.agg (fdC p m).toArray, .agg (zb 64 x)] w fun e w' => e = .returned (.bool (rsB p m x)) ∧ Below w.heap.size w w' := by
 go_enter Try.func114, Try.ntmps114
 go_upto_region 1 with (fail)
 obtain ⟨W1, hwo⟩ : ∃ v : World, v = ((w.alloc (.cells (fdC p m).toArray 96)).alloc (.cells (zb 64 (x)) 24)) := ⟨_, rfl⟩
 have B0 : Row W1 (w.heap.size) 96 (fdC p m).toArray := by subst hwo; have := ((Row.new w 96 (fdC p m).toArray).alloc (.cells (zb 64 (x)) 24)); simpa using this
 have B1 : Blk W1 (w.heap.size + 1) 64 24 (x) := by subst hwo; have := (Blk.new (w.alloc (.cells (fdC p m).toArray 96)) 64 24 (x)); simpa using this
 have hb : Below w.heap.size w W1 := by subst hwo; exact (((Below.refl _ _).alloc (Nat.le_refl _) _).alloc (by simp) _)
 rw [← hwo]
 clear hwo
 cases ho : okA p x with
 | false =>
  have HV := Lib.hid (rsB_1 (m := m) ho)
  have HOK := Lib.hid (fun W => IsPoly_any p x hx W)
  rw [ho] at HOK
  have HDG := Lib.hid (fun f W => degree_any f W)
  clear ho
  have lt_B0 : (w.heap.size) < W1.heap.size := B0.lt
  have lt_B1 : (w.heap.size + 1) < W1.heap.size := B1.lt
  have hbase : w.heap.size ≤ W1.heap.size := hb.size
  refine wp_region_stepsG Try.mixed (by kernel_rfl) (by kernel_rfl) (fun v => by (simp only [frL, Act.put, pA, pB, pC, Nat.reduceAdd, Nat.zero_add]; exact rfl))
   (fun L v W2 => Below w.heap.size w W2 ∧ W1.heap.size ≤ W2.heap.size ∧ Row W2 (w.heap.size) 96 (fdC p m).toArray ∧ Blk W2 (w.heap.size + 1) 64 24 (x) ∧ VF L v [some (.pointer (some ⟨w.heap.size, 0, none⟩)), some (.int .i64 p), some (.agg (zb 64 (x))), some (.bool false), some (.bool false), some undef, some undef, some undef, some undef, some undef, some undef, some (.bool false), some (.bool false)]) ?_ ?_ ?_
  · intro v hv0
    exact ⟨hb.drew, Nat.le_refl _, B0.drew, B1.drew, VF.start⟩
  · refine (.cons ?_ (.cons ?_ (.cons ?_ (.cons ?_ (.cons ?_ (.cons ?_ (.cons ?_ (.cons ?_ (.cons ?_ (.cons ?_ (.cons ?_ (.cons ?_ (.cons ?_ (.nil _))))))))))))))
    · intro L v W2 hd hn ⟨hB, hz, s0, s1, V⟩ K hK
      rw [if_pos (by simp [Region.wanted])]
      go_wp2_with fail
      exact hK _ (.pointer (some ⟨w.heap.size, 0, none⟩)) _ (by simp only [Act.put, pA, pB, pC ]) ⟨hB, hz, s0, s1, V.step 0 rfl⟩
    · intro L v W2 hd hn ⟨hB, hz, s0, s1, V⟩ K hK
      have e0 := V.at (zdq hd 0 rfl) rfl
      rw [if_pos (by simp [Region.wanted])]
      have cc := s0.cell (i := 0) (v := .int .i64 p) (fdC_at p m)
      go_wp2_with fail
      exact hK _ (.int .i64 p) _ (by simp only [Act.put, pA, pB, pC, e0]) ⟨hB, hz, s0, s1, V.step 1 rfl⟩
    · intro L v W2 hd hn ⟨hB, hz, s0, s1, V⟩ K hK
      rw [if_pos (by simp [Region.wanted])]
      refine zlc s1 Try.underlying24 Try.size24 ?_
      exact hK _ _ _ rfl ⟨hB, hz, s0, s1, V.step 2 rfl⟩
    · intro L v W2 hd hn ⟨hB, hz, s0, s1, V⟩ K hK
      have e1 := V.at (zdq hd 1 rfl) rfl
      have e2 := V.at (zdq hd 2 rfl) rfl
      rw [if_pos (by simp [Region.wanted])]
      go_wp2_with (go_at_call 201; refine (HOK.out _).mono ?_; rintro e wy ⟨rfl, hy⟩)
      exact hK _ (.bool false) _ (by simp only [Act.put, pA, pB, pC, e1, e2]) ⟨hB.trans (hy.mono hB.size), (Nat.le_trans hz hy.size), s0.zw hy, s1.zw hy, V.step 3 rfl⟩
    · intro L v W2 hd hn ⟨hB, hz, s0, s1, V⟩ K hK
      have e3 := V.at (zdq hd 3 rfl) rfl
      rw [if_pos (by simp [Region.wanted])]
      go_wp2_with fail
      exact hK _ (.bool false) _ (by simp only [Act.put, pA, pB, pC, e3]) ⟨hB, hz, s0, s1, V.step 4 rfl⟩
    · intro L v W2 hd hn ⟨hB, hz, s0, s1, V⟩ K hK
      have e4 := V.at (zdq hd 4 rfl) rfl
      rw [if_neg (by simp [Region.wanted, yielded, e4])]
      exact hK _ undef _ rfl ⟨hB, hz, s0, s1, V.step 5 rfl⟩
    · intro L v W2 hd hn ⟨hB, hz, s0, s1, V⟩ K hK
      have e5 := V.at (zdq hd 5 rfl) rfl
      have e4 := V.at (zdq hd 4 rfl) rfl
      rw [if_neg (by simp [Region.wanted, yielded, e4])]
      exact hK _ undef _ rfl ⟨hB, hz, s0, s1, V.step 6 rfl⟩
    · intro L v W2 hd hn ⟨hB, hz, s0, s1, V⟩ K hK
      have e4 := V.at (zdq hd 4 rfl) rfl
      rw [if_neg (by simp [Region.wanted, yielded, e4])]
      exact hK _ undef _ rfl ⟨hB, hz, s0, s1, V.step 7 rfl⟩
    · intro L v W2 hd hn ⟨hB, hz, s0, s1, V⟩ K hK
      have e7 := V.at (zdq hd 7 rfl) rfl
      have e4 := V.at (zdq hd 4 rfl) rfl
      rw [if_neg (by simp [Region.wanted, yielded, e4])]
      exact hK _ undef _ rfl ⟨hB, hz, s0, s1, V.step 8 rfl⟩
    · intro L v W2 hd hn ⟨hB, hz, s0, s1, V⟩ K hK
      have e8 := V.at (zdq hd 8 rfl) rfl
      have e4 := V.at (zdq hd 4 rfl) rfl
      rw [if_neg (by simp [Region.wanted, yielded, e4])]
      exact hK _ undef _ rfl ⟨hB, hz, s0, s1, V.step 9 rfl⟩
    · intro L v W2 hd hn ⟨hB, hz, s0, s1, V⟩ K hK
      have e6 := V.at (zdq hd 6 rfl) rfl
      have e9 := V.at (zdq hd 9 rfl) rfl
      have e4 := V.at (zdq hd 4 rfl) rfl
      rw [if_neg (by simp [Region.wanted, yielded, e4])]
      exact hK _ undef _ rfl ⟨hB, hz, s0, s1, V.step 10 rfl⟩
    · intro L v W2 hd hn ⟨hB, hz, s0, s1, V⟩ K hK
      have e4 := V.at (zdq hd 4 rfl) rfl
      have e10 := V.at (zdq hd 10 rfl) rfl
      rw [if_pos (by simp [Region.wanted])]
      go_wp2_with fail
      exact hK _ (.bool false) _ (by simp only [Act.put, pA, pB, pC, e4, e10]) ⟨hB, hz, s0, s1, V.step 11 rfl⟩
    · intro L v W2 hd hn ⟨hB, hz, s0, s1, V⟩ K hK
      have e11 := V.at (zdq hd 11 rfl) rfl
      rw [if_pos (by simp [Region.wanted])]
      go_wp2_with fail
      exact hK _ (.bool false) _ (by simp only [Act.put, pA, pB, pC, e11]) ⟨hB, hz, s0, s1, V.step 12 rfl⟩
  · intro L v W2 hL ⟨hB, hz, s0, s1, V⟩
    have e0 := V.at (hL 0 (by decide)) rfl
    have e1 := V.at (hL 1 (by decide)) rfl
    have e2 := V.at (hL 2 (by decide)) rfl
    have e3 := V.at (hL 3 (by decide)) rfl
    have e4 := V.at (hL 4 (by decide)) rfl
    have e5 := V.at (hL 5 (by decide)) rfl
    have e6 := V.at (hL 6 (by decide)) rfl
    have e7 := V.at (hL 7 (by decide)) rfl
    have e8 := V.at (hL 8 (by decide)) rfl
    have e9 := V.at (hL 9 (by decide)) rfl
    have e10 := V.at (hL 10 (by decide)) rfl
    have e11 := V.at (hL 11 (by decide)) rfl
    have e12 := V.at (hL 12 (by decide)) rfl
    clear hL V
    simp only [Exit.then, e0, e1, e2, e3, e4, e5, e6, e7, e8, e9, e10, e11, e12]
    clear e0 e1 e2 e3 e4 e5 e6 e7 e8 e9 e10 e11 e12
    replace B0 := s0
    clear s0
    replace B1 := s1
    clear s1
    replace hb := hB
    clear hB
    clear hbase hz lt_B0 lt_B1
    go_wp2_with fail
    go_ret
    exact ⟨by rw [HV.out]; rfl, hb⟩
 | true =>
  by_cases hlt : deg x < deg m
  · skip
    have HV := Lib.hid (rsB_2 ho hlt)
    have HOK := Lib.hid (fun W => IsPoly_any p x hx W)
    rw [ho] at HOK
    have HDG := Lib.hid (fun f W => degree_any f W)
    clear ho
    have lt_B0 : (w.heap.size) < W1.heap.size := B0.lt
    have lt_B1 : (w.heap.size + 1) < W1.heap.size := B1.lt
    have hbase : w.heap.size ≤ W1.heap.size := hb.size
    refine wp_region_stepsG Try.mixed (by kernel_rfl) (by kernel_rfl) (fun v => by (simp only [frL, Act.put, pA, pB, pC, Nat.reduceAdd, Nat.zero_add]; exact rfl))
     (fun L v W2 => Below w.heap.size w W2 ∧ W1.heap.size ≤ W2.heap.size ∧ Row W2 (w.heap.size) 96 (fdC p m).toArray ∧ Blk W2 (w.heap.size + 1) 64 24 (x) ∧ VF L v [some (.pointer (some ⟨w.heap.size, 0, none⟩)), some (.int .i64 p), some (.agg (zb 64 (x))), some (.bool true), some (.bool true), some (.agg (zb 64 (x))), some (.int .i64 (deg x)), some (.pointer (some ⟨w.heap.size, 1, none⟩)), some (.agg (zb 64 (m))), some (.int .i64 (deg m)), some (.bool true), some (.bool true), some (.bool true)]) ?_ ?_ ?_
    · intro v hv0
      exact ⟨hb.drew, Nat.le_refl _, B0.drew, B1.drew, VF.start⟩
    · refine (.cons ?_ (.cons ?_ (.cons ?_ (.cons ?_ (.cons ?_ (.cons ?_ (.cons ?_ (.cons ?_ (.cons ?_ (.cons ?_ (.cons ?_ (.cons ?_ (.cons ?_ (.nil _))))))))))))))
      · intro L v W2 hd hn ⟨hB, hz, s0, s1, V⟩ K hK
        rw [if_pos (by simp [Region.wanted])]
        go_wp2_with fail
        exact hK _ (.pointer (some ⟨w.heap.size, 0, none⟩)) _ (by simp only [Act.put, pA, pB, pC ]) ⟨hB, hz, s0, s1, V.step 0 rfl⟩
      · intro L v W2 hd hn ⟨hB, hz, s0, s1, V⟩ K hK
        have e0 := V.at (zdq hd 0 rfl) rfl
        rw [if_pos (by simp [Region.wanted])]
        have cc := s0.cell (i := 0) (v := .int .i64 p) (fdC_at p m)
        go_wp2_with fail
        exact hK _ (.int .i64 p) _ (by simp only [Act.put, pA, pB, pC, e0]) ⟨hB, hz, s0, s1, V.step 1 rfl⟩
      · intro L v W2 hd hn ⟨hB, hz, s0, s1, V⟩ K hK
        rw [if_pos (by simp [Region.wanted])]
        refine zlc s1 Try.underlying24 Try.size24 ?_
        exact hK _ _ _ rfl ⟨hB, hz, s0, s1, V.step 2 rfl⟩
      · intro L v W2 hd hn ⟨hB, hz, s0, s1, V⟩ K hK
        have e1 := V.at (zdq hd 1 rfl) rfl
        have e2 := V.at (zdq hd 2 rfl) rfl
        rw [if_pos (by simp [Region.wanted])]
        go_wp2_with (go_at_call 201; refine (HOK.out _).mono ?_; rintro e wy ⟨rfl, hy⟩)
        exact hK _ (.bool true) _ (by simp only [Act.put, pA, pB, pC, e1, e2]) ⟨hB.trans (hy.mono hB.size), (Nat.le_trans hz hy.size), s0.zw hy, s1.zw hy, V.step 3 rfl⟩
      · intro L v W2 hd hn ⟨hB, hz, s0, s1, V⟩ K hK
        have e3 := V.at (zdq hd 3 rfl) rfl
        rw [if_pos (by simp [Region.wanted])]
        go_wp2_with fail
        exact hK _ (.bool true) _ (by simp only [Act.put, pA, pB, pC, e3]) ⟨hB, hz, s0, s1, V.step 4 rfl⟩
      · intro L v W2 hd hn ⟨hB, hz, s0, s1, V⟩ K hK
        have e4 := V.at (zdq hd 4 rfl) rfl
        rw [if_pos (by simp [Region.wanted, yielded, e4])]
        refine zlc s1 Try.underlying24 Try.size24 ?_
        exact hK _ _ _ rfl ⟨hB, hz, s0, s1, V.step 5 rfl⟩
      · intro L v W2 hd hn ⟨hB, hz, s0, s1, V⟩ K hK
        have e5 := V.at (zdq hd 5 rfl) rfl
        have e4 := V.at (zdq hd 4 rfl) rfl
        rw [if_pos (by simp [Region.wanted, yielded, e4])]
        go_wp2_with (go_at_call 150; refine (HDG.out _ _).mono ?_; rintro e wy ⟨rfl, hy⟩)
        exact hK _ (.int .i64 (deg x)) _ (by simp only [Act.put, pA, pB, pC, e5, e4]) ⟨hB.trans (hy.mono hB.size), (Nat.le_trans hz hy.size), s0.zw hy, s1.zw hy, V.step 6 rfl⟩
      · intro L v W2 hd hn ⟨hB, hz, s0, s1, V⟩ K hK
        have e4 := V.at (zdq hd 4 rfl) rfl
        rw [if_pos (by simp [Region.wanted, yielded, e4])]
        go_wp2_with fail
        exact hK _ (.pointer (some ⟨w.heap.size, 1, none⟩)) _ (by simp only [Act.put, pA, pB, pC, e4]) ⟨hB, hz, s0, s1, V.step 7 rfl⟩
      · intro L v W2 hd hn ⟨hB, hz, s0, s1, V⟩ K hK
        have e7 := V.at (zdq hd 7 rfl) rfl
        have e4 := V.at (zdq hd 4 rfl) rfl
        rw [if_pos (by simp [Region.wanted, yielded, e4])]
        refine wp_load_mid 24 _ rfl _ 1 e7 _ _ (s0.fd) Try.underlying24 rfl (by rw [zl]; exact Try.size24) ?_
        exact hK _ _ _ rfl ⟨hB, hz, s0, s1, V.step 8 rfl⟩
      · intro L v W2 hd hn ⟨hB, hz, s0, s1, V⟩ K hK
        have e8 := V.at (zdq hd 8 rfl) rfl
        have e4 := V.at (zdq hd 4 rfl) rfl
        rw [if_pos (by simp [Region.wanted, yielded, e4])]
        go_wp2_with (go_at_call 150; refine (HDG.out _ _).mono ?_; rintro e wy ⟨rfl, hy⟩)
        exact hK _ (.int .i64 (deg m)) _ (by simp only [Act.put, pA, pB, pC, e8, e4]) ⟨hB.trans (hy.mono hB.size), (Nat.le_trans hz hy.size), s0.zw hy, s1.zw hy, V.step 9 rfl⟩
      · intro L v W2 hd hn ⟨hB, hz, s0, s1, V⟩ K hK
        have e6 := V.at (zdq hd 6 rfl) rfl
        have e9 := V.at (zdq hd 9 rfl) rfl
        have e4 := V.at (zdq hd 4 rfl) rfl
        rw [if_pos (by simp [Region.wanted, yielded, e4])]
        go_wp2_with fail
        exact hK _ (.bool true) _ (by simp only [Act.put, pA, pB, pC, e6, e9, e4]) ⟨hB, hz, s0, s1, V.step 10 rfl⟩
      · intro L v W2 hd hn ⟨hB, hz, s0, s1, V⟩ K hK
        have e4 := V.at (zdq hd 4 rfl) rfl
        have e10 := V.at (zdq hd 10 rfl) rfl
        rw [if_pos (by simp [Region.wanted])]
        go_wp2_with fail
        exact hK _ (.bool true) _ (by simp only [Act.put, pA, pB, pC, e4, e10]) ⟨hB, hz, s0, s1, V.step 11 rfl⟩
      · intro L v W2 hd hn ⟨hB, hz, s0, s1, V⟩ K hK
        have e11 := V.at (zdq hd 11 rfl) rfl
        rw [if_pos (by simp [Region.wanted])]
        go_wp2_with fail
        exact hK _ (.bool true) _ (by simp only [Act.put, pA, pB, pC, e11]) ⟨hB, hz, s0, s1, V.step 12 rfl⟩
    · intro L v W2 hL ⟨hB, hz, s0, s1, V⟩
      have e0 := V.at (hL 0 (by decide)) rfl
      have e1 := V.at (hL 1 (by decide)) rfl
      have e2 := V.at (hL 2 (by decide)) rfl
      have e3 := V.at (hL 3 (by decide)) rfl
      have e4 := V.at (hL 4 (by decide)) rfl
      have e5 := V.at (hL 5 (by decide)) rfl
      have e6 := V.at (hL 6 (by decide)) rfl
      have e7 := V.at (hL 7 (by decide)) rfl
      have e8 := V.at (hL 8 (by decide)) rfl
      have e9 := V.at (hL 9 (by decide)) rfl
      have e10 := V.at (hL 10 (by decide)) rfl
      have e11 := V.at (hL 11 (by decide)) rfl
      have e12 := V.at (hL 12 (by decide)) rfl
      clear hL V
      simp only [Exit.then, e0, e1, e2, e3, e4, e5, e6, e7, e8, e9, e10, e11, e12]
      clear e0 e1 e2 e3 e4 e5 e6 e7 e8 e9 e10 e11 e12
      replace B0 := s0
      clear s0
      replace B1 := s1
      clear s1
      replace hb := hB
      clear hB
      clear hbase hz lt_B0 lt_B1
      go_wp2_with fail
      go_ret
      exact ⟨by rw [HV.out]; rfl, hb⟩
  · skip
    have HV := Lib.hid (rsB_3 ho hlt)
    have HOK := Lib.hid (fun W => IsPoly_any p x hx W)
    rw [ho] at HOK
    have HDG := Lib.hid (fun f W => degree_any f W)
    clear ho
    have lt_B0 : (w.heap.size) < W1.heap.size := B0.lt
    have lt_B1 : (w.heap.size + 1) < W1.heap.size := B1.lt
    have hbase : w.heap.size ≤ W1.heap.size := hb.size
    refine wp_region_stepsG Try.mixed (by kernel_rfl) (by kernel_rfl) (fun v => by (simp only [frL, Act.put, pA, pB, pC, Nat.reduceAdd, Nat.zero_add]; exact rfl))
     (fun L v W2 => Below w.heap.size w W2 ∧ W1.heap.size ≤ W2.heap.size ∧ Row W2 (w.heap.size) 96 (fdC p m).toArray ∧ Blk W2 (w.heap.size + 1) 64 24 (x) ∧ VF L v [some (.pointer (some ⟨w.heap.size, 0, none⟩)), some (.int .i64 p), some (.agg (zb 64 (x))), some (.bool true), some (.bool true), some (.agg (zb 64 (x))), some (.int .i64 (deg x)), some (.pointer (some ⟨w.heap.size, 1, none⟩)), some (.agg (zb 64 (m))), some (.int .i64 (deg m)), some (.bool false), some (.bool false), some (.bool false)]) ?_ ?_ ?_
    · intro v hv0
      exact ⟨hb.drew, Nat.le_refl _, B0.drew, B1.drew, VF.start⟩
    · refine (.cons ?_ (.cons ?_ (.cons ?_ (.cons ?_ (.cons ?_ (.cons ?_ (.cons ?_ (.cons ?_ (.cons ?_ (.cons ?_ (.cons ?_ (.cons ?_ (.cons ?_ (.nil _))))))))))))))
      · intro L v W2 hd hn ⟨hB, hz, s0, s1, V⟩ K hK
        rw [if_pos (by simp [Region.wanted])]
        go_wp2_with fail
        exact hK _ (.pointer (some ⟨w.heap.size, 0, none⟩)) _ (by simp only [Act.put, pA, pB, pC ]) ⟨hB, hz, s0, s1, V.step 0 rfl⟩
      · intro L v W2 hd hn ⟨hB, hz, s0, s1, V⟩ K hK
        have e0 := V.at (zdq hd 0 rfl) rfl
        rw [if_pos (by simp [Region.wanted])]
        have cc := s0.cell (i := 0) (v := .int .i64 p) (fdC_at p m)
        go_wp2_with fail
        exact hK _ (.int .i64 p) _ (by simp only [Act.put, pA, pB, pC, e0]) ⟨hB, hz, s0, s1, V.step 1 rfl⟩
      · intro L v W2 hd hn ⟨hB, hz, s0, s1, V⟩ K hK
        rw [if_pos (by simp [Region.wanted])]
        refine zlc s1 Try.underlying24 Try.size24 ?_
        exact hK _ _ _ rfl ⟨hB, hz, s0, s1, V.step 2 rfl⟩
      · intro L v W2 hd hn ⟨hB, hz, s0, s1, V⟩ K hK
        have e1 := V.at (zdq hd 1 rfl) rfl
        have e2 := V.at (zdq hd 2 rfl) rfl
        rw [if_pos (by simp [Region.wanted])]
        go_wp2_with (go_at_call 201; refine (HOK.out _).mono ?_; rintro e wy ⟨rfl, hy⟩)
        exact hK _ (.bool true) _ (by simp only [Act.put, pA, pB, pC, e1, e2]) ⟨hB.trans (hy.mono hB.size), (Nat.le_trans hz hy.size), s0.zw hy, s1.zw hy, V.step 3 rfl⟩
      · intro L v W2 hd hn ⟨hB, hz, s0, s1, V⟩ K hK
        have e3 := V.at (zdq hd 3 rfl) rfl
        rw [if_pos (by simp [Region.wanted])]
        go_wp2_with fail
        exact hK _ (.bool true) _ (by simp only [Act.put, pA, pB, pC, e3]) ⟨hB, hz, s0, s1, V.step 4 rfl⟩
      · intro L v W2 hd hn ⟨hB, hz, s0, s1, V⟩ K hK
        have e4 := V.at (zdq hd 4 rfl) rfl
        rw [if_pos (by simp [Region.wanted, yielded, e4])]
        refine zlc s1 Try.underlying24 Try.size24 ?_
        exact hK _ _ _ rfl ⟨hB, hz, s0, s1, V.step 5 rfl⟩
      · intro L v W2 hd hn ⟨hB, hz, s0, s1, V⟩ K hK
        have e5 := V.at (zdq hd 5 rfl) rfl
        have e4 := V.at (zdq hd 4 rfl) rfl
        rw [if_pos (by simp [Region.wanted, yielded, e4])]
        go_wp2_with (go_at_call 150; refine (HDG.out _ _).mono ?_; rintro e wy ⟨rfl, hy⟩)
        exact hK _ (.int .i64 (deg x)) _ (by simp only [Act.put, pA, pB, pC, e5, e4]) ⟨hB.trans (hy.mono hB.size), (Nat.le_trans hz hy.size), s0.zw hy, s1.zw hy, V.step 6 rfl⟩
      · intro L v W2 hd hn ⟨hB, hz, s0, s1, V⟩ K hK
        have e4 := V.at (zdq hd 4 rfl) rfl
        rw [if_pos (by simp [Region.wanted, yielded, e4])]
        go_wp2_with fail
        exact hK _ (.pointer (some ⟨w.heap.size, 1, none⟩)) _ (by simp only [Act.put, pA, pB, pC, e4]) ⟨hB, hz, s0, s1, V.step 7 rfl⟩
      · intro L v W2 hd hn ⟨hB, hz, s0, s1, V⟩ K hK
        have e7 := V.at (zdq hd 7 rfl) rfl
        have e4 := V.at (zdq hd 4 rfl) rfl
        rw [if_pos (by simp [Region.wanted, yielded, e4])]
        refine wp_load_mid 24 _ rfl _ 1 e7 _ _ (s0.fd) Try.underlying24 rfl (by rw [zl]; exact Try.size24) ?_
        exact hK _ _ _ rfl ⟨hB, hz, s0, s1, V.step 8 rfl⟩
      · intro L v W2 hd hn ⟨hB, hz, s0, s1, V⟩ K hK
        have e8 := V.at (zdq hd 8 rfl) rfl
        have e4 := V.at (zdq hd 4 rfl) rfl
        rw [if_pos (by simp [Region.wanted, yielded, e4])]
        go_wp2_with (go_at_call 150; refine (HDG.out _ _).mono ?_; rintro e wy ⟨rfl, hy⟩)
        exact hK _ (.int .i64 (deg m)) _ (by simp only [Act.put, pA, pB, pC, e8, e4]) ⟨hB.trans (hy.mono hB.size), (Nat.le_trans hz hy.size), s0.zw hy, s1.zw hy, V.step 9 rfl⟩
      · intro L v W2 hd hn ⟨hB, hz, s0, s1, V⟩ K hK
        have e6 := V.at (zdq hd 6 rfl) rfl
        have e9 := V.at (zdq hd 9 rfl) rfl
        have e4 := V.at (zdq hd 4 rfl) rfl
        rw [if_pos (by simp [Region.wanted, yielded, e4])]
        go_wp2_with fail
        exact hK _ (.bool false) _ (by simp only [Act.put, pA, pB, pC, e6, e9, e4]) ⟨hB, hz, s0, s1, V.step 10 rfl⟩
      · intro L v W2 hd hn ⟨hB, hz, s0, s1, V⟩ K hK
        have e4 := V.at (zdq hd 4 rfl) rfl
        have e10 := V.at (zdq hd 10 rfl) rfl
        rw [if_pos (by simp [Region.wanted])]
        go_wp2_with fail
        exact hK _ (.bool false) _ (by simp only [Act.put, pA, pB, pC, e4, e10]) ⟨hB, hz, s0, s1, V.step 11 rfl⟩
      · intro L v W2 hd hn ⟨hB, hz, s0, s1, V⟩ K hK
        have e11 := V.at (zdq hd 11 rfl) rfl
        rw [if_pos (by simp [Region.wanted])]
        go_wp2_with fail
        exact hK _ (.bool false) _ (by simp only [Act.put, pA, pB, pC, e11]) ⟨hB, hz, s0, s1, V.step 12 rfl⟩
    · intro L v W2 hL ⟨hB, hz, s0, s1, V⟩
      have e0 := V.at (hL 0 (by decide)) rfl
      have e1 := V.at (hL 1 (by decide)) rfl
      have e2 := V.at (hL 2 (by decide)) rfl
      have e3 := V.at (hL 3 (by decide)) rfl
      have e4 := V.at (hL 4 (by decide)) rfl
      have e5 := V.at (hL 5 (by decide)) rfl
      have e6 := V.at (hL 6 (by decide)) rfl
      have e7 := V.at (hL 7 (by decide)) rfl
      have e8 := V.at (hL 8 (by decide)) rfl
      have e9 := V.at (hL 9 (by decide)) rfl
      have e10 := V.at (hL 10 (by decide)) rfl
      have e11 := V.at (hL 11 (by decide)) rfl
      have e12 := V.at (hL 12 (by decide)) rfl
      clear hL V
      simp only [Exit.then, e0, e1, e2, e3, e4, e5, e6, e7, e8, e9, e10, e11, e12]
      clear e0 e1 e2 e3 e4 e5 e6 e7 e8 e9 e10 e11 e12
      replace B0 := s0
      clear s0
      replace B1 := s1
      clear s1
      replace hb := hB
      clear hB
      clear hbase hz lt_B0 lt_B1
      go_wp2_with fail
      go_ret
      exact ⟨by rw [HV.out]; rfl, hb⟩
end Go.Proofs.Yteloknnooebabaa
end
section
namespace Go.Proofs.Yteloknnooebabaa
open Rg
set_option linter.unusedVariables false
/-- a residue -/
def rsd (p : Nat) (m x : Nat → Nat) : Prop := (∀ k, k < 64 → x k < p) ∧ deg x < deg m
theorem frN_z (p : Nat) (m x : Nat → Nat) : frN p m x 0 = x := rfl
theorem frN_s (p : Nat) (m x : Nat → Nat) (n : Nat) : frN p m x (n + 1) = frI p m (frN p m x n) := rfl
theorem frN_add (p : Nat) (m x : Nat → Nat) (a : Nat) : ∀ b, frN p m (frN p m x a) b = frN p m x (a + b)
 | 0 => rfl
 | b + 1 => by rw [frN_s, frN_add p m x a b, ← Nat.add_assoc, frN_s]
theorem rsd_eq {p : Nat} {m x y : Nat → Nat} (hp : p = 2 ∨ p = 3 ∨ p = 5 ∨ p = 7) (lm : ∀ k, k < 64 → m k < p) (h0 : 0 ≤ deg m) (hx : rsd p m x) (hy : rsd p m y) (h : (rs x : Res p (lz m)) = rs y) : ∀ k, k < 64 → x k = y k :=
 res_sameN hp hx.1 hy.1 lm h0 hx.2 hy.2 (cl_eq.1 h)
section
variable {p : Nat} {m : Nat → Nat} (hp : p = 2 ∨ p = 3 ∨ p = 5 ∨ p = 7) (lm : ∀ k, k < 64 → m k < p) (h0 : 0 ≤ deg m) (h9 : deg m ≤ 9)
include hp lm h0 h9
theorem frI_ok {x : Nat → Nat} (h : rsd p m x) : rsd p m (frI p m x) ∧ (rs (frI p m x) : Res p (lz m)) = pw (rs x) p := by
 have p0 : 0 < p := by omega
 have hd : deg x * (p : Int) ≤ 63 := by
  have := h.2
  rcases hp with rfl | rfl | rfl | rfl <;> omega
 have hl := strP_lt (q := p) p0 (by omega) h.1
 unfold frI
 exact ⟨⟨resP_lt p0 hl, (resP_deg hp hl lm h0).1⟩, by rw [rs_res hp hl lm h0, rs_str hp hd]⟩
theorem frN_ok {x : Nat → Nat} (h : rsd p m x) : ∀ n, rsd p m (frN p m x n) ∧ (rs (frN p m x n) : Res p (lz m)) = fr' p n (rs x)
 | 0 => ⟨h, (fr_z p _).symm⟩
 | n + 1 => by
  obtain ⟨a, b⟩ := frN_ok h n
  obtain ⟨c, e⟩ := frI_ok hp lm h0 h9 a
  rw [frN_s]
  exact ⟨c, by rw [e, b, fr_s]⟩
theorem frI_pm {x : Nat → Nat} (h : rsd p m x) : ∀ k, k < 64 → pmP p x p m k = frI p m x k := by
 obtain ⟨a, b⟩ := frI_ok hp lm h0 h9 h
 obtain ⟨c, e, _⟩ := pmP_spec (k := p) hp h.1 lm h0 (by omega)
 exact rsd_eq hp lm h0 ⟨c, e⟩ a (by rw [b, rs_pm hp h.1 lm h0 (by omega)])
theorem frN_d {x : Nat → Nat} {d : Nat} (hi : irr p (cut m) d) (h : rsd p m x) : ∀ k, k < 64 → frN p m x d k = x k := by
 obtain ⟨a, b⟩ := frN_ok hp lm h0 h9 h d
 refine rsd_eq hp lm h0 a h ?_
 have e1 : lz (cut m) = lz m := by funext k; unfold lz; rw [cut_cut]
 have h1 := (irr_T hp hi).1
 rw [e1] at h1
 have ht : fr' p d (tt : Res p (lz m)) = tt := by
  unfold fr'
  show pw (cl TS fin_TS : Res p (lz m)) (p ^ d) = cl TS fin_TS
  rw [pw_cl]
  exact cl_eq.2 h1
 rw [b, rs_list x, fr_pe hp res_char, ht]
/-- as often as the number tells, modulo d -/
theorem frN_next {x : Nat → Nat} {d : Nat} (hi : irr p (cut m) d) (hd : 1 ≤ d) (h : rsd p m x) (i : Nat) : ∀ k, k < 64 → frN p m (frN p m x (i % d)) (1 % d) k = frN p m x ((i + 1) % d) k := by
 intro k hk
 rw [frN_add]
 by_cases h1 : d = 1
 · subst h1; rw [Nat.mod_one, Nat.mod_one, Nat.mod_one]
 · rw [Nat.mod_eq_of_lt (show 1 < d by omega)]
   by_cases h2 : i % d + 1 < d
   · rw [show (i + 1) % d = i % d + 1 by rw [Nat.add_mod, Nat.mod_eq_of_lt (show 1 < d by omega), Nat.mod_eq_of_lt h2]]
   · have h3 : i % d + 1 = d := by have := Nat.mod_lt i (show 0 < d by omega); omega
     rw [h3, show (i + 1) % d = 0 by rw [Nat.add_mod, Nat.mod_eq_of_lt (show 1 < d by omega), h3, Nat.mod_self], frN_z]
     exact frN_d hp lm h0 h9 hi h k hk
end
end Go.Proofs.Yteloknnooebabaa
end
section
namespace Go.Proofs.Yteloknnooebabaa
open Go Go.RowKit
set_option linter.unusedVariables false
set_option linter.unusedSimpArgs false
attribute [local irreducible] deg addK strP frI frN mmP pmP resP
set_option maxRecDepth 100000 in
set_option maxHeartbeats 1600000 in
theorem kproduct_any (p : Nat) (m f g : Nat → Nat) (w : World) (hpr : p = 2 ∨ p = 3 ∨ p = 5 ∨ p = 7) (lm : ∀ k, k < 64 → m k < p) (h0 : 0 ≤ deg m) (lf : ∀ k, k < 64 → f k < p) (lg : ∀ k, k < 64 → g k < p) :
 Calls Try.prog 157 #[.agg (fdC (p : Int) m).toArray, .agg (zb 64 f), .agg (zb 64 g)] w fun e w' => e = .returned (.agg (zb 64 (mmP p f g m))) ∧ Below w.heap.size w w' := by
 have HRP := Lib.hid (fun W => restOfProduct_any p f g m W hpr lf lg lm h0)
 go_enter Try.func157, Try.ntmps157
 go_upto_region 1 with (fail)
 rw [← z64]
 obtain ⟨W1, hwo⟩ : ∃ v : World, v = ((((w.alloc (.cells (fdC (p : Int) m).toArray 96)).alloc (.cells (zb 64 (f)) 24)).alloc (.cells (zb 64 (g)) 24)).alloc (.cells (zb 64 (fun _ => 0)) 24)) := ⟨_, rfl⟩
 have B0 : Row W1 (w.heap.size) 96 (fdC (p : Int) m).toArray := by subst hwo; have := ((((Row.new w 96 (fdC (p : Int) m).toArray).alloc (.cells (zb 64 (f)) 24)).alloc (.cells (zb 64 (g)) 24)).alloc (.cells (zb 64 (fun _ => 0)) 24)); simpa using this
 have B1 : Blk W1 (w.heap.size + 1) 64 24 (f) := by subst hwo; have := (((Blk.new (w.alloc (.cells (fdC (p : Int) m).toArray 96)) 64 24 (f)).alloc (.cells (zb 64 (g)) 24)).alloc (.cells (zb 64 (fun _ => 0)) 24)); simpa using this
 have B2 : Blk W1 (w.heap.size + 1 + 1) 64 24 (g) := by subst hwo; have := ((Blk.new ((w.alloc (.cells (fdC (p : Int) m).toArray 96)).alloc (.cells (zb 64 (f)) 24)) 64 24 (g)).alloc (.cells (zb 64 (fun _ => 0)) 24)); simpa using this
 have B3 : Blk W1 (w.heap.size + 1 + 1 + 1) 64 24 (fun _ => 0) := by subst hwo; have := (Blk.new (((w.alloc (.cells (fdC (p : Int) m).toArray 96)).alloc (.cells (zb 64 (f)) 24)).alloc (.cells (zb 64 (g)) 24)) 64 24 (fun _ => 0)); simpa using this
 have hb : Below w.heap.size w W1 := by subst hwo; exact (((((Below.refl _ _).alloc (Nat.le_refl _) _).alloc (by simp) _).alloc (by simp; omega) _).alloc (by simp; omega) _)
 rw [← hwo]
 clear hwo
 have cc := B0.cell (i := 0) (v := .int .i64 (p : Int)) (fdC_at (p : Int) m)
 have lt_B0 := B0.lt
 have lt_B1 := B1.lt
 have lt_B2 := B2.lt
 have lt_B3 := B3.lt
 go_wp2_with (first | rw [← z64] | (refine zla (.tmp 4) B1 Try.underlying24 Try.size24 ?_) | (refine zla (.tmp 5) B2 Try.underlying24 Try.size24 ?_) | (refine wpList_load_mid rfl 24 (.tmp 11) rfl _ 1 rfl (bl 64 m) _ (B0.fd) Try.underlying24 rfl (by rw [zl]; exact Try.size24) ?_) | (go_at_call 222; refine (HRP.out _).mono ?_; rintro e W2 ⟨rfl, hW2⟩; replace B0 := B0.zw hW2; replace B1 := B1.zw hW2; replace B2 := B2.zw hW2; replace B3 := B3.zw hW2; replace hb := (hb).trans (hW2.mono (hb).size)) | (refine zsr (.tmp 6) (.tmp 13) (mmP p f g m) B3 Try.size24 ?_; try simp only [Act.put]))
 obtain ⟨W3, hwo, hzQ⟩ : ∃ v : World, v = (W2.setRow (w.heap.size + 1 + 1 + 1) (zb 64 (mmP p f g m))) ∧ Row v (w.heap.size) 96 (fdC (p : Int) m).toArray ∧ Blk v (w.heap.size + 1) 64 24 (f) ∧ Blk v (w.heap.size + 1 + 1) 64 24 (g) ∧ Blk v (w.heap.size + 1 + 1 + 1) 64 24 (mmP p f g m) ∧ Below w.heap.size w v := ⟨_, rfl, (B0.rowOther (by omega)), (B1.rowOther (by omega)), (B2.rowOther (by omega)), (B3.row (mmP p f g m)), (zr hb (by omega) _)⟩
 rw [← hwo]
 clear hwo B0 B1 B2 B3 hb
 obtain ⟨B0, B1, B2, B3, hb⟩ := hzQ
 try simp only [Act.put, pA, pB, pC]
 refine bodyPost_ret (zrb rfl _ _ _ 64 24 5 _ rfl B3 Try.underlying24 Try.size24) rfl ⟨rfl, hb⟩
set_option maxRecDepth 100000 in
set_option maxHeartbeats 1600000 in
theorem kfrob_any (p : Nat) (m x : Nat → Nat) (n : Nat) (w : World) (hpr : p = 2 ∨ p = 3 ∨ p = 5 ∨ p = 7) (lm : ∀ k, k < 64 → m k < p) (d : Nat) (hd : deg m = (d : Int)) (hd1 : 1 ≤ d) (hd9 : d ≤ 9) (hn : n ≤ 1000) (hx : rsd p m x) :
 Calls Try.prog 158 #[.agg (fdC (p : Int) m).toArray, .agg (zb 64 x), .int .i64 (n : Int)] w fun e w' => e = .returned (.agg (zb 64 (frN p m x (n % d)))) ∧ Below w.heap.size w w' := by
 have p0 : 0 < p := by omega
 have h0 : 0 ≤ deg m := by omega
 have h9 : deg m ≤ 9 := by omega
 obtain ⟨M, hM⟩ : ∃ M, M = n % d := ⟨_, rfl⟩
 have hMd : M < d := by rw [hM]; exact Nat.mod_lt _ (by omega)
 have tq1 : (n : Int).tmod (d : Int) = (M : Int) := by rw [Int.tmod_eq_emod_of_nonneg (by omega), hM]; rfl
 have tq2 : ((M : Int) + (d : Int)).tmod (d : Int) = (M : Int) := by
  rw [Int.tmod_eq_emod_of_nonneg (by omega), Int.add_emod_right]
  exact Int.emod_eq_of_lt (by omega) (by omega)
 have HM := Lib.hid hM
 rw [← hM]
 clear hM
 have HD := Lib.hid hd
 have hdz : ¬ (d : Int) = 0 := by omega
 have HZ := Lib.hid (frN_z p m x)
 have HS := Lib.hid (frN_s p m x)
 have HR := Lib.hid (fun j => (frN_ok hpr lm h0 h9 hx j).1)
 have HST := Lib.hid (fun (y : Nat → Nat) (hy : rsd p m y) W => stretched_any p y W (by omega) (by omega) (fun k hk => by have := hy.1 k hk; omega) (by have := hy.2; rcases hpr with rfl | rfl | rfl | rfl <;> omega))
 have HRO := Lib.hid (show ∀ y, rsd p m y → ∀ W, Calls Try.prog 121 #[.int .i64 (p : Int), .agg (zb 64 (strP p y)), .agg (zb 64 m)] W fun e w' => e = .returned (.agg (zb 64 (frI p m y))) ∧ Below W.heap.size W w' from fun y hy W => by
  have h := restOf_any p (strP p y) m W hpr (strP_lt p0 (by omega) hy.1) lm h0
  unfold frI; exact h)
 have HDG := Lib.hid (fun W => degree_any m W)
 rw [hd] at HDG
 clear hd h0 h9 hx
 go_enter Try.func158, Try.ntmps158
 go_upto_region 1 with (fail)
 rw [← z64]
 obtain ⟨W1, hwo⟩ : ∃ v : World, v = (((w.alloc (.cells (fdC (p : Int) m).toArray 96)).alloc (.cells (zb 64 (x)) 24)).alloc (.cells (zb 64 (fun _ => 0)) 24)) := ⟨_, rfl⟩
 have B0 : Row W1 (w.heap.size) 96 (fdC (p : Int) m).toArray := by subst hwo; have := (((Row.new w 96 (fdC (p : Int) m).toArray).alloc (.cells (zb 64 (x)) 24)).alloc (.cells (zb 64 (fun _ => 0)) 24)); simpa using this
 have B1 : Blk W1 (w.heap.size + 1) 64 24 (x) := by subst hwo; have := ((Blk.new (w.alloc (.cells (fdC (p : Int) m).toArray 96)) 64 24 (x)).alloc (.cells (zb 64 (fun _ => 0)) 24)); simpa using this
 have B2 : Blk W1 (w.heap.size + 1 + 1) 64 24 (fun _ => 0) := by subst hwo; have := (Blk.new ((w.alloc (.cells (fdC (p : Int) m).toArray 96)).alloc (.cells (zb 64 (x)) 24)) 64 24 (fun _ => 0)); simpa using this
 have hb : Below w.heap.size w W1 := by subst hwo; exact ((((Below.refl _ _).alloc (Nat.le_refl _) _).alloc (by simp) _).alloc (by simp; omega) _)
 rw [← hwo]
 clear hwo
 go_upto_region 2 with (first | (refine wpList_load_mid rfl 24 (.tmp 8) rfl _ 1 rfl (bl 64 m) _ (B0.fd) Try.underlying24 rfl (by rw [zl]; exact Try.size24) ?_) | (go_at_call 150; refine (HDG.out _).mono ?_; rintro e W2 ⟨rfl, hW2⟩; replace B0 := B0.zw hW2; replace B1 := B1.zw hW2; replace B2 := B2.zw hW2; replace hb := (hb).trans (hW2.mono (hb).size)))
 go_wp2_with fail
 go_loopw [18] (fun c wr => ∃ j : Nat, c = .int .i64 (j : Int) ∧ j ≤ M ∧ Below w.heap.size w wr ∧ Row wr (w.heap.size) 96 (fdC (p : Int) m).toArray ∧ Blk wr (w.heap.size + 1) 64 24 (frN p m x j) ∧ Blk wr (w.heap.size + 1 + 1) 64 24 (fun _ => 0)) (fun c _ => M - (intOf c).toNat)
 case atStart => exact ⟨0, rfl, Nat.zero_le _, hb, B0, by rw [HZ.out]; exact B1, B2⟩
 case round =>
  clear hb B0 B1 B2
  obtain ⟨j, rfl, hjM, hb, B0, B1, B2⟩ := hrel
  by_cases hj : j < M
  · have hjI : (j : Int) < (M : Int) := by omega
    have HR1 := Lib.hid (HR.out j)
    have HS1 := Lib.hid (HST.out _ HR1.out)
    have HS2 := Lib.hid (HRO.out _ HR1.out)
    go_upto_region 4 with (fail)
    have lt_B0 : (w.heap.size) < wr.heap.size := B0.lt
    have lt_B1 : (w.heap.size + 1) < wr.heap.size := B1.lt
    have lt_B2 : (w.heap.size + 1 + 1) < wr.heap.size := B2.lt
    have hbase : w.heap.size ≤ wr.heap.size := hb.size
    refine zq Try.mixed (by kernel_rfl) (by kernel_rfl) (fun v => by (simp only [frL, Act.put, pA, pB, pC, Nat.reduceAdd, Nat.zero_add]; exact rfl))
     (fun L v W3 => Below w.heap.size w W3 ∧ Kx [w.heap.size + 1] wr W3 ∧ (∃ g, Blk W3 (w.heap.size + 1) 64 24 (g)) ∧ (L 9 = false → Blk W3 (w.heap.size + 1) 64 24 (frN p m x j)) ∧ (L 9 = true → Blk W3 (w.heap.size + 1) 64 24 (frI p m (frN p m x j))) ∧ VF L v [some (.pointer (some ⟨w.heap.size, 0, none⟩)), some (.int .i64 (p : Int)), some (.agg (zb 64 (frN p m x j))), some (.pointer (some ⟨w.heap.size, 0, none⟩)), some (.int .i64 (p : Int)), some (.agg (zb 64 (strP p (frN p m x j)))), some (.pointer (some ⟨w.heap.size, 1, none⟩)), some (.agg (zb 64 (m))), some (.agg (zb 64 (frI p m (frN p m x j)))), none]) ?_ ?_ ?_
    · intro v hv0
      exact ⟨hb.drew, Kx.start _ _, ⟨_, B1.drew⟩, (fun _ => B1.drew), (fun h => by cases h), VF.start⟩
    · refine (.cons rfl ?_ (.cons rfl ?_ (.cons rfl ?_ (.cons rfl ?_ (.cons rfl ?_ (.cons rfl ?_ (.cons rfl ?_ (.cons rfl ?_ (.cons rfl ?_ (.cons rfl ?_ (.nil _)))))))))))
      all_goals intro L v W3 hd hn ⟨hB, hX, x1, q1, n1, V⟩ K hK
      · go_wp2_with fail
        exact hK _ (.pointer (some ⟨w.heap.size, 0, none⟩)) _ (by simp only [Act.put, pA, pB, pC ]) ⟨hB, hX, x1, q1, n1, V.step 0 rfl⟩
      · have e0 := V.at (zdq hd 0 rfl) rfl
        have cc := (B0.kx hX (by simp <;> omega)).cell (i := 0) (v := .int .i64 (p : Int)) (fdC_at (p : Int) m)
        go_wp2_with fail
        exact hK _ (.int .i64 (p : Int)) _ (by simp only [Act.put, pA, pB, pC, e0]) ⟨hB, hX, x1, q1, n1, V.step 1 rfl⟩
      · have s1 := q1 (by
         cases hL : L 9 with
         | false => rfl
         | true => exact absurd rfl (hn 9 _ rfl hL ⟨2, .phase⟩ (by simp) rfl))
        refine zlc s1 Try.underlying24 Try.size24 ?_
        exact hK _ _ _ rfl ⟨hB, hX, x1, q1, n1, V.step 2 rfl⟩
      · go_wp2_with fail
        exact hK _ (.pointer (some ⟨w.heap.size, 0, none⟩)) _ (by simp only [Act.put, pA, pB, pC ]) ⟨hB, hX, x1, q1, n1, V.step 3 rfl⟩
      · have e3 := V.at (zdq hd 3 rfl) rfl
        have cc := (B0.kx hX (by simp <;> omega)).cell (i := 0) (v := .int .i64 (p : Int)) (fdC_at (p : Int) m)
        go_wp2_with fail
        exact hK _ (.int .i64 (p : Int)) _ (by simp only [Act.put, pA, pB, pC, e3]) ⟨hB, hX, x1, q1, n1, V.step 4 rfl⟩
      · have e2 := V.at (zdq hd 2 rfl) rfl
        have e4 := V.at (zdq hd 4 rfl) rfl
        go_wp2_with (go_at_call 223; refine (HS1.out _).mono ?_; rintro e wy ⟨rfl, hy⟩)
        exact hK _ (.agg (zb 64 (strP p (frN p m x j)))) _ (by simp only [Act.put, pA, pB, pC, e2, e4]) ⟨hB.trans (hy.mono hB.size), hX.below hy, (let ⟨g, h⟩ := x1; ⟨g, h.zw hy⟩), (fun h => (q1 h).below hy (q1 h).lt), (fun h => (n1 h).below hy (n1 h).lt), V.step 5 rfl⟩
      · go_wp2_with fail
        exact hK _ (.pointer (some ⟨w.heap.size, 1, none⟩)) _ (by simp only [Act.put, pA, pB, pC ]) ⟨hB, hX, x1, q1, n1, V.step 6 rfl⟩
      · have e6 := V.at (zdq hd 6 rfl) rfl
        refine wp_load_mid 24 _ rfl _ 1 e6 _ _ ((B0.kx hX (by simp <;> omega)).fd) Try.underlying24 rfl (by rw [zl]; exact Try.size24) ?_
        exact hK _ _ _ rfl ⟨hB, hX, x1, q1, n1, V.step 7 rfl⟩
      · have e1 := V.at (zdq hd 1 rfl) rfl
        have e5 := V.at (zdq hd 5 rfl) rfl
        have e7 := V.at (zdq hd 7 rfl) rfl
        go_wp2_with (go_at_call 121; refine (HS2.out _).mono ?_; rintro e wy ⟨rfl, hy⟩)
        exact hK _ (.agg (zb 64 (frI p m (frN p m x j)))) _ (by simp only [Act.put, pA, pB, pC, e1, e5, e7]) ⟨hB.trans (hy.mono hB.size), hX.below hy, (let ⟨g, h⟩ := x1; ⟨g, h.zw hy⟩), (fun h => (q1 h).below hy (q1 h).lt), (fun h => (n1 h).below hy (n1 h).lt), V.step 8 rfl⟩
      · have e8 := V.at (zdq hd 8 rfl) rfl
        obtain ⟨gz, hk⟩ := x1
        refine zsb 24 _ _ rfl _ 64 (frI p m (frN p m x j)) rfl e8 24 gz hk Try.size24 ?_
        exact hK _ undef _ rfl ⟨zr hB (by omega) _, hX.row (by simp) _, ⟨_, hk.row _⟩, (fun h => absurd h (by simp [setL])), (fun _ => hk.row _), V.skip 9 rfl⟩
    · intro L v W3 hL ⟨hB, hX, x1, q1, n1, V⟩
      have r1 := n1 (hL 9 (by decide))
      have e0 := V.at (hL 0 (by decide)) rfl
      have e1 := V.at (hL 1 (by decide)) rfl
      have e2 := V.at (hL 2 (by decide)) rfl
      have e3 := V.at (hL 3 (by decide)) rfl
      have e4 := V.at (hL 4 (by decide)) rfl
      have e5 := V.at (hL 5 (by decide)) rfl
      have e6 := V.at (hL 6 (by decide)) rfl
      have e7 := V.at (hL 7 (by decide)) rfl
      have e8 := V.at (hL 8 (by decide)) rfl
      clear hL x1 q1 n1 V
      replace B0 := B0.kx hX (by simp <;> omega)
      replace B2 := B2.kx hX (by simp <;> omega)
      clear hX
      simp only [Exit.then, e0, e1, e2, e3, e4, e5, e6, e7, e8]
      clear e0 e1 e2 e3 e4 e5 e6 e7 e8
      replace B1 := r1
      clear r1
      replace hb := hB
      clear hB
      clear hbase lt_B0 lt_B1 lt_B2
      go_wp2_with fail
      go_roundw
      case rel => exact ⟨j + 1, by go_num, by omega, hb, B0, by rw [HS.out]; exact B1, B2⟩
      case measure => simp [intOf] <;> omega
  · have hjI : ¬ (j : Int) < (M : Int) := by omega
    obtain rfl : j = M := by omega
    go_upto_region 6 with (fail)
    have lt_B0 := B0.lt
    have lt_B1 := B1.lt
    have lt_B2 := B2.lt
    go_wp2_with (first | rw [← z64] | (refine zla (.tmp 4) B1 Try.underlying24 Try.size24 ?_) | (refine zsr (.tmp 6) (.tmp 30) (frN p m x j) B2 Try.size24 ?_; try simp only [Act.put]))
    obtain ⟨W3, hwo, hzQ⟩ : ∃ v : World, v = (wr.setRow (w.heap.size + 1 + 1) (zb 64 (frN p m x j))) ∧ Row v (w.heap.size) 96 (fdC (p : Int) m).toArray ∧ Blk v (w.heap.size + 1) 64 24 (frN p m x j) ∧ Blk v (w.heap.size + 1 + 1) 64 24 (frN p m x j) ∧ Below w.heap.size w v := ⟨_, rfl, (B0.rowOther (by omega)), (B1.rowOther (by omega)), (B2.row (frN p m x j)), (zr hb (by omega) _)⟩
    rw [← hwo]
    clear hwo B0 B1 B2 hb
    obtain ⟨B0, B1, B2, hb⟩ := hzQ
    try simp only [Act.put, pA, pB, pC]
    refine bodyPost_ret (zrb rfl _ _ _ 64 24 5 _ rfl B2 Try.underlying24 Try.size24) rfl ⟨rfl, hb⟩
end Go.Proofs.Yteloknnooebabaa
end
section
namespace Go.Proofs.Yteloknnooebabaa
open Rg
set_option linter.unusedVariables false
theorem mm_zero {p : Nat} {m a b : Nat → Nat} (hp : p = 2 ∨ p = 3 ∨ p = 5 ∨ p = 7) (lm : ∀ k, k < 64 → m k < p) (h0 : 0 ≤ deg m) (ha : ∀ k, k < 64 → a k = 0) : ∀ k, k < 64 → mmP p a b m k = 0 := by
 have hz : deg (fun _ => 0 : Nat → Nat) < 0 := by
  rcases deg_spec (fun _ => 0) with ⟨h, _⟩ | ⟨d, _, _, h, _⟩
  · omega
  · exact absurd rfl h
 refine rsd_eq (y := fun _ => 0) hp lm h0 ⟨fun k hk => mmP_lt (by omega) k (by omega), mmP_deg hp lm h0⟩ ⟨fun k _ => by show 0 < p; omega, by omega⟩ ?_
 have e : (rs a : Res p (lz m)) = rs (fun _ => 0) := cl_congr (by
  funext k
  unfold lz cut
  by_cases h : k < 64
  · rw [if_pos h, if_pos h, ha k h]
  · rw [if_neg h, if_neg h])
 rw [rs_mm hp lm h0, e, rs_zero, omul]
theorem addK_zero {p : Nat} {f g : Nat → Nat} (hf : ∀ k, k < 64 → f k < p) (hg : ∀ k, k < 64 → g k = 0) : ∀ k, k < 64 → addK p f g 1 k = f k := by
 intro k hk
 rw [addK_one]
 show (f k + g k) % p = f k
 rw [hg k hk, Nat.add_zero, Nat.mod_eq_of_lt (hf k hk)]
/-- the value, summed up below i -/
def vlR (p : Nat) (m : Nat → Nat) (d : Nat) (F : Nat → Nat → Nat) (x : Nat → Nat) : Nat → (Nat → Nat)
 | 0 => fun _ => 0
 | i + 1 => addK p (vlR p m d F x i) (mmP p (F i) (frN p m x (i % d)) m) 1
theorem vlR_z (p : Nat) (m : Nat → Nat) (d : Nat) (F : Nat → Nat → Nat) (x : Nat → Nat) : vlR p m d F x 0 = fun _ => 0 := rfl
theorem vlR_s (p : Nat) (m : Nat → Nat) (d : Nat) (F : Nat → Nat → Nat) (x : Nat → Nat) (i : Nat) : vlR p m d F x (i + 1) = addK p (vlR p m d F x i) (mmP p (F i) (frN p m x (i % d)) m) 1 := rfl
theorem vlR_lt {p : Nat} {m : Nat → Nat} {d : Nat} {F : Nat → Nat → Nat} {x : Nat → Nat} (hp : 0 < p) : ∀ i k, vlR p m d F x i k < p
 | 0, k => hp
 | i + 1, k => addK_lt hp k
theorem vlR_skip {p : Nat} {m : Nat → Nat} {d : Nat} {F : Nat → Nat → Nat} {x : Nat → Nat} {i : Nat} (hp : p = 2 ∨ p = 3 ∨ p = 5 ∨ p = 7) (lm : ∀ k, k < 64 → m k < p) (h0 : 0 ≤ deg m) (h : eqN 64 (F i) (fun _ => 0) = true) : ∀ k, k < 64 → vlR p m d F x i k = vlR p m d F x (i + 1) k := by
 intro k hk
 rw [vlR_s]
 exact (addK_zero (fun k _ => vlR_lt (by omega) i k) (mm_zero hp lm h0 (eqN_iff.1 h)) k hk).symm
theorem vlR_tail {p : Nat} {m : Nat → Nat} {d : Nat} {F : Nat → Nat → Nat} {x : Nat → Nat} (hp : p = 2 ∨ p = 3 ∨ p = 5 ∨ p = 7) (lm : ∀ k, k < 64 → m k < p) (h0 : 0 ≤ deg m) {n : Nat} (hn : skD F = (n : Int) - 1) : ∀ j, n + j ≤ 8 → ∀ k, k < 64 → vlR p m d F x n k = vlR p m d F x (n + j) k
 | 0, _, k, _ => rfl
 | j + 1, h, k, hk => by
  rw [vlR_tail hp lm h0 hn j (by omega) k hk]
  exact vlR_skip hp lm h0 (skN_spec F 8 (n + j) (by omega) (by have : skN F 8 = skD F := rfl; omega)) k hk
attribute [irreducible] vlR
end Go.Proofs.Yteloknnooebabaa
end
section
namespace Go.Proofs.Yteloknnooebabaa
open Go Go.RowKit
set_option linter.unusedVariables false
set_option linter.unusedSimpArgs false
attribute [local irreducible] deg addK strP frI frN mmP pmP resP
set_option maxRecDepth 100000 in
set_option maxHeartbeats 1600000 in
theorem skValue_any (p : Nat) (m : Nat → Nat) (F : Nat → Nat → Nat) (x : Nat → Nat) (w : World) (hpr : p = 2 ∨ p = 3 ∨ p = 5 ∨ p = 7) (lm : ∀ k, k < 64 → m k < p) (d : Nat) (hd : deg m = (d : Int)) (hd1 : 1 ≤ d) (hd9 : d ≤ 9) (lF : ∀ i, i < 8 → ∀ k, k < 64 → F i k < p) (hx : rsd p m x) (hi : irr p (cut m) d) :
 Calls Try.prog 202 #[.agg (zb 512 (fl 64 F)), .agg (fdC (p : Int) m).toArray, .agg (zb 64 x)] w fun e w' => e = .returned (.agg (zb 64 (vlR p m d F x 8))) ∧ Below w.heap.size w w' := by
 have p0 : 0 < p := by omega
 have h0 : 0 ≤ deg m := by omega
 have h9 : deg m ≤ 9 := by omega
 have p2 : 2 ≤ p := by omega
 have p7 : p ≤ 7 := by omega
 obtain ⟨fb1, fb2⟩ := zsd F
 obtain ⟨N, hN⟩ : ∃ N : Nat, skD F = (N : Int) - 1 := ⟨(skD F + 1).toNat, by omega⟩
 have HD := Lib.hid hN
 have hN8 : N ≤ 8 := by omega
 have HX := Lib.hid (fun j => (frN_ok hpr lm h0 h9 hx j).1)
 have HKP := Lib.hid (fun j (hj : j < 8) W => kproduct_any p m (F j) (frN p m x (j % d)) W hpr lm h0 (lF j hj) (HX.out (j % d)).1)
 have HKF := Lib.hid (show ∀ j W, Calls Try.prog 158 #[.agg (fdC (p : Int) m).toArray, .agg (zb 64 (frN p m x (j % d))), .int .i64 1] W fun e w' => e = .returned (.agg (zb 64 (frN p m x ((j + 1) % d)))) ∧ Below W.heap.size W w' from fun j W => by
  have h := kfrob_any p m (frN p m x (j % d)) 1 W hpr lm d hd hd1 hd9 (by omega) (HX.out (j % d))
  rw [zbc (frN_next hpr lm h0 h9 hi hd1 hx j)] at h
  exact h)
 have HSU := Lib.hid (show ∀ j W, Calls Try.prog 177 #[.int .i64 (p : Int), .agg (zb 64 (vlR p m d F x j)), .agg (zb 64 (mmP p (F j) (frN p m x (j % d)) m))] W fun e w' => e = .returned (.agg (zb 64 (vlR p m d F x (j + 1)))) ∧ Below W.heap.size W w' from fun j W => by
  rw [vlR_s, addK_one]; exact sum_any p _ _ W p2 p7 (fun k _ => vlR_lt p0 j k) (fun k hk => mmP_lt p0 k (by omega)))
 have HZ := Lib.hid (vlR_z p m d F x)
 have HZ2 := Lib.hid (show frN p m x (0 % d) = x by rw [Nat.zero_mod, frN_z])
 have HV := Lib.hid (show zb 64 (vlR p m d F x N) = zb 64 (vlR p m d F x 8) from zbc (by
  have h := vlR_tail (d := d) (x := x) hpr lm h0 hN (8 - N) (by omega)
  rwa [show N + (8 - N) = 8 by omega] at h))
 clear hN fb1 fb2 hx hi
 go_enter Try.func202, Try.ntmps202
 go_upto_region 1 with (fail)
 rw [← z64]
 obtain ⟨W1, hwo⟩ : ∃ v : World, v = ((((w.alloc (.cells (zb 512 (fl 64 F)) 26)).alloc (.cells (fdC (p : Int) m).toArray 96)).alloc (.cells (zb 64 (x)) 24)).alloc (.cells (zb 64 (fun _ => 0)) 24)) := ⟨_, rfl⟩
 have B0 : Blk W1 (w.heap.size) 512 26 (fl 64 F) := by subst hwo; have := ((((Blk.new w 512 26 (fl 64 F)).alloc (.cells (fdC (p : Int) m).toArray 96)).alloc (.cells (zb 64 (x)) 24)).alloc (.cells (zb 64 (fun _ => 0)) 24)); simpa using this
 have B1 : Row W1 (w.heap.size + 1) 96 (fdC (p : Int) m).toArray := by subst hwo; have := (((Row.new (w.alloc (.cells (zb 512 (fl 64 F)) 26)) 96 (fdC (p : Int) m).toArray).alloc (.cells (zb 64 (x)) 24)).alloc (.cells (zb 64 (fun _ => 0)) 24)); simpa using this
 have B2 : Blk W1 (w.heap.size + 1 + 1) 64 24 (x) := by subst hwo; have := ((Blk.new ((w.alloc (.cells (zb 512 (fl 64 F)) 26)).alloc (.cells (fdC (p : Int) m).toArray 96)) 64 24 (x)).alloc (.cells (zb 64 (fun _ => 0)) 24)); simpa using this
 have B3 : Blk W1 (w.heap.size + 1 + 1 + 1) 64 24 (fun _ => 0) := by subst hwo; have := (Blk.new (((w.alloc (.cells (zb 512 (fl 64 F)) 26)).alloc (.cells (fdC (p : Int) m).toArray 96)).alloc (.cells (zb 64 (x)) 24)) 64 24 (fun _ => 0)); simpa using this
 have hb : Below w.heap.size w W1 := by subst hwo; exact (((((Below.refl _ _).alloc (Nat.le_refl _) _).alloc (by simp) _).alloc (by simp; omega) _).alloc (by simp; omega) _)
 rw [← hwo]
 clear hwo
 go_upto_region 2 with (first | rw [← z64])
 have lt_B0 := B0.lt
 have lt_B1 := B1.lt
 have lt_B2 := B2.lt
 have lt_B3 := B3.lt
 have lhb := hb.size
 obtain ⟨W2, hwo, hzQ⟩ : ∃ v : World, v = (W1.alloc (.cells (zb 64 (fun _ => 0)) 24)) ∧ Blk v (w.heap.size) 512 26 (fl 64 F) ∧ Row v (w.heap.size + 1) 96 (fdC (p : Int) m).toArray ∧ Blk v (w.heap.size + 1 + 1) 64 24 (x) ∧ Blk v (w.heap.size + 1 + 1 + 1) 64 24 (fun _ => 0) ∧ Blk v (W1.heap.size) 64 24 (fun _ => 0) ∧ Below w.heap.size w v := ⟨_, rfl, (B0.alloc (.cells (zb 64 (fun _ => 0)) 24)), (B1.alloc (.cells (zb 64 (fun _ => 0)) 24)), (B2.alloc (.cells (zb 64 (fun _ => 0)) 24)), (B3.alloc (.cells (zb 64 (fun _ => 0)) 24)), (Blk.new W1 64 24 (fun _ => 0)), (hb.alloc (by have := hb.size; simp; omega) (.cells (zb 64 (fun _ => 0)) 24))⟩
 rw [← hwo]
 clear hwo B0 B1 B2 B3 hb
 obtain ⟨B0, B1, B2, B3, B4, hb⟩ := hzQ
 obtain ⟨N1, hNN⟩ : ∃ n : Nat, n = W1.heap.size := ⟨_, rfl⟩
 rw [← hNN] at lt_B0 lt_B1 lt_B2 lt_B3 lhb B4 ⊢
 clear hNN
 have zN1_0 := lt_B0
 have zN1_1 := lt_B1
 have zN1_2 := lt_B2
 have zN1_3 := lt_B3
 have zN1 := lhb
 clear lt_B0 lt_B1 lt_B2 lt_B3 lhb
 try simp only [Act.put, pA, pB, pC]
 go_upto_region 99 with (first | (refine zla (.tmp 3) B0 Try.underlying26 Try.size26 ?_) | (go_at_call 95; refine (skDegree_any F _).mono ?_; rintro e W3 ⟨rfl, hW3⟩; replace B0 := B0.zw hW3; replace B1 := B1.zw hW3; replace B2 := B2.zw hW3; replace B3 := B3.zw hW3; replace B4 := B4.zw hW3; replace hb := (hb).trans (hW3.mono (hb).size); rw [HD.out]))
 have hcnt : ((N : Int) - 1 + 1) = (N : Int) := by omega
 go_loopw [12] (fun c wr => ∃ j : Nat, c = .int .i64 (j : Int) ∧ j ≤ N ∧ Below w.heap.size w wr ∧ Blk wr (w.heap.size) 512 26 (fl 64 F) ∧ Row wr (w.heap.size + 1) 96 (fdC (p : Int) m).toArray ∧ Blk wr (w.heap.size + 1 + 1) 64 24 (frN p m x (j % d)) ∧ Blk wr (w.heap.size + 1 + 1 + 1) 64 24 (fun _ => 0) ∧ Blk wr (N1) 64 24 (vlR p m d F x j)) (fun c _ => N - (intOf c).toNat)
 case atStart => exact ⟨0, rfl, Nat.zero_le _, hb, B0, B1, by rw [HZ2.out]; exact B2, B3, by rw [HZ.out]; exact B4⟩
 case round =>
  clear hb B0 B1 B2 B3 B4
  obtain ⟨j, rfl, hjN, hb, B0, B1, B2, B3, B4⟩ := hrel
  by_cases hj : j < N
  · have hjI : (j : Int) < (N : Int) - 1 + 1 := by omega
    have hj8 : j < 8 := by omega
    have HK1 := Lib.hid (HKP.out j hj8)
    have HK2 := Lib.hid (HSU.out j)
    have HK3 := Lib.hid (HKF.out j)
    go_upto_region 5 with (fail)
    have lt_B0 : (w.heap.size) < wr.heap.size := B0.lt
    have lt_B1 : (w.heap.size + 1) < wr.heap.size := B1.lt
    have lt_B2 : (w.heap.size + 1 + 1) < wr.heap.size := B2.lt
    have lt_B3 : (w.heap.size + 1 + 1 + 1) < wr.heap.size := B3.lt
    have lt_B4 : (N1) < wr.heap.size := B4.lt
    have hbase : w.heap.size ≤ wr.heap.size := hb.size
    refine zq Try.mixed (by kernel_rfl) (by kernel_rfl) (fun v => by (simp only [frL, Act.put, pA, pB, pC, Nat.reduceAdd, Nat.zero_add]; exact rfl))
     (fun L v W4 => Below w.heap.size w W4 ∧ Kx [N1] wr W4 ∧ (∃ g, Blk W4 (N1) 64 24 (g)) ∧ (L 10 = false → Blk W4 (N1) 64 24 (vlR p m d F x j)) ∧ (L 10 = true → Blk W4 (N1) 64 24 (vlR p m d F x (j + 1))) ∧ VF L v [some (.pointer (some ⟨w.heap.size + 1, 0, none⟩)), some (.int .i64 (p : Int)), some (.agg (zb 64 (vlR p m d F x j))), some (.agg (fdC (p : Int) m).toArray), some (.int .i64 (j : Int)), some (.pointer (some ⟨w.heap.size, j * 64, none⟩)), some (.agg (zb 64 (F j))), some (.agg (zb 64 (frN p m x (j % d)))), some (.agg (zb 64 (mmP p (F j) (frN p m x (j % d)) m))), some (.agg (zb 64 (vlR p m d F x (j + 1)))), none]) ?_ ?_ ?_
    · intro v hv0
      exact ⟨hb.drew, Kx.start _ _, ⟨_, B4.drew⟩, (fun _ => B4.drew), (fun h => by cases h), VF.start⟩
    · refine (.cons rfl ?_ (.cons rfl ?_ (.cons rfl ?_ (.cons rfl ?_ (.cons rfl ?_ (.cons rfl ?_ (.cons rfl ?_ (.cons rfl ?_ (.cons rfl ?_ (.cons rfl ?_ (.cons rfl ?_ (.nil _))))))))))))
      all_goals intro L v W4 hd hn ⟨hB, hX, x4, q4, n4, V⟩ K hK
      · go_wp2_with fail
        exact hK _ (.pointer (some ⟨w.heap.size + 1, 0, none⟩)) _ (by simp only [Act.put, pA, pB, pC ]) ⟨hB, hX, x4, q4, n4, V.step 0 rfl⟩
      · have e0 := V.at (zdq hd 0 rfl) rfl
        have cc := (B1.kx hX (by simp <;> omega)).cell (i := 0) (v := .int .i64 (p : Int)) (fdC_at (p : Int) m)
        go_wp2_with fail
        exact hK _ (.int .i64 (p : Int)) _ (by simp only [Act.put, pA, pB, pC, e0]) ⟨hB, hX, x4, q4, n4, V.step 1 rfl⟩
      · have s4 := q4 (by
         cases hL : L 10 with
         | false => rfl
         | true => exact absurd rfl (hn 10 _ rfl hL ⟨2, .phase⟩ (by simp) rfl))
        refine zlc s4 Try.underlying24 Try.size24 ?_
        exact hK _ _ _ rfl ⟨hB, hX, x4, q4, n4, V.step 2 rfl⟩
      · refine wp_load_rowv 96 _ rfl _ rfl 96 _ (B1.kx hX (by simp <;> omega)) _ Try.underlying96 rfl 65 Try.size96 (by simp [fdC_len]) ?_
        exact hK _ _ _ rfl ⟨hB, hX, x4, q4, n4, V.step 3 rfl⟩
      · go_wp2_with fail
        exact hK _ (.int .i64 (j : Int)) _ (by simp only [Act.put, pA, pB, pC ]) ⟨hB, hX, x4, q4, n4, V.step 4 rfl⟩
      · have e4 := V.at (zdq hd 4 rfl) rfl
        go_wp2_with fail
        exact hK _ (.pointer (some ⟨w.heap.size, j * 64, none⟩)) _ (by simp only [Act.put, pA, pB, pC, e4]) ⟨hB, hX, x4, q4, n4, V.step 5 rfl⟩
      · have e5 := V.at (zdq hd 5 rfl) rfl
        refine wp_load_mid 24 _ rfl _ (j * 64) e5 _ _ (((B0.kx hX (by simp <;> omega))).sk (by omega)) Try.underlying24 rfl (by rw [zl]; exact Try.size24) ?_
        exact hK _ _ _ rfl ⟨hB, hX, x4, q4, n4, V.step 6 rfl⟩
      · refine wp_load_any 24 _ rfl _ rfl 64 24 _ (B2.kx hX (by simp <;> omega)) _ Try.underlying24 rfl Try.size24 ?_
        exact hK _ _ _ rfl ⟨hB, hX, x4, q4, n4, V.step 7 rfl⟩
      · have e3 := V.at (zdq hd 3 rfl) rfl
        have e6 := V.at (zdq hd 6 rfl) rfl
        have e7 := V.at (zdq hd 7 rfl) rfl
        go_wp2_with (go_at_call 157; refine (HK1.out _).mono ?_; rintro e wy ⟨rfl, hy⟩)
        exact hK _ (.agg (zb 64 (mmP p (F j) (frN p m x (j % d)) m))) _ (by simp only [Act.put, pA, pB, pC, e3, e6, e7]) ⟨hB.trans (hy.mono hB.size), hX.below hy, (let ⟨g, h⟩ := x4; ⟨g, h.zw hy⟩), (fun h => (q4 h).below hy (q4 h).lt), (fun h => (n4 h).below hy (n4 h).lt), V.step 8 rfl⟩
      · have e1 := V.at (zdq hd 1 rfl) rfl
        have e2 := V.at (zdq hd 2 rfl) rfl
        have e8 := V.at (zdq hd 8 rfl) rfl
        go_wp2_with (go_at_call 177; refine (HK2.out _).mono ?_; rintro e wy ⟨rfl, hy⟩)
        exact hK _ (.agg (zb 64 (vlR p m d F x (j + 1)))) _ (by simp only [Act.put, pA, pB, pC, e1, e2, e8]) ⟨hB.trans (hy.mono hB.size), hX.below hy, (let ⟨g, h⟩ := x4; ⟨g, h.zw hy⟩), (fun h => (q4 h).below hy (q4 h).lt), (fun h => (n4 h).below hy (n4 h).lt), V.step 9 rfl⟩
      · have e9 := V.at (zdq hd 9 rfl) rfl
        obtain ⟨gz, hk⟩ := x4
        refine zsb 24 _ _ rfl _ 64 (vlR p m d F x (j + 1)) rfl e9 24 gz hk Try.size24 ?_
        exact hK _ undef _ rfl ⟨zr hB (by omega) _, hX.row (by simp) _, ⟨_, hk.row _⟩, (fun h => absurd h (by simp [setL])), (fun _ => hk.row _), V.skip 10 rfl⟩
    · intro L v W4 hL ⟨hB, hX, x4, q4, n4, V⟩
      have r4 := n4 (hL 10 (by decide))
      have e0 := V.at (hL 0 (by decide)) rfl
      have e1 := V.at (hL 1 (by decide)) rfl
      have e2 := V.at (hL 2 (by decide)) rfl
      have e3 := V.at (hL 3 (by decide)) rfl
      have e4 := V.at (hL 4 (by decide)) rfl
      have e5 := V.at (hL 5 (by decide)) rfl
      have e6 := V.at (hL 6 (by decide)) rfl
      have e7 := V.at (hL 7 (by decide)) rfl
      have e8 := V.at (hL 8 (by decide)) rfl
      have e9 := V.at (hL 9 (by decide)) rfl
      clear hL x4 q4 n4 V
      replace B0 := B0.kx hX (by simp <;> omega)
      replace B1 := B1.kx hX (by simp <;> omega)
      replace B2 := B2.kx hX (by simp <;> omega)
      replace B3 := B3.kx hX (by simp <;> omega)
      clear hX
      simp only [Exit.then, e0, e1, e2, e3, e4, e5, e6, e7, e8, e9]
      clear e0 e1 e2 e3 e4 e5 e6 e7 e8 e9
      replace B4 := r4
      clear r4
      replace hb := hB
      clear hB
      clear hbase lt_B0 lt_B1 lt_B2 lt_B3 lt_B4
      go_upto_region 6 with (fail)
      have lt_B0 := B0.lt
      have lt_B1 := B1.lt
      have lt_B2 := B2.lt
      have lt_B3 := B3.lt
      have lt_B4 := B4.lt
      go_upto_region 7 with (first | rw [← z64] | (refine zlr rfl 96 (.tmp 4) rfl _ rfl 96 (fdC (p : Int) m).toArray (B1) _ Try.underlying96 rfl 65 Try.size96 (by simp [fdC_len]) ?_) | (refine zla (.tmp 5) B2 Try.underlying24 Try.size24 ?_) | (go_at_call 158; refine (HK3.out _).mono ?_; rintro e W5 ⟨rfl, hW5⟩; replace B0 := B0.zw hW5; replace B1 := B1.zw hW5; replace B2 := B2.zw hW5; replace B3 := B3.zw hW5; replace B4 := B4.zw hW5; replace hb := (hb).trans (hW5.mono (hb).size)) | (refine zsr (.tmp 5) (.tmp 27) (frN p m x ((j + 1) % d)) B2 Try.size24 ?_; try simp only [Act.put]))
      obtain ⟨W6, hwo, hzQ⟩ : ∃ v : World, v = (W5.setRow (w.heap.size + 1 + 1) (zb 64 (frN p m x ((j + 1) % d)))) ∧ Blk v (w.heap.size) 512 26 (fl 64 F) ∧ Row v (w.heap.size + 1) 96 (fdC (p : Int) m).toArray ∧ Blk v (w.heap.size + 1 + 1) 64 24 (frN p m x ((j + 1) % d)) ∧ Blk v (w.heap.size + 1 + 1 + 1) 64 24 (fun _ => 0) ∧ Blk v (N1) 64 24 (vlR p m d F x (j + 1)) ∧ Below w.heap.size w v := ⟨_, rfl, (B0.rowOther (by omega)), (B1.rowOther (by omega)), (B2.row (frN p m x ((j + 1) % d))), (B3.rowOther (by omega)), (B4.rowOther (by omega)), (zr hb (by omega) _)⟩
      rw [← hwo]
      clear hwo B0 B1 B2 B3 B4 hb
      obtain ⟨B0, B1, B2, B3, B4, hb⟩ := hzQ
      try simp only [Act.put, pA, pB, pC]
      go_wp2_with fail
      go_roundw
      case rel => exact ⟨j + 1, by go_num, by omega, hb, B0, B1, B2, B3, B4⟩
      case measure => simp [intOf] <;> omega
  · have hjI : ¬ (j : Int) < (N : Int) - 1 + 1 := by omega
    obtain rfl : j = N := by omega
    go_upto_region 8 with (fail)
    have lt_B0 := B0.lt
    have lt_B1 := B1.lt
    have lt_B2 := B2.lt
    have lt_B3 := B3.lt
    have lt_B4 := B4.lt
    go_wp2_with (first | rw [← z64] | (refine zla (.tmp 7) B4 Try.underlying24 Try.size24 ?_) | (refine zsr (.tmp 6) (.tmp 29) (vlR p m d F x j) B3 Try.size24 ?_; try simp only [Act.put]))
    obtain ⟨W4, hwo, hzQ⟩ : ∃ v : World, v = (wr.setRow (w.heap.size + 1 + 1 + 1) (zb 64 (vlR p m d F x j))) ∧ Blk v (w.heap.size) 512 26 (fl 64 F) ∧ Row v (w.heap.size + 1) 96 (fdC (p : Int) m).toArray ∧ Blk v (w.heap.size + 1 + 1) 64 24 (frN p m x (j % d)) ∧ Blk v (w.heap.size + 1 + 1 + 1) 64 24 (vlR p m d F x j) ∧ Blk v (N1) 64 24 (vlR p m d F x j) ∧ Below w.heap.size w v := ⟨_, rfl, (B0.rowOther (by omega)), (B1.rowOther (by omega)), (B2.rowOther (by omega)), (B3.row (vlR p m d F x j)), (B4.rowOther (by omega)), (zr hb (by omega) _)⟩
    rw [← hwo]
    clear hwo B0 B1 B2 B3 B4 hb
    obtain ⟨B0, B1, B2, B3, B4, hb⟩ := hzQ
    try simp only [Act.put, pA, pB, pC]
    refine bodyPost_ret (zrb rfl _ _ _ 64 24 5 _ rfl B3 Try.underlying24 Try.size24) rfl ⟨by rw [HV.out], hb⟩
end Go.Proofs.Yteloknnooebabaa
end
section
namespace Go.Proofs.Yteloknnooebabaa
open Rg
set_option linter.unusedVariables false
theorem zero_rsd {p : Nat} {m : Nat → Nat} (hp : 0 < p) (h0 : 0 ≤ deg m) : rsd p m (fun _ => 0) := by
 refine ⟨fun _ _ => hp, ?_⟩
 rcases deg_spec (fun _ => 0) with ⟨h, _⟩ | ⟨d, _, _, h, _⟩
 · omega
 · exact absurd rfl h
theorem mm_rsd {p : Nat} {m a b : Nat → Nat} (hp : p = 2 ∨ p = 3 ∨ p = 5 ∨ p = 7) (lm : ∀ k, k < 64 → m k < p) (h0 : 0 ≤ deg m) : rsd p m (mmP p a b m) := ⟨fun k hk => mmP_lt (by omega) k (by omega), mmP_deg hp lm h0⟩
end Go.Proofs.Yteloknnooebabaa
end
section
namespace Go.Proofs.Yteloknnooebabaa
open Rg
set_option linter.unusedVariables false
theorem addK_rsd {p : Nat} {m f g : Nat → Nat} {c : Int} (hp : 0 < p) (h0 : 0 ≤ deg m) (hf : rsd p m f) (hg : rsd p m g) : rsd p m (addK p f g c) := ⟨fun k _ => addK_lt hp k, deg_addK hp h0 hf.2 hg.2⟩
end Go.Proofs.Yteloknnooebabaa
end
section
namespace Go.Proofs.Yteloknnooebabaa
open Go Go.RowKit
set_option linter.unusedVariables false
set_option linter.unusedSimpArgs false
theorem wpList_load_rowv_g {P : Program} {ops : Array Oper} {rest : List Oper} {o : Oper} {a : Act} {w : World} {Q : Exit → Act → World → Prop} (hw : Region.wanted o (yielded ops a.tmps) = true) (ty : TypeId) (x : Operand) (ho : o.op = .load ty x)
 (b : Nat) (hx : a.eval x = .pointer (some ⟨b, 0, none⟩)) (t : TypeId) (cs : Array Value) (hb : Row w b t cs) (d : TypeDesc)
 (hu : P.underlying ty = some d) (hd : (match d with | .struct _ | .array _ _ => true | _ => false) = true) (n : Nat) (hi : (P.info? ty).map (·.size) = some n) (hn : cs.size = n)
 (h : wpList P ops Q rest (a.put o.dst (.agg cs)) w) : wpList P ops Q (o :: rest) a w := by
 unfold wpList
 rw [if_pos hw]
 exact Or.inl (wp_load_rowv ty x ho b hx t cs hb d hu hd n hi hn h)
attribute [local irreducible] deg addK okA flV skA
theorem rsB_rsd {n : Nat} {m x : Nat → Nat} (h : rsB (n : Int) m x = true) : rsd n m x := by
 by_cases ho : okA (n : Int) x = true
 · refine ⟨fun k hk => by have := okA_lt ho hk; omega, ?_⟩
   by_cases hd : deg x < deg m
   · exact hd
   · rw [rsB_3 ho hd] at h; cases h
 · rw [rsB_1 (by simpa using ho)] at h; cases h
end Go.Proofs.Yteloknnooebabaa
end
section
namespace Go.Proofs.Yteloknnooebabaa
open Go Go.RowKit
set_option linter.unusedVariables false
section
variable {P : Program}
theorem wpList_load_rowc_g {ops : Array Oper} {rest : List Oper} {o : Oper} {a : Act} {w : World} {Q : Exit → Act → World → Prop} (hw : Region.wanted o (yielded ops a.tmps) = true) (ty : TypeId) (x : Operand) (ho : o.op = .load ty x)
 (b i : Nat) (hx : a.eval x = .pointer (some ⟨b, i, none⟩)) (t : TypeId) (cs : Array Value) (hb : Row w b t cs) (v : Value) (hi : cs[i]? = some v) (d : TypeDesc)
 (hu : P.underlying ty = some d) (hd : (match d with | .struct _ | .array _ _ => true | _ => false) = false) (h : wpList P ops Q rest (a.put o.dst v) w) : wpList P ops Q (o :: rest) a w := by
 unfold wpList
 rw [if_pos hw]
 exact Or.inl (wp_load_rowc ty x ho b i hx t cs hb v hi d hu hd h)
theorem wp_store_rowv {o : Oper} {a : Act} {w : World} {K : Act → World → Prop} {Q : Exit → Act → World → Prop} (ty : TypeId) (x y : Operand) (ho : o.op = .store ty x y)
 (b : Nat) (hx : a.eval x = .pointer (some ⟨b, 0, none⟩)) (xs : Array Value) (hy : a.eval y = .agg xs) (t : TypeId) (cs : Array Value) (hb : Row w b t cs) (n : Nat) (hi : (P.info? ty).map (·.size) = some n) (hn : cs.size = n) (hm : xs.size = n) (h1 : xs.all (·.oneCell') = true)
 (h : K (a.put o.dst undef) (w.setRow b xs)) : o.wp P a w K Q := by
 have hb' : w.heap[b]? = some (.cells cs t (0, 0)) := by unfold Row at hb; exact hb
 exact wp_store_row ty x y ho b xs hx hy t cs hb' (by rw [hi, hm]) (by rw [hn, hm]) h1 h
/-- 64 cells of a row are written -/
theorem wp_store_part {o : Oper} {a : Act} {w : World} {K : Act → World → Prop} {Q : Exit → Act → World → Prop} (ty : TypeId) (x y : Operand) (ho : o.op = .store ty x y)
 (b i : Nat) (g : Nat → Nat) (hx : a.eval x = .pointer (some ⟨b, i, none⟩)) (hy : a.eval y = .agg (zb 64 g)) (t : TypeId) (cs cs' : Array Value) (hb : Row w b t cs)
 (hc : ((bl 64 g).zipIdx 0).foldl (fun (c : Array Value) (z : Value × Nat) => c.setIfInBounds (i + z.2) z.1) cs = cs') (hn : i + 64 ≤ cs.size)
 (hs : (P.info? ty).map (·.size) = some 64) (h : K (a.put o.dst undef) (w.setRow b cs')) : o.wp P a w K Q := by
 refine wp_store_mid ty x y ho b i (zb 64 g) hx hy ?_ (by rw [zbs]; exact hs) (bcells_one 64 g) ?_
 · rw [zbs]
   intro j hj
   have hl : i + j < cs.size := by omega
   rw [hb.cell (i := i + j) (v := cs[i + j]) (Array.getElem?_eq_getElem hl)]
   exact ⟨rfl, hb.frozen _⟩
 · have hb' : w.heap[b]? = some (.cells cs t (0, 0)) := by unfold Row at hb; exact hb
   rw [show (zb 64 g).toList = bl 64 g from rfl, setCells_row _ _ _ _ hb', hc]
   exact h
theorem wpList_store_part {ops : Array Oper} {rest : List Oper} {o : Oper} {a : Act} {w : World} {Q : Exit → Act → World → Prop} (hgd : o.guard = none) (ty : TypeId) (x y : Operand) (ho : o.op = .store ty x y)
 (b i : Nat) (g : Nat → Nat) (hx : a.eval x = .pointer (some ⟨b, i, none⟩)) (hy : a.eval y = .agg (zb 64 g)) (t : TypeId) (cs cs' : Array Value) (hb : Row w b t cs)
 (hc : ((bl 64 g).zipIdx 0).foldl (fun (c : Array Value) (z : Value × Nat) => c.setIfInBounds (i + z.2) z.1) cs = cs') (hn : i + 64 ≤ cs.size)
 (hs : (P.info? ty).map (·.size) = some 64) (h : wpList P ops Q rest (a.put o.dst undef) (w.setRow b cs')) : wpList P ops Q (o :: rest) a w :=
 wpList_plain hgd fun _ hK => wp_store_part ty x y ho b i g hx hy t cs cs' hb hc hn hs (hK _ _ h)
end
/-- y points to a row from N on -/
def PR (y : Value) (w : World) (N : Nat) (t : TypeId) (cs : Array Value) : Prop := ∃ b, y = .pointer (some ⟨b, 0, none⟩) ∧ N ≤ b ∧ Row w b t cs
def AR (y : Value) (w : World) (N n : Nat) (t : TypeId) : Prop := ∃ cs : Array Value, cs.size = n ∧ PR y w N t cs
theorem PR.belowR {y : Value} {w w' : World} {N : Nat} {t : TypeId} {cs : Array Value} (h : PR y w N t cs) (hb : Below w.heap.size w w') : PR y w' N t cs := by
 obtain ⟨b, e, hN, hk⟩ := h
 exact ⟨b, e, hN, hk.zw hb⟩
theorem AR.belowR {y : Value} {w w' : World} {N n : Nat} {t : TypeId} (h : AR y w N n t) (hb : Below w.heap.size w w') : AR y w' N n t := by
 obtain ⟨cs, hs, h⟩ := h
 exact ⟨cs, hs, h.belowR hb⟩
theorem PR.ar {y : Value} {w : World} {N n : Nat} {t : TypeId} {cs : Array Value} (h : PR y w N t cs) (hs : cs.size = n) : AR y w N n t := ⟨cs, hs, h⟩
theorem PR.newR (w : World) {N : Nat} (t : TypeId) (cs : Array Value) (h : N ≤ w.heap.size) : PR (.pointer (some ⟨w.heap.size, 0, none⟩)) (w.alloc (.cells cs t)) N t cs := ⟨_, rfl, h, Row.new _ _ _⟩
theorem PR.rowR {w : World} {b N : Nat} {t : TypeId} {cs : Array Value} (hb : Row w b t cs) (hN : N ≤ b) (xs : Array Value) : PR (.pointer (some ⟨b, 0, none⟩)) (w.setRow b xs) N t xs := ⟨b, rfl, hN, hb.row xs⟩
theorem AR.rowR {y : Value} {w : World} {b N n : Nat} {t u : TypeId} {cs : Array Value} (h : AR y w N n t) (hb : Row w b u cs) (xs : Array Value) (hx : xs.size = n) : AR y (w.setRow b xs) N n t := by
 obtain ⟨cs', hs, b', e', hN, hk⟩ := h
 by_cases e : b' = b
 · subst e
   exact ⟨xs, hx, b', e', hN, hk.row xs⟩
 · exact ⟨cs', hs, b', e', hN, hk.rowOther e⟩
theorem PR.rowOtherR {y : Value} {w : World} {b N : Nat} {t : TypeId} {cs xs : Array Value} (h : PR y w N t cs) (e : y ≠ .pointer (some ⟨b, 0, none⟩)) : PR y (w.setRow b xs) N t cs := by
 obtain ⟨b', e', hN, hk⟩ := h
 exact ⟨b', e', hN, hk.rowOther (fun x => e (by rw [e', x]))⟩
theorem AR.ne_newR {y : Value} {w : World} {N n : Nat} {t : TypeId} (h : AR y w N n t) : y ≠ .pointer (some ⟨w.heap.size, 0, none⟩) := by
 obtain ⟨cs, hs, b, e, hN, hk⟩ := h
 intro h2
 rw [e] at h2
 have h3 := hk.lt
 have : b = w.heap.size := by injection h2 with h2; injection h2 with h2; injection h2
 omega
theorem AR.rowX {y : Value} {w : World} {b N n m : Nat} {t u : TypeId} {f : Nat → Nat} (h : AR y w N n t) (hb : Blk w b m u f) (hne : t ≠ u) (xs : Array Value) : AR y (w.setRow b xs) N n t := by
 obtain ⟨cs, hs, b', e', hN, hk⟩ := h
 refine ⟨cs, hs, b', e', hN, hk.rowOther (fun e => hne ?_)⟩
 subst e
 unfold Row at hk; unfold Blk at hb
 rw [hk] at hb
 injection hb with hb; injection hb
theorem AF.rowX {y : Value} {w : World} {b N n : Nat} {t u : TypeId} {cs : Array Value} (h : AF y w N n t) (hb : Row w b u cs) (hne : t ≠ u) (xs : Array Value) : AF y (w.setRow b xs) N n t := by
 obtain ⟨g, b', e', hN, hk⟩ := h.out
 delta AF PF
 refine ⟨g, b', e', hN, hk.rowOther (fun e => hne ?_)⟩
 subst e
 unfold Row at hb; unfold Blk at hk
 rw [hk] at hb
 injection hb with hb; injection hb
theorem PR.outR {y : Value} {w : World} {N : Nat} {t : TypeId} {cs : Array Value} (h : PR y w N t cs) : ∃ b, y = .pointer (some ⟨b, 0, none⟩) ∧ N ≤ b ∧ Row w b t cs := h
theorem AR.outR {y : Value} {w : World} {N n : Nat} {t : TypeId} (h : AR y w N n t) : ∃ cs b, y = .pointer (some ⟨b, 0, none⟩) ∧ N ≤ b ∧ cs.size = n ∧ Row w b t cs := by
 obtain ⟨cs, hs, b, e, hN, hk⟩ := h
 exact ⟨cs, b, e, hN, hs, hk⟩
section
variable {P : Program}
theorem results_row {fn : Func} {p : Tmp} {ty : TypeId} (h : fn.results = #[.cell p ty]) (tmps : Array Value) (w : World) (b : Nat) (t : TypeId) (cs : Array Value)
 (hp : tmps.getD p undef = .pointer (some ⟨b, 0, none⟩)) (hb : Row w b t cs) (d : TypeDesc) (hu : P.underlying ty = some d) (hd : (match d with | .struct _ | .array _ _ => true | _ => false) = true) (hi : (P.info? ty).map (·.size) = some cs.size) :
 (results fn tmps).run P w = .ok (.agg cs) w := by
 have hp' : tmps[p]?.getD undef = .pointer (some ⟨b, 0, none⟩) := by simpa using hp
 have hb' : w.heap[b]? = some (.cells cs t (0, 0)) := by unfold Row at hb; exact hb
 simp [results, h, hp', asAddr, run_loadVar_row w b t ty _ (0, 0) d hb' hu hd hi]
end
attribute [irreducible] PR AR
end Go.Proofs.Yteloknnooebabaa
end
section
namespace Go.Proofs.Yteloknnooebabaa
open Go Go.RowKit
set_option linter.unusedVariables false
theorem drC_set (p q : Int) (m G D : Nat → Nat) : (drC p m G D).toArray.setIfInBounds 0 (.int .i64 q) = (drC q m G D).toArray := by simp [drC]
theorem drC_m (p : Int) (m G D g : Nat → Nat) : ((bl 64 g).zipIdx 0).foldl (fun (c : Array Value) (z : Value × Nat) => c.setIfInBounds (1 + z.2) z.1) (drC p m G D).toArray = (drC p g G D).toArray := by
 have := foldl_set (bl 64 g) 1 [.int .i64 p] (bl 64 G ++ bl 64 D) (bl 64 m) (by rw [zl, zl]) rfl
 simpa [drC] using this
theorem drC_g (p : Int) (m G D g : Nat → Nat) : ((bl 64 g).zipIdx 0).foldl (fun (c : Array Value) (z : Value × Nat) => c.setIfInBounds (65 + z.2) z.1) (drC p m G D).toArray = (drC p m g D).toArray := by
 have := foldl_set (bl 64 g) 65 (.int .i64 p :: bl 64 m) (bl 64 D) (bl 64 G) (by rw [zl, zl]) (by rw [List.length_cons, zl])
 simpa [drC] using this
theorem drC_d (p : Int) (m G D g : Nat → Nat) : ((bl 64 g).zipIdx 0).foldl (fun (c : Array Value) (z : Value × Nat) => c.setIfInBounds (129 + z.2) z.1) (drC p m G D).toArray = (drC p m G g).toArray := by
 have := foldl_set (bl 64 g) 129 (.int .i64 p :: (bl 64 m ++ bl 64 G)) [] (bl 64 D) (by rw [zl, zl]) (by rw [List.length_cons, List.length_append, zl, zl])
 simpa [drC] using this
theorem Try.size55 : (Try.prog.info? 55).map (·.size) = some 193 := by kernel_rfl
theorem drC_zero : (drC 0 (fun _ => 0) (fun _ => 0) (fun _ => 0)).toArray = Try.zeroCells58 := by unfold drC bl; kernel_rfl
end Go.Proofs.Yteloknnooebabaa
end
section
namespace Go.Proofs.Yteloknnooebabaa
open Go Go.RowKit
set_option linter.unusedVariables false
set_option linter.unusedSimpArgs false
attribute [local irreducible] deg irB monUp monB okA
/-- a Drinfeld module -/
noncomputable def drB (p : Int) (m G D : Nat → Nat) : Bool := flV p m && (rsB p m G && (rsB p m D && !eqN 64 D (fun _ => 0)))
theorem drB_1 {p : Int} {m G D : Nat → Nat} (h : flV p m = false) : drB p m G D = false := by unfold drB; rw [h]; rfl
theorem drB_2 {p : Int} {m G D : Nat → Nat} (h : rsB p m G = false) : drB p m G D = false := by unfold drB; rw [h]; simp
theorem drB_3 {p : Int} {m G D : Nat → Nat} (h : rsB p m D = false) : drB p m G D = false := by unfold drB; rw [h]; simp
theorem drB_4 {p : Int} {m G D : Nat → Nat} (h : eqN 64 D (fun _ => 0) = true) : drB p m G D = false := by unfold drB; rw [h]; simp
theorem drB_5 {p : Int} {m G D : Nat → Nat} (h1 : flV p m = true) (h2 : rsB p m G = true) (h3 : rsB p m D = true) (h4 : eqN 64 D (fun _ => 0) = false) : drB p m G D = true := by unfold drB; rw [h1, h2, h3, h4]; rfl
theorem drB_code {p : Int} {m G D : Nat → Nat} (h : codeL p [m, G, D] = 1) : drB p m G D = false := by
 cases h1 : okA p m with
 | false => exact drB_1 (flV_1 h1)
 | true =>
  cases h2 : okA p G with
  | false => exact drB_2 (by unfold rsB; rw [h2]; rfl)
  | true =>
   cases h3 : okA p D with
   | false => exact drB_3 (by unfold rsB; rw [h3]; rfl)
   | true =>
    have : codeL p [m, G, D] = 0 := codeL_ok (okA_p h1) (fun j f hf => by
     match j, hf with
     | 0, hf => cases hf; exact h1
     | 1, hf => cases hf; exact h2
     | 2, hf => cases hf; exact h3)
    omega
theorem drB_all {p : Int} {m G D : Nat → Nat} (h : drB p m G D = true) : flV p m = true ∧ rsB p m G = true ∧ rsB p m D = true ∧ eqN 64 D (fun _ => 0) = false := by
 unfold drB at h
 simp only [Bool.and_eq_true, Bool.not_eq_true'] at h
 exact ⟨h.1, h.2.1, h.2.2.1, h.2.2.2⟩
set_option maxRecDepth 100000 in
set_option maxHeartbeats 1600000 in
theorem toDrinfeld_any (p : Int) (m G D : Nat → Nat) (hm : byte m) (hG : byte G) (hD : byte D) (w : World) :
 Calls Try.prog 59 #[(.agg (drC p m G D).toArray)] w fun e w' => e = .returned (.agg (drC p m G D).toArray) ∧ Below w.heap.size w w' := by
 go_enter Try.func59, Try.ntmps59
 go_upto_region 1 with (fail)
 rw [← drC_zero]
 obtain ⟨W1, hwo⟩ : ∃ v : World, v = ((w.alloc (.cells (drC p m G D).toArray 55)).alloc (.cells (drC 0 (fun _ => 0) (fun _ => 0) (fun _ => 0)).toArray 58)) := ⟨_, rfl⟩
 have B0 : Row W1 (w.heap.size) 55 (drC p m G D).toArray := by subst hwo; have := ((Row.new w 55 (drC p m G D).toArray).alloc (.cells (drC 0 (fun _ => 0) (fun _ => 0) (fun _ => 0)).toArray 58)); simpa using this
 have B1 : Row W1 (w.heap.size + 1) 58 (drC 0 (fun _ => 0) (fun _ => 0) (fun _ => 0)).toArray := by subst hwo; have := (Row.new (w.alloc (.cells (drC p m G D).toArray 55)) 58 (drC 0 (fun _ => 0) (fun _ => 0) (fun _ => 0)).toArray); simpa using this
 have hb : Below w.heap.size w W1 := by subst hwo; exact (((Below.refl _ _).alloc (Nat.le_refl _) _).alloc (by simp) _)
 rw [← hwo]
 clear hwo
 go_upto_region 2 with (first | rw [← z64] | rw [← drC_zero])
 have lt_B0 := B0.lt
 have lt_B1 := B1.lt
 have lhb := hb.size
 obtain ⟨W2, hwo, hzQ⟩ : ∃ v : World, v = (W1.alloc (.cells (drC 0 (fun _ => 0) (fun _ => 0) (fun _ => 0)).toArray 58)) ∧ Row v (w.heap.size) 55 (drC p m G D).toArray ∧ Row v (w.heap.size + 1) 58 (drC 0 (fun _ => 0) (fun _ => 0) (fun _ => 0)).toArray ∧ Row v (W1.heap.size) 58 (drC 0 (fun _ => 0) (fun _ => 0) (fun _ => 0)).toArray ∧ Below w.heap.size w v := ⟨_, rfl, (B0.alloc (.cells (drC 0 (fun _ => 0) (fun _ => 0) (fun _ => 0)).toArray 58)), (B1.alloc (.cells (drC 0 (fun _ => 0) (fun _ => 0) (fun _ => 0)).toArray 58)), (Row.new W1 58 (drC 0 (fun _ => 0) (fun _ => 0) (fun _ => 0)).toArray), (hb.alloc (by have := hb.size; simp; omega) (.cells (drC 0 (fun _ => 0) (fun _ => 0) (fun _ => 0)).toArray 58))⟩
 rw [← hwo]
 clear hwo B0 B1 hb
 obtain ⟨B0, B1, B2, hb⟩ := hzQ
 obtain ⟨N1, hNN⟩ : ∃ n : Nat, n = W1.heap.size := ⟨_, rfl⟩
 rw [← hNN] at lt_B0 lt_B1 lhb B2 ⊢
 clear hNN
 have zN1_0 := lt_B0
 have zN1_1 := lt_B1
 have zN1 := lhb
 clear lt_B0 lt_B1 lhb
 try simp only [Act.put, pA, pB, pC]
 have cc3 := B2.cell (i := 0) (drC_at _ _ _ _)
 have zz3 := B2.frozen 0
 go_upto_region 3 with (first | rw [← z64] | (refine wpList_load_rowc rfl 2 (.tmp 4) rfl _ 0 rfl 55 _ (B0) (.int .i64 p) (drC_at _ _ _ _) _ Try.underlying2 rfl ?_))
 clear cc3 zz3
 obtain ⟨W3, hwo, hzQ⟩ : ∃ v : World, v = (W2.setCell ⟨N1, 0, none⟩ (.int .i64 p)) ∧ Row v (w.heap.size) 55 (drC p m G D).toArray ∧ Row v (w.heap.size + 1) 58 (drC 0 (fun _ => 0) (fun _ => 0) (fun _ => 0)).toArray ∧ Row v (N1) 58 (drC p (fun _ => 0) (fun _ => 0) (fun _ => 0)).toArray ∧ Below w.heap.size w v := ⟨_, rfl, (B0.setOther (by dsimp only; omega)), (B1.setOther (by dsimp only; omega)), (show Row _ _ _ (drC p (fun _ => 0) (fun _ => 0) (fun _ => 0)).toArray by rw [← (drC_set _ _ _ _ _)]; exact (B2).set), (hb.setCell (by show w.heap.size ≤ (N1); omega) _)⟩
 rw [← hwo]
 clear hwo B0 B1 B2 hb
 obtain ⟨B0, B1, B2, hb⟩ := hzQ
 try simp only [Act.put, pA, pB, pC]
 have lt_B0 := B0.lt
 have lt_B1 := B1.lt
 have lt_B2 := B2.lt
 go_upto_region 4 with (first | rw [← z64] | (refine wpList_load_mid rfl 22 (.tmp 7) rfl _ 1 rfl (bl 64 m) _ (B0.drm) Try.underlying22 rfl (by rw [zl]; exact Try.size22) ?_) | (go_at_call 28; with_reducible refine (toPoly_any m hm _).mono ?_; rintro e W4 ⟨rfl, hW4⟩; replace B0 := B0.zw hW4; replace B1 := B1.zw hW4; replace B2 := B2.zw hW4; replace hb := (hb).trans (hW4.mono (hb).size)) | (refine wpList_store_part rfl 24 (.tmp 10) (.tmp 9) rfl _ 1 (m) rfl rfl 58 _ (drC p m (fun _ => 0) (fun _ => 0)).toArray (B2) (drC_m _ _ _ _ _) (by first | decide | simp [drC_len]) Try.size24 ?_; try simp only [Act.put]))
 obtain ⟨W5, hwo, hzQ⟩ : ∃ v : World, v = (W4.setRow (N1) (drC p m (fun _ => 0) (fun _ => 0)).toArray) ∧ Row v (w.heap.size) 55 (drC p m G D).toArray ∧ Row v (w.heap.size + 1) 58 (drC 0 (fun _ => 0) (fun _ => 0) (fun _ => 0)).toArray ∧ Row v (N1) 58 (drC p m (fun _ => 0) (fun _ => 0)).toArray ∧ Below w.heap.size w v := ⟨_, rfl, (B0.rowOther (by omega)), (B1.rowOther (by omega)), (B2.row (drC p m (fun _ => 0) (fun _ => 0)).toArray), (zr hb (by omega) _)⟩
 rw [← hwo]
 clear hwo B0 B1 B2 hb
 obtain ⟨B0, B1, B2, hb⟩ := hzQ
 try simp only [Act.put, pA, pB, pC]
 have lt_B0 := B0.lt
 have lt_B1 := B1.lt
 have lt_B2 := B2.lt
 go_upto_region 5 with (first | rw [← z64] | (refine wpList_load_mid rfl 22 (.tmp 11) rfl _ 65 rfl (bl 64 G) _ (B0.drg) Try.underlying22 rfl (by rw [zl]; exact Try.size22) ?_) | (go_at_call 28; with_reducible refine (toPoly_any G hG _).mono ?_; rintro e W6 ⟨rfl, hW6⟩; replace B0 := B0.zw hW6; replace B1 := B1.zw hW6; replace B2 := B2.zw hW6; replace hb := (hb).trans (hW6.mono (hb).size)) | (refine wpList_store_part rfl 24 (.tmp 14) (.tmp 13) rfl _ 65 (G) rfl rfl 58 _ (drC p m G (fun _ => 0)).toArray (B2) (drC_g _ _ _ _ _) (by first | decide | simp [drC_len]) Try.size24 ?_; try simp only [Act.put]))
 obtain ⟨W7, hwo, hzQ⟩ : ∃ v : World, v = (W6.setRow (N1) (drC p m G (fun _ => 0)).toArray) ∧ Row v (w.heap.size) 55 (drC p m G D).toArray ∧ Row v (w.heap.size + 1) 58 (drC 0 (fun _ => 0) (fun _ => 0) (fun _ => 0)).toArray ∧ Row v (N1) 58 (drC p m G (fun _ => 0)).toArray ∧ Below w.heap.size w v := ⟨_, rfl, (B0.rowOther (by omega)), (B1.rowOther (by omega)), (B2.row (drC p m G (fun _ => 0)).toArray), (zr hb (by omega) _)⟩
 rw [← hwo]
 clear hwo B0 B1 B2 hb
 obtain ⟨B0, B1, B2, hb⟩ := hzQ
 try simp only [Act.put, pA, pB, pC]
 have lt_B0 := B0.lt
 have lt_B1 := B1.lt
 have lt_B2 := B2.lt
 go_upto_region 6 with (first | rw [← z64] | (refine wpList_load_mid rfl 22 (.tmp 15) rfl _ 129 rfl (bl 64 D) _ (B0.drd) Try.underlying22 rfl (by rw [zl]; exact Try.size22) ?_) | (go_at_call 28; with_reducible refine (toPoly_any D hD _).mono ?_; rintro e W8 ⟨rfl, hW8⟩; replace B0 := B0.zw hW8; replace B1 := B1.zw hW8; replace B2 := B2.zw hW8; replace hb := (hb).trans (hW8.mono (hb).size)) | (refine wpList_store_part rfl 24 (.tmp 18) (.tmp 17) rfl _ 129 (D) rfl rfl 58 _ (drC p m G D).toArray (B2) (drC_d _ _ _ _ _) (by first | decide | simp [drC_len]) Try.size24 ?_; try simp only [Act.put]))
 obtain ⟨W9, hwo, hzQ⟩ : ∃ v : World, v = (W8.setRow (N1) (drC p m G D).toArray) ∧ Row v (w.heap.size) 55 (drC p m G D).toArray ∧ Row v (w.heap.size + 1) 58 (drC 0 (fun _ => 0) (fun _ => 0) (fun _ => 0)).toArray ∧ Row v (N1) 58 (drC p m G D).toArray ∧ Below w.heap.size w v := ⟨_, rfl, (B0.rowOther (by omega)), (B1.rowOther (by omega)), (B2.row (drC p m G D).toArray), (zr hb (by omega) _)⟩
 rw [← hwo]
 clear hwo B0 B1 B2 hb
 obtain ⟨B0, B1, B2, hb⟩ := hzQ
 try simp only [Act.put, pA, pB, pC]
 have lt_B0 := B0.lt
 have lt_B1 := B1.lt
 have lt_B2 := B2.lt
 go_wp2_with (first | rw [← z64] | (refine zlr rfl 58 (.tmp 3) rfl _ rfl 58 (drC p m G D).toArray (B2) _ Try.underlying58 rfl 193 Try.size58 (by simp [drC_len]) ?_) | (refine wpList_store_rowv rfl 58 (.tmp 2) (.tmp 19) rfl _ rfl (drC p m G D).toArray rfl 58 _ (B1) 193 Try.size58 (by simp [drC_len]) (by simp [drC_len]) (drC_all _ _ _ _) ?_; try simp only [Act.put]))
 obtain ⟨W10, hwo, hzQ⟩ : ∃ v : World, v = (W9.setRow (w.heap.size + 1) (drC p m G D).toArray) ∧ Row v (w.heap.size) 55 (drC p m G D).toArray ∧ Row v (w.heap.size + 1) 58 (drC p m G D).toArray ∧ Row v (N1) 58 (drC p m G D).toArray ∧ Below w.heap.size w v := ⟨_, rfl, (B0.rowOther (by omega)), (B1.row (drC p m G D).toArray), (B2.rowOther (by omega)), (zr hb (by omega) _)⟩
 rw [← hwo]
 clear hwo B0 B1 B2 hb
 obtain ⟨B0, B1, B2, hb⟩ := hzQ
 try simp only [Act.put, pA, pB, pC]
 refine bodyPost_ret (results_row rfl _ _ _ _ _ rfl B1 _ Try.underlying58 rfl (by rw [Try.size58]; simp [drC_len])) rfl ⟨rfl, hb⟩
set_option maxRecDepth 100000 in
set_option maxHeartbeats 1600000 in
theorem drField_any (p : Int) (m G D : Nat → Nat) (w : World) :
 Calls Try.prog 146 #[(.agg (drC p m G D).toArray)] w fun e w' => e = .returned (.agg (fdC p m).toArray) ∧ Below w.heap.size w w' := by
 go_enter Try.func146, Try.ntmps146
 go_upto_region 1 with (fail)
 rw [← fdC_zero]
 obtain ⟨W1, hwo⟩ : ∃ v : World, v = ((w.alloc (.cells (drC p m G D).toArray 58)).alloc (.cells (fdC 0 (fun _ => 0)).toArray 96)) := ⟨_, rfl⟩
 have B0 : Row W1 (w.heap.size) 58 (drC p m G D).toArray := by subst hwo; have := ((Row.new w 58 (drC p m G D).toArray).alloc (.cells (fdC 0 (fun _ => 0)).toArray 96)); simpa using this
 have B1 : Row W1 (w.heap.size + 1) 96 (fdC 0 (fun _ => 0)).toArray := by subst hwo; have := (Row.new (w.alloc (.cells (drC p m G D).toArray 58)) 96 (fdC 0 (fun _ => 0)).toArray); simpa using this
 have hb : Below w.heap.size w W1 := by subst hwo; exact (((Below.refl _ _).alloc (Nat.le_refl _) _).alloc (by simp) _)
 rw [← hwo]
 clear hwo
 have lt_B0 := B0.lt
 have lt_B1 := B1.lt
 go_wp2_with (first | rw [← z64] | (refine wpList_load_rowc rfl 2 (.tmp 3) rfl _ 0 rfl 58 _ (B0) (.int .i64 p) (drC_at _ _ _ _) _ Try.underlying2 rfl ?_) | (refine wpList_load_mid rfl 24 (.tmp 5) rfl _ 1 rfl (bl 64 m) _ (B0.drm) Try.underlying24 rfl (by rw [zl]; exact Try.size24) ?_) | (refine zbo rfl 96 _ rfl (fdC p m).toArray (by rw [Array.toList_map]; exact built_fd p m) ?_) | (refine wpList_store_rowv rfl 96 (.tmp 2) (.tmp 7) rfl _ rfl (fdC p m).toArray rfl 96 _ (B1) 65 Try.size96 (by simp [fdC_len]) (by simp [fdC_len]) (fdC_all _ _) ?_; try simp only [Act.put]))
 obtain ⟨W2, hwo, hzQ⟩ : ∃ v : World, v = (W1.setRow (w.heap.size + 1) (fdC p m).toArray) ∧ Row v (w.heap.size) 58 (drC p m G D).toArray ∧ Row v (w.heap.size + 1) 96 (fdC p m).toArray ∧ Below w.heap.size w v := ⟨_, rfl, (B0.rowOther (by omega)), (B1.row (fdC p m).toArray), (zr hb (by omega) _)⟩
 rw [← hwo]
 clear hwo B0 B1 hb
 obtain ⟨B0, B1, hb⟩ := hzQ
 try simp only [Act.put, pA, pB, pC]
 refine bodyPost_ret (results_row rfl _ _ _ _ _ rfl B1 _ Try.underlying96 rfl (by rw [Try.size96]; simp [fdC_len])) rfl ⟨rfl, hb⟩
set_option maxRecDepth 100000 in
set_option maxHeartbeats 1600000 in
theorem impl_IsDrinfeld_any (p : Int) (m G D : Nat → Nat) (hm : byte m) (hG : byte G) (hD : byte D) (w : World) :
 Calls Try.prog 60 #[(.agg (drC p m G D).toArray)] w fun e w' => e = .returned (.bool (drB p m G D)) ∧ Below w.heap.size w w' := by
 have HFD := Lib.hid (fun W => drField_any p m G D W)
 have HFL := Lib.hid (fun W => impl_IsField_any p m hm W)
 have HRG := Lib.hid (fun W => isResidue_any p m G hm hG W)
 have HRD := Lib.hid (fun W => isResidue_any p m D hm hD W)
 go_enter Try.func60, Try.ntmps60
 go_upto_region 1 with (fail)
 obtain ⟨W1, hwo⟩ : ∃ v : World, v = (w.alloc (.cells (drC p m G D).toArray 58)) := ⟨_, rfl⟩
 have B0 : Row W1 (w.heap.size) 58 (drC p m G D).toArray := by subst hwo; have := (Row.new w 58 (drC p m G D).toArray); simpa using this
 have hb : Below w.heap.size w W1 := by subst hwo; exact ((Below.refl _ _).alloc (Nat.le_refl _) _)
 rw [← hwo]
 clear hwo
 have lt_B0 := B0.lt
 go_upto_region 2 with (first | rw [← z64] | rw [← fdC_zero] | (refine zlr rfl 58 (.tmp 1) rfl _ rfl 58 (drC p m G D).toArray (B0) _ Try.underlying58 rfl 193 Try.size58 (by simp [drC_len]) ?_) | (go_at_call 146; refine (HFD.out _).mono ?_; rintro e W2 ⟨rfl, hW2⟩; replace B0 := B0.zw hW2; replace hb := (hb).trans (hW2.mono (hb).size)) | (refine wpList_store_rowv rfl 96 (.tmp 3) (.tmp 5) rfl _ rfl (fdC p m).toArray rfl 96 _ ((Row.new W2 96 (fdC 0 (fun _ => 0)).toArray)) 65 Try.size96 (by simp [fdC_len]) (by simp [fdC_len]) (fdC_all _ _) ?_; try simp only [Act.put]))
 have lt_B0 := B0.lt
 have lhb := hb.size
 obtain ⟨W3, hwo, hzQ⟩ : ∃ v : World, v = ((W2.alloc (.cells (fdC 0 (fun _ => 0)).toArray 96)).setRow (W2.heap.size) (fdC p m).toArray) ∧ Row v (w.heap.size) 58 (drC p m G D).toArray ∧ Row v (W2.heap.size) 96 (fdC p m).toArray ∧ Below w.heap.size w v := ⟨_, rfl, ((B0.alloc (.cells (fdC 0 (fun _ => 0)).toArray 96)).rowOther (by omega)), ((Row.new W2 96 (fdC 0 (fun _ => 0)).toArray).row (fdC p m).toArray), (zr (hb.alloc (by have := hb.size; simp; omega) (.cells (fdC 0 (fun _ => 0)).toArray 96)) (by omega) _)⟩
 rw [← hwo]
 clear hwo B0 hb
 obtain ⟨B0, B1, hb⟩ := hzQ
 obtain ⟨N1, hNN⟩ : ∃ n : Nat, n = W2.heap.size := ⟨_, rfl⟩
 rw [← hNN] at lt_B0 lhb B1 ⊢
 clear hNN
 have zN1_0 := lt_B0
 have zN1 := lhb
 clear lt_B0 lhb
 try simp only [Act.put, pA, pB, pC]
 cases hf : flV p m with
 | false =>
  have HV := Lib.hid (drB_1 (G := G) (D := D) hf)
  go_wp2_with (first | (refine wpList_load_rowc rfl 2 (.tmp 6) rfl _ 0 rfl 96 _ (B1) (.int .i64 p) (fdC_at _ _) _ Try.underlying2 rfl ?_) | (refine wpList_load_mid rfl 24 (.tmp 8) rfl _ 1 rfl (bl 64 m) _ (B1.fd) Try.underlying24 rfl (by rw [zl]; exact Try.size24) ?_) | (go_at_call 113; refine (HFL.out _).mono ?_; rintro e W4 ⟨rfl, hW4⟩; replace B0 := B0.zw hW4; replace B1 := B1.zw hW4; replace hb := (hb).trans (hW4.mono (hb).size); rw [hf]))
  go_ret
  exact ⟨by rw [HV.out]; rfl, hb⟩
 | true =>
  cases hg : rsB p m G with
  | false =>
   have HV := Lib.hid (drB_2 (D := D) hg)
   go_wp2_with (first | (refine wpList_load_rowc rfl 2 (.tmp 6) rfl _ 0 rfl 96 _ (B1) (.int .i64 p) (fdC_at _ _) _ Try.underlying2 rfl ?_) | (refine wpList_load_mid rfl 24 (.tmp 8) rfl _ 1 rfl (bl 64 m) _ (B1.fd) Try.underlying24 rfl (by rw [zl]; exact Try.size24) ?_) | (go_at_call 113; refine (HFL.out _).mono ?_; rintro e W4 ⟨rfl, hW4⟩; replace B0 := B0.zw hW4; replace B1 := B1.zw hW4; replace hb := (hb).trans (hW4.mono (hb).size); rw [hf]) | (refine wpList_load_rowv_g rfl 96 (.tmp 3) rfl _ rfl 96 (fdC p m).toArray (B1) _ Try.underlying96 rfl 65 Try.size96 (by simp [fdC_len]) ?_) | (refine wpList_load_mid_g rfl 24 (.tmp 13) rfl _ 65 rfl (bl 64 G) _ (B0.drg) Try.underlying24 rfl (by rw [zl]; exact Try.size24) ?_) | (go_at_call 114; with_reducible refine (HRG.out _).mono ?_; rintro e W5 ⟨rfl, hW5⟩; replace B0 := B0.zw hW5; replace B1 := B1.zw hW5; replace hb := (hb).trans (hW5.mono (hb).size); try rw [hg]))
   go_ret
   exact ⟨by rw [HV.out]; rfl, hb⟩
  | true =>
   cases hd : rsB p m D with
   | false =>
    have HV := Lib.hid (drB_3 (G := G) hd)
    go_wp2_with (first | (refine wpList_load_rowc rfl 2 (.tmp 6) rfl _ 0 rfl 96 _ (B1) (.int .i64 p) (fdC_at _ _) _ Try.underlying2 rfl ?_) | (refine wpList_load_mid rfl 24 (.tmp 8) rfl _ 1 rfl (bl 64 m) _ (B1.fd) Try.underlying24 rfl (by rw [zl]; exact Try.size24) ?_) | (go_at_call 113; refine (HFL.out _).mono ?_; rintro e W4 ⟨rfl, hW4⟩; replace B0 := B0.zw hW4; replace B1 := B1.zw hW4; replace hb := (hb).trans (hW4.mono (hb).size); rw [hf]) | (refine wpList_load_rowv_g rfl 96 (.tmp 3) rfl _ rfl 96 (fdC p m).toArray (B1) _ Try.underlying96 rfl 65 Try.size96 (by simp [fdC_len]) ?_) | (refine wpList_load_mid_g rfl 24 (.tmp 13) rfl _ 65 rfl (bl 64 G) _ (B0.drg) Try.underlying24 rfl (by rw [zl]; exact Try.size24) ?_) | (go_at_call 114; with_reducible refine (HRG.out _).mono ?_; rintro e W5 ⟨rfl, hW5⟩; replace B0 := B0.zw hW5; replace B1 := B1.zw hW5; replace hb := (hb).trans (hW5.mono (hb).size); try rw [hg]) | (refine wpList_load_rowv_g rfl 96 (.tmp 3) rfl _ rfl 96 (fdC p m).toArray (B1) _ Try.underlying96 rfl 65 Try.size96 (by simp [fdC_len]) ?_) | (refine wpList_load_mid_g rfl 24 (.tmp 19) rfl _ 129 rfl (bl 64 D) _ (B0.drd) Try.underlying24 rfl (by rw [zl]; exact Try.size24) ?_) | (go_at_call 114; with_reducible refine (HRD.out _).mono ?_; rintro e W6 ⟨rfl, hW6⟩; replace B0 := B0.zw hW6; replace B1 := B1.zw hW6; replace hb := (hb).trans (hW6.mono (hb).size); try rw [hd]))
    go_ret
    exact ⟨by rw [HV.out]; rfl, hb⟩
   | true =>
    cases hz : eqN 64 D (fun _ => 0) with
    | true =>
     have HV := Lib.hid (drB_4 (p := p) (m := m) (G := G) hz)
     have hgd := Try.noGuard24
     have heq := fun W => zeb (P := Try.prog) W 9998 24 5 64 D (fun _ => 0) Try.underlying24 Try.underlying5 Try.size5
     rw [hz] at heq
     go_wp2_with (first | rw [← z64] | (refine wpList_load_rowc rfl 2 (.tmp 6) rfl _ 0 rfl 96 _ (B1) (.int .i64 p) (fdC_at _ _) _ Try.underlying2 rfl ?_) | (refine wpList_load_mid rfl 24 (.tmp 8) rfl _ 1 rfl (bl 64 m) _ (B1.fd) Try.underlying24 rfl (by rw [zl]; exact Try.size24) ?_) | (go_at_call 113; refine (HFL.out _).mono ?_; rintro e W4 ⟨rfl, hW4⟩; replace B0 := B0.zw hW4; replace B1 := B1.zw hW4; replace hb := (hb).trans (hW4.mono (hb).size); rw [hf]) | (refine wpList_load_rowv_g rfl 96 (.tmp 3) rfl _ rfl 96 (fdC p m).toArray (B1) _ Try.underlying96 rfl 65 Try.size96 (by simp [fdC_len]) ?_) | (refine wpList_load_mid_g rfl 24 (.tmp 13) rfl _ 65 rfl (bl 64 G) _ (B0.drg) Try.underlying24 rfl (by rw [zl]; exact Try.size24) ?_) | (go_at_call 114; with_reducible refine (HRG.out _).mono ?_; rintro e W5 ⟨rfl, hW5⟩; replace B0 := B0.zw hW5; replace B1 := B1.zw hW5; replace hb := (hb).trans (hW5.mono (hb).size); try rw [hg]) | (refine wpList_load_rowv_g rfl 96 (.tmp 3) rfl _ rfl 96 (fdC p m).toArray (B1) _ Try.underlying96 rfl 65 Try.size96 (by simp [fdC_len]) ?_) | (refine wpList_load_mid_g rfl 24 (.tmp 19) rfl _ 129 rfl (bl 64 D) _ (B0.drd) Try.underlying24 rfl (by rw [zl]; exact Try.size24) ?_) | (go_at_call 114; with_reducible refine (HRD.out _).mono ?_; rintro e W6 ⟨rfl, hW6⟩; replace B0 := B0.zw hW6; replace B1 := B1.zw hW6; replace hb := (hb).trans (hW6.mono (hb).size); try rw [hd]) | (refine wpList_load_mid_g rfl 24 (.tmp 24) rfl _ 129 rfl (bl 64 D) _ (B0.drd) Try.underlying24 rfl (by rw [zl]; exact Try.size24) ?_))
     go_ret
     exact ⟨by rw [HV.out]; rfl, hb⟩
    | false =>
     have HV := Lib.hid (drB_5 hf hg hd hz)
     have hgd := Try.noGuard24
     have heq := fun W => zeb (P := Try.prog) W 9998 24 5 64 D (fun _ => 0) Try.underlying24 Try.underlying5 Try.size5
     rw [hz] at heq
     go_wp2_with (first | rw [← z64] | (refine wpList_load_rowc rfl 2 (.tmp 6) rfl _ 0 rfl 96 _ (B1) (.int .i64 p) (fdC_at _ _) _ Try.underlying2 rfl ?_) | (refine wpList_load_mid rfl 24 (.tmp 8) rfl _ 1 rfl (bl 64 m) _ (B1.fd) Try.underlying24 rfl (by rw [zl]; exact Try.size24) ?_) | (go_at_call 113; refine (HFL.out _).mono ?_; rintro e W4 ⟨rfl, hW4⟩; replace B0 := B0.zw hW4; replace B1 := B1.zw hW4; replace hb := (hb).trans (hW4.mono (hb).size); rw [hf]) | (refine wpList_load_rowv_g rfl 96 (.tmp 3) rfl _ rfl 96 (fdC p m).toArray (B1) _ Try.underlying96 rfl 65 Try.size96 (by simp [fdC_len]) ?_) | (refine wpList_load_mid_g rfl 24 (.tmp 13) rfl _ 65 rfl (bl 64 G) _ (B0.drg) Try.underlying24 rfl (by rw [zl]; exact Try.size24) ?_) | (go_at_call 114; with_reducible refine (HRG.out _).mono ?_; rintro e W5 ⟨rfl, hW5⟩; replace B0 := B0.zw hW5; replace B1 := B1.zw hW5; replace hb := (hb).trans (hW5.mono (hb).size); try rw [hg]) | (refine wpList_load_rowv_g rfl 96 (.tmp 3) rfl _ rfl 96 (fdC p m).toArray (B1) _ Try.underlying96 rfl 65 Try.size96 (by simp [fdC_len]) ?_) | (refine wpList_load_mid_g rfl 24 (.tmp 19) rfl _ 129 rfl (bl 64 D) _ (B0.drd) Try.underlying24 rfl (by rw [zl]; exact Try.size24) ?_) | (go_at_call 114; with_reducible refine (HRD.out _).mono ?_; rintro e W6 ⟨rfl, hW6⟩; replace B0 := B0.zw hW6; replace B1 := B1.zw hW6; replace hb := (hb).trans (hW6.mono (hb).size); try rw [hd]) | (refine wpList_load_mid_g rfl 24 (.tmp 24) rfl _ 129 rfl (bl 64 D) _ (B0.drd) Try.underlying24 rfl (by rw [zl]; exact Try.size24) ?_))
     go_ret
     exact ⟨by rw [HV.out]; rfl, hb⟩
set_option maxRecDepth 100000 in
set_option maxHeartbeats 1600000 in
theorem l06Is_any (p : Int) (m G D : Nat → Nat) (hm : byte m) (hG : byte G) (hD : byte D) (w : World) :
 Calls Try.prog 145 #[(.agg (drC p m G D).toArray)] w fun e w' => e = .returned (.bool (drB p m G D)) ∧ Below w.heap.size w w' := by
 go_enter Try.func145, Try.ntmps145
 go_upto_region 1 with (fail)
 obtain ⟨W1, hwo⟩ : ∃ v : World, v = (w.alloc (.cells (drC p m G D).toArray 58)) := ⟨_, rfl⟩
 have B0 : Row W1 (w.heap.size) 58 (drC p m G D).toArray := by subst hwo; have := (Row.new w 58 (drC p m G D).toArray); simpa using this
 have hb : Below w.heap.size w W1 := by subst hwo; exact ((Below.refl _ _).alloc (Nat.le_refl _) _)
 rw [← hwo]
 clear hwo
 go_upto_region 2 with (first | (refine wpList_load_rowc rfl 2 (.tmp 5) rfl _ 0 rfl 58 _ (B0) (.int .i64 p) (drC_at _ _ _ _) _ Try.underlying2 rfl ?_))
 rcases codeL_two p [m, G, D] with hc | hc
 · obtain ⟨hpp, hall⟩ := codeL_zero hc
   have hom := hall m (by simp)
   have hoG := hall G (by simp)
   have hoD := hall D (by simp)
   have hmB := monUp_B (c := 4) (f := m)
   have hRG : rsB p m G = decide (deg G < deg m) := by unfold rsB; rw [hoG]; rfl
   have hRD : rsB p m D = decide (deg D < deg m) := by unfold rsB; rw [hoD]; rfl
   clear hall
   cases hmo : monB m with
   | false =>
    have HV := Lib.hid (drB_1 (G := G) (D := D) (flV_2 (p := p) (by rw [hmB, hmo]; rfl)))
    clear hmB hRG hRD
    have hmo' := hmo
    go_upto_region 3 with (first | (refine wpList_load_mid rfl 24 (.tmp 8) rfl _ 1 rfl (bl 64 m) _ (B0.drm) Try.underlying24 rfl (by rw [zl]; exact Try.size24) ?_) | (refine wpList_load_mid rfl 24 (.tmp 10) rfl _ 65 rfl (bl 64 G) _ (B0.drg) Try.underlying24 rfl (by rw [zl]; exact Try.size24) ?_) | (refine wpList_load_mid rfl 24 (.tmp 12) rfl _ 129 rfl (bl 64 D) _ (B0.drd) Try.underlying24 rfl (by rw [zl]; exact Try.size24) ?_) | (refine wpList_build_polys rfl 40 _ [m, G, D] rfl 24 rfl Try.underlying40 Try.elem24 (by simp) (by simp) rfl ?_; intro wa hwa hps hba; clear hwa; replace B0 := B0.zw hba; replace hb := hb.trans (hba.mono hb.size)) | (go_at_call 122; refine (l01Code_any p [m, G, D] (by simp [hm, hG, hD]) _ _ hps (by simp)).mono ?_; rintro e W8 ⟨rfl, hbb⟩; replace B0 := B0.zw hbb; replace hb := hb.trans (hbb.mono hb.size); rw [hc]) | (refine wpList_load_mid_g rfl 24 (.tmp 18) rfl _ 1 rfl (bl 64 m) _ (B0.drm) Try.underlying24 rfl (by rw [zl]; exact Try.size24) ?_) | (go_at_call 123; refine (l01Monic_any m hm _).mono ?_; rintro e W9 ⟨rfl, hbc⟩; replace B0 := B0.zw hbc; replace hb := hb.trans (hbc.mono hb.size); rw [hmo]))
    go_wp2_with fail
    go_ret
    exact ⟨by rw [HV.out]; rfl, hb⟩
   | true =>
    obtain ⟨n, rfl, hpr, lm⟩ := okA_nat hom
    have hmo' := hmo
    go_upto_region 4 with (first | (refine wpList_load_mid rfl 24 (.tmp 8) rfl _ 1 rfl (bl 64 m) _ (B0.drm) Try.underlying24 rfl (by rw [zl]; exact Try.size24) ?_) | (refine wpList_load_mid rfl 24 (.tmp 10) rfl _ 65 rfl (bl 64 G) _ (B0.drg) Try.underlying24 rfl (by rw [zl]; exact Try.size24) ?_) | (refine wpList_load_mid rfl 24 (.tmp 12) rfl _ 129 rfl (bl 64 D) _ (B0.drd) Try.underlying24 rfl (by rw [zl]; exact Try.size24) ?_) | (refine wpList_build_polys rfl 40 _ [m, G, D] rfl 24 rfl Try.underlying40 Try.elem24 (by simp) (by simp) rfl ?_; intro wa hwa hps hba; clear hwa; replace B0 := B0.zw hba; replace hb := hb.trans (hba.mono hb.size)) | (go_at_call 122; refine (l01Code_any (n : Int) [m, G, D] (by simp [hm, hG, hD]) _ _ hps (by simp)).mono ?_; rintro e W8 ⟨rfl, hbb⟩; replace B0 := B0.zw hbb; replace hb := hb.trans (hbb.mono hb.size); rw [hc]) | (refine wpList_load_mid_g rfl 24 (.tmp 18) rfl _ 1 rfl (bl 64 m) _ (B0.drm) Try.underlying24 rfl (by rw [zl]; exact Try.size24) ?_) | (go_at_call 123; refine (l01Monic_any m hm _).mono ?_; rintro e W9 ⟨rfl, hbc⟩; replace B0 := B0.zw hbc; replace hb := hb.trans (hbc.mono hb.size); rw [hmo]))
    go_upto_region 5 with (first | (refine wpList_load_mid rfl 24 (.tmp 23) rfl _ 1 rfl (bl 64 m) _ (B0.drm) Try.underlying24 rfl (by rw [zl]; exact Try.size24) ?_) | (go_at_call 124; with_reducible refine (l01Deg_any m _).mono ?_; rintro e W21 ⟨rfl, hW21⟩; replace B0 := B0.zw hW21; replace hb := (hb).trans (hW21.mono (hb).size)))
    by_cases hr : 1 ≤ deg m ∧ deg m ≤ 4
    · have hFL := flV_3 hom (by rw [hmB, hmo]; simp; omega)
      have hmm := hmo
      unfold monB at hmm
      simp only [decide_eq_true_eq] at hmm
      obtain ⟨d, hdg⟩ : ∃ d : Nat, deg m = (d : Int) := ⟨(deg m).toNat, by omega⟩
      have hmon : mon m d := ⟨hdg, by have := hmm.2; rwa [hdg, Int.toNat_natCast] at this⟩
      have HI := Lib.hid (fun W => l01Irreducible_any n m d W hpr lm hmon (by omega))
      clear hmm hmon hmB hdg
      cases hi : irB n m with
      | false =>
       have HV := Lib.hid (drB_1 (G := G) (D := D) (by rw [hFL, hi]))
       clear hFL hRG hRD
       go_wp2_with (first | (go_at_call 98; refine (l01In_any _ _ _ _).mono ?_; rintro e wS ⟨rfl, rfl⟩; rw [show decide ((1 : Int) ≤ deg m ∧ deg m ≤ 4) = true by simp; omega]) | (refine wpList_load_mid_g rfl 24 (.tmp 30) rfl _ 1 rfl (bl 64 m) _ (B0.drm) Try.underlying24 rfl (by rw [zl]; exact Try.size24) ?_) | (go_at_call 125; refine (HI.out _).mono ?_; rintro e W22 ⟨rfl, hW22⟩; replace B0 := B0.zw hW22; replace hb := (hb).trans (hW22.mono (hb).size); rw [hi]))
       go_ret
       exact ⟨by rw [HV.out]; rfl, hb⟩
      | true =>
       by_cases hg : deg G < deg m
       · by_cases hd : deg D < deg m
         · cases hz : eqN 64 D (fun _ => 0) with
           | true =>
            have HV := Lib.hid (drB_4 (p := (n : Int)) (m := m) (G := G) hz)
            have hgd := Try.noGuard24
            have heq := fun W => zeb (P := Try.prog) W 9998 24 5 64 D (fun _ => 0) Try.underlying24 Try.underlying5 Try.size5
            rw [hz] at heq
            clear hFL hRG hRD
            go_wp2_with (first | rw [← z64] | (go_at_call 98; refine (l01In_any _ _ _ _).mono ?_; rintro e wS ⟨rfl, rfl⟩; rw [show decide ((1 : Int) ≤ deg m ∧ deg m ≤ 4) = true by simp; omega]) | (refine wpList_load_mid_g rfl 24 (.tmp 30) rfl _ 1 rfl (bl 64 m) _ (B0.drm) Try.underlying24 rfl (by rw [zl]; exact Try.size24) ?_) | (go_at_call 125; refine (HI.out _).mono ?_; rintro e W22 ⟨rfl, hW22⟩; replace B0 := B0.zw hW22; replace hb := (hb).trans (hW22.mono (hb).size); rw [hi]) | (refine wpList_load_mid_g rfl 24 (.tmp 35) rfl _ 65 rfl (bl 64 G) _ (B0.drg) Try.underlying24 rfl (by rw [zl]; exact Try.size24) ?_) | (go_at_call 124; with_reducible refine (l01Deg_any G _).mono ?_; rintro e W23 ⟨rfl, hW23⟩; replace B0 := B0.zw hW23; replace hb := (hb).trans (hW23.mono (hb).size)) | (refine wpList_load_mid_g rfl 24 (.tmp 42) rfl _ 129 rfl (bl 64 D) _ (B0.drd) Try.underlying24 rfl (by rw [zl]; exact Try.size24) ?_) | (go_at_call 124; with_reducible refine (l01Deg_any D _).mono ?_; rintro e W24 ⟨rfl, hW24⟩; replace B0 := B0.zw hW24; replace hb := (hb).trans (hW24.mono (hb).size)) | (refine wpList_load_mid_g rfl 24 (.tmp 49) rfl _ 129 rfl (bl 64 D) _ (B0.drd) Try.underlying24 rfl (by rw [zl]; exact Try.size24) ?_))
            go_ret
            exact ⟨by rw [HV.out]; rfl, hb⟩
           | false =>
            have HV := Lib.hid (drB_5 (by rw [hFL, hi]) (by rw [hRG]; exact decide_eq_true hg) (by rw [hRD]; exact decide_eq_true hd) hz)
            have hgd := Try.noGuard24
            have heq := fun W => zeb (P := Try.prog) W 9998 24 5 64 D (fun _ => 0) Try.underlying24 Try.underlying5 Try.size5
            rw [hz] at heq
            clear hFL hRG hRD
            go_wp2_with (first | rw [← z64] | (go_at_call 98; refine (l01In_any _ _ _ _).mono ?_; rintro e wS ⟨rfl, rfl⟩; rw [show decide ((1 : Int) ≤ deg m ∧ deg m ≤ 4) = true by simp; omega]) | (refine wpList_load_mid_g rfl 24 (.tmp 30) rfl _ 1 rfl (bl 64 m) _ (B0.drm) Try.underlying24 rfl (by rw [zl]; exact Try.size24) ?_) | (go_at_call 125; refine (HI.out _).mono ?_; rintro e W22 ⟨rfl, hW22⟩; replace B0 := B0.zw hW22; replace hb := (hb).trans (hW22.mono (hb).size); rw [hi]) | (refine wpList_load_mid_g rfl 24 (.tmp 35) rfl _ 65 rfl (bl 64 G) _ (B0.drg) Try.underlying24 rfl (by rw [zl]; exact Try.size24) ?_) | (go_at_call 124; with_reducible refine (l01Deg_any G _).mono ?_; rintro e W23 ⟨rfl, hW23⟩; replace B0 := B0.zw hW23; replace hb := (hb).trans (hW23.mono (hb).size)) | (refine wpList_load_mid_g rfl 24 (.tmp 42) rfl _ 129 rfl (bl 64 D) _ (B0.drd) Try.underlying24 rfl (by rw [zl]; exact Try.size24) ?_) | (go_at_call 124; with_reducible refine (l01Deg_any D _).mono ?_; rintro e W24 ⟨rfl, hW24⟩; replace B0 := B0.zw hW24; replace hb := (hb).trans (hW24.mono (hb).size)) | (refine wpList_load_mid_g rfl 24 (.tmp 49) rfl _ 129 rfl (bl 64 D) _ (B0.drd) Try.underlying24 rfl (by rw [zl]; exact Try.size24) ?_))
            go_ret
            exact ⟨by rw [HV.out]; rfl, hb⟩
         · skip
           have HV := Lib.hid (drB_3 (p := (n : Int)) (G := G) (by rw [hRD]; exact decide_eq_false hd))
           clear hFL hRG hRD
           go_wp2_with (first | (go_at_call 98; refine (l01In_any _ _ _ _).mono ?_; rintro e wS ⟨rfl, rfl⟩; rw [show decide ((1 : Int) ≤ deg m ∧ deg m ≤ 4) = true by simp; omega]) | (refine wpList_load_mid_g rfl 24 (.tmp 30) rfl _ 1 rfl (bl 64 m) _ (B0.drm) Try.underlying24 rfl (by rw [zl]; exact Try.size24) ?_) | (go_at_call 125; refine (HI.out _).mono ?_; rintro e W22 ⟨rfl, hW22⟩; replace B0 := B0.zw hW22; replace hb := (hb).trans (hW22.mono (hb).size); rw [hi]) | (refine wpList_load_mid_g rfl 24 (.tmp 35) rfl _ 65 rfl (bl 64 G) _ (B0.drg) Try.underlying24 rfl (by rw [zl]; exact Try.size24) ?_) | (go_at_call 124; with_reducible refine (l01Deg_any G _).mono ?_; rintro e W23 ⟨rfl, hW23⟩; replace B0 := B0.zw hW23; replace hb := (hb).trans (hW23.mono (hb).size)) | (refine wpList_load_mid_g rfl 24 (.tmp 42) rfl _ 129 rfl (bl 64 D) _ (B0.drd) Try.underlying24 rfl (by rw [zl]; exact Try.size24) ?_) | (go_at_call 124; with_reducible refine (l01Deg_any D _).mono ?_; rintro e W24 ⟨rfl, hW24⟩; replace B0 := B0.zw hW24; replace hb := (hb).trans (hW24.mono (hb).size)))
           go_ret
           exact ⟨by rw [HV.out]; rfl, hb⟩
       · skip
         have HV := Lib.hid (drB_2 (p := (n : Int)) (D := D) (by rw [hRG]; exact decide_eq_false hg))
         clear hFL hRG hRD
         go_wp2_with (first | (go_at_call 98; refine (l01In_any _ _ _ _).mono ?_; rintro e wS ⟨rfl, rfl⟩; rw [show decide ((1 : Int) ≤ deg m ∧ deg m ≤ 4) = true by simp; omega]) | (refine wpList_load_mid_g rfl 24 (.tmp 30) rfl _ 1 rfl (bl 64 m) _ (B0.drm) Try.underlying24 rfl (by rw [zl]; exact Try.size24) ?_) | (go_at_call 125; refine (HI.out _).mono ?_; rintro e W22 ⟨rfl, hW22⟩; replace B0 := B0.zw hW22; replace hb := (hb).trans (hW22.mono (hb).size); rw [hi]) | (refine wpList_load_mid_g rfl 24 (.tmp 35) rfl _ 65 rfl (bl 64 G) _ (B0.drg) Try.underlying24 rfl (by rw [zl]; exact Try.size24) ?_) | (go_at_call 124; with_reducible refine (l01Deg_any G _).mono ?_; rintro e W23 ⟨rfl, hW23⟩; replace B0 := B0.zw hW23; replace hb := (hb).trans (hW23.mono (hb).size)))
         go_ret
         exact ⟨by rw [HV.out]; rfl, hb⟩
    · have HV := Lib.hid (drB_1 (G := G) (D := D) (flV_2 (p := (n : Int)) (by rw [hmB, hmo]; simp; omega)))
      clear hmB hRG hRD
      go_wp2_with (first | (go_at_call 98; refine (l01In_any _ _ _ _).mono ?_; rintro e wS ⟨rfl, rfl⟩; rw [show decide ((1 : Int) ≤ deg m ∧ deg m ≤ 4) = false by simp; omega]))
      go_ret
      exact ⟨by rw [HV.out]; rfl, hb⟩
 · have HV := Lib.hid (drB_code hc)
   go_upto_region 3 with (first | (refine wpList_load_mid rfl 24 (.tmp 8) rfl _ 1 rfl (bl 64 m) _ (B0.drm) Try.underlying24 rfl (by rw [zl]; exact Try.size24) ?_) | (refine wpList_load_mid rfl 24 (.tmp 10) rfl _ 65 rfl (bl 64 G) _ (B0.drg) Try.underlying24 rfl (by rw [zl]; exact Try.size24) ?_) | (refine wpList_load_mid rfl 24 (.tmp 12) rfl _ 129 rfl (bl 64 D) _ (B0.drd) Try.underlying24 rfl (by rw [zl]; exact Try.size24) ?_) | (refine wpList_build_polys rfl 40 _ [m, G, D] rfl 24 rfl Try.underlying40 Try.elem24 (by simp) (by simp) rfl ?_; intro wa hwa hps hba; clear hwa; replace B0 := B0.zw hba; replace hb := hb.trans (hba.mono hb.size)) | (go_at_call 122; refine (l01Code_any p [m, G, D] (by simp [hm, hG, hD]) _ _ hps (by simp)).mono ?_; rintro e W8 ⟨rfl, hbb⟩; replace B0 := B0.zw hbb; replace hb := hb.trans (hbb.mono hb.size); rw [hc]))
   go_wp2_with fail
   go_ret
   exact ⟨by rw [HV.out]; rfl, hb⟩
end Go.Proofs.Yteloknnooebabaa
end
section
namespace Go.Proofs.Yteloknnooebabaa
open Go Go.RowKit
set_option linter.unusedVariables false
set_option linter.unusedSimpArgs false
attribute [local irreducible] deg irB monUp monB okA drB frN mmP
/-- the check of a module, with polynomials -/
noncomputable def drCo (p : Int) (m G D : Nat → Nat) (fs : List (Nat → Nat)) : Int := if drB p m G D = true then codeL p fs else 1
theorem drCo_t {p : Int} {m G D : Nat → Nat} {fs : List (Nat → Nat)} (h : drB p m G D = true) : drCo p m G D fs = codeL p fs := if_pos h
theorem drCo_f {p : Int} {m G D : Nat → Nat} {fs : List (Nat → Nat)} (h : drB p m G D = false) : drCo p m G D fs = 1 := if_neg (by rw [h]; simp)
theorem drCo_two (p : Int) (m G D : Nat → Nat) (fs : List (Nat → Nat)) : drCo p m G D fs = 0 ∨ drCo p m G D fs = 1 := by
 cases h : drB p m G D with
 | true => rw [drCo_t h]; exact codeL_two p fs
 | false => rw [drCo_f h]; exact .inr rfl
theorem drCo_zero {p : Int} {m G D : Nat → Nat} {fs : List (Nat → Nat)} (h : drCo p m G D fs = 0) : drB p m G D = true ∧ codeL p fs = 0 := by
 cases h2 : drB p m G D with
 | true => rw [drCo_t h2] at h; exact ⟨rfl, h⟩
 | false => rw [drCo_f h2] at h; cases h
attribute [irreducible] drCo
set_option maxRecDepth 100000 in
set_option maxHeartbeats 1600000 in
theorem checkDrinfeld_any (p : Int) (m G D : Nat → Nat) (hm : byte m) (hG : byte G) (hD : byte D) (fs : List (Nat → Nat)) (hf : ∀ f ∈ fs, byte f) (bS : Nat) (w : World) (hS : PolS w bS fs) (hl : fs.length ≤ 8) :
 Calls Try.prog 149 #[(.agg (drC p m G D).toArray), (.slice (some ⟨bS, 0, none⟩) fs.length fs.length)] w fun e w' => e = .returned (.int .i64 (drCo p m G D fs)) ∧ Below w.heap.size w w' := by
 have HIS := Lib.hid (fun W => impl_IsDrinfeld_any p m G D hm hG hD W)
 have HCP := Lib.hid (fun W (h : PolS W bS fs) => checkPolys_any p fs hf bS W h hl)
 clear hf hm hG hD
 go_enter Try.func149, Try.ntmps149
 go_upto_region 1 with (fail)
 obtain ⟨W1, hwo⟩ : ∃ v : World, v = (w.alloc (.cells (drC p m G D).toArray 58)) := ⟨_, rfl⟩
 have B0 : Row W1 (w.heap.size) 58 (drC p m G D).toArray := by subst hwo; have := (Row.new w 58 (drC p m G D).toArray); simpa using this
 have hb : Below w.heap.size w W1 := by subst hwo; exact ((Below.refl _ _).alloc (Nat.le_refl _) _)
 rw [← hwo]
 clear hwo
 cases hr : drB p m G D with
 | false =>
  have HV := Lib.hid (drCo_f (fs := fs) hr)
  go_upto_region 2 with (first | (refine zlr rfl 58 (.tmp 2) rfl _ rfl 58 (drC p m G D).toArray (B0) _ Try.underlying58 rfl 193 Try.size58 (by simp [drC_len]) ?_) | (go_at_call 60; refine (HIS.out _).mono ?_; rintro e W2 ⟨rfl, hW2⟩; replace B0 := B0.zw hW2; replace hb := (hb).trans (hW2.mono (hb).size); rw [hr]))
  go_wp2_with fail
  go_ret
  exact ⟨by rw [HV.out]; rfl, hb⟩
 | true =>
  have HV := Lib.hid (drCo_t (fs := fs) hr)
  go_upto_region 3 with (first | (refine zlr rfl 58 (.tmp 2) rfl _ rfl 58 (drC p m G D).toArray (B0) _ Try.underlying58 rfl 193 Try.size58 (by simp [drC_len]) ?_) | (go_at_call 60; refine (HIS.out _).mono ?_; rintro e W2 ⟨rfl, hW2⟩; replace B0 := B0.zw hW2; replace hb := (hb).trans (hW2.mono (hb).size); rw [hr]))
  go_wp2_with (first | (refine wpList_load_rowc rfl 2 (.tmp 8) rfl _ 0 rfl 58 _ (B0) (.int .i64 p) (drC_at _ _ _ _) _ Try.underlying2 rfl ?_) | (go_at_call 131; refine (HCP.out _ (hS.zw hb)).mono ?_; rintro e W3 ⟨rfl, hW3⟩; replace B0 := B0.zw hW3; replace hb := (hb).trans (hW3.mono (hb).size)))
  go_ret
  exact ⟨by rw [HV.out]; rfl, hb⟩
set_option maxRecDepth 100000 in
set_option maxHeartbeats 1600000 in
theorem l06Code_any (p : Int) (m G D : Nat → Nat) (hm : byte m) (hG : byte G) (hD : byte D) (fs : List (Nat → Nat)) (hf : ∀ f ∈ fs, byte f) (bS : Nat) (w : World) (hS : PolS w bS fs) (hl : fs.length ≤ 8) :
 Calls Try.prog 147 #[(.agg (drC p m G D).toArray), (.slice (some ⟨bS, 0, none⟩) fs.length fs.length)] w fun e w' => e = .returned (.int .i64 (drCo p m G D fs)) ∧ Below w.heap.size w w' := by
 have HIS := Lib.hid (fun W => l06Is_any p m G D hm hG hD W)
 have HCP := Lib.hid (fun W (h : PolS W bS fs) => l01Code_any p fs hf bS W h hl)
 clear hf hm hG hD
 go_enter Try.func147, Try.ntmps147
 go_upto_region 1 with (fail)
 obtain ⟨W1, hwo⟩ : ∃ v : World, v = (w.alloc (.cells (drC p m G D).toArray 58)) := ⟨_, rfl⟩
 have B0 : Row W1 (w.heap.size) 58 (drC p m G D).toArray := by subst hwo; have := (Row.new w 58 (drC p m G D).toArray); simpa using this
 have hb : Below w.heap.size w W1 := by subst hwo; exact ((Below.refl _ _).alloc (Nat.le_refl _) _)
 rw [← hwo]
 clear hwo
 cases hr : drB p m G D with
 | false =>
  have HV := Lib.hid (drCo_f (fs := fs) hr)
  go_upto_region 2 with (first | (refine zlr rfl 58 (.tmp 2) rfl _ rfl 58 (drC p m G D).toArray (B0) _ Try.underlying58 rfl 193 Try.size58 (by simp [drC_len]) ?_) | (go_at_call 145; refine (HIS.out _).mono ?_; rintro e W2 ⟨rfl, hW2⟩; replace B0 := B0.zw hW2; replace hb := (hb).trans (hW2.mono (hb).size); rw [hr]))
  go_wp2_with fail
  go_ret
  exact ⟨by rw [HV.out]; rfl, hb⟩
 | true =>
  have HV := Lib.hid (drCo_t (fs := fs) hr)
  rcases codeL_two p fs with hc | hc
  · rw [hc] at HV
    go_upto_region 3 with (first | (refine zlr rfl 58 (.tmp 2) rfl _ rfl 58 (drC p m G D).toArray (B0) _ Try.underlying58 rfl 193 Try.size58 (by simp [drC_len]) ?_) | (go_at_call 145; refine (HIS.out _).mono ?_; rintro e W2 ⟨rfl, hW2⟩; replace B0 := B0.zw hW2; replace hb := (hb).trans (hW2.mono (hb).size); rw [hr]) | (refine wpList_load_rowc_g rfl 2 (.tmp 9) rfl _ 0 rfl 58 _ (B0) (.int .i64 p) (drC_at _ _ _ _) _ Try.underlying2 rfl ?_) | (go_at_call 122; refine (HCP.out _ (hS.zw hb)).mono ?_; rintro e W3 ⟨rfl, hW3⟩; replace B0 := B0.zw hW3; replace hb := (hb).trans (hW3.mono (hb).size); rw [hc]))
    go_wp2_with fail
    go_ret
    exact ⟨by rw [HV.out]; rfl, hb⟩
  · rw [hc] at HV
    go_upto_region 2 with (first | (refine zlr rfl 58 (.tmp 2) rfl _ rfl 58 (drC p m G D).toArray (B0) _ Try.underlying58 rfl 193 Try.size58 (by simp [drC_len]) ?_) | (go_at_call 145; refine (HIS.out _).mono ?_; rintro e W2 ⟨rfl, hW2⟩; replace B0 := B0.zw hW2; replace hb := (hb).trans (hW2.mono (hb).size); rw [hr]) | (refine wpList_load_rowc_g rfl 2 (.tmp 9) rfl _ 0 rfl 58 _ (B0) (.int .i64 p) (drC_at _ _ _ _) _ Try.underlying2 rfl ?_) | (go_at_call 122; refine (HCP.out _ (hS.zw hb)).mono ?_; rintro e W3 ⟨rfl, hW3⟩; replace B0 := B0.zw hW3; replace hb := (hb).trans (hW3.mono (hb).size); rw [hc]))
    go_wp2_with fail
    go_ret
    exact ⟨by rw [HV.out]; rfl, hb⟩
set_option maxRecDepth 100000 in
set_option maxHeartbeats 1600000 in
theorem l06Up_any (p : Nat) (m G D x : Nat → Nat) (n : Nat) (w : World) (hpr : p = 2 ∨ p = 3 ∨ p = 5 ∨ p = 7) (lm : ∀ k, k < 64 → m k < p) (d : Nat) (hd : deg m = (d : Int)) (hd1 : 1 ≤ d) (hd9 : d ≤ 9) (hx : rsd p m x) (hn : n ≤ 1000) :
 Calls Try.prog 218 #[(.agg (drC (p : Int) m G D).toArray), .agg (zb 64 x), .int .i64 (n : Int)] w fun e w' => e = .returned (.agg (zb 64 (frN p m x n))) ∧ Below w.heap.size w w' := by
 have p0 : 0 < p := by omega
 have h0 : 0 ≤ deg m := by omega
 have h9 : deg m ≤ 9 := by omega
 have HZ := Lib.hid (frN_z p m x)
 have HS := Lib.hid (frN_s p m x)
 have HR := Lib.hid (fun j => (frN_ok hpr lm h0 h9 hx j).1)
 have HPM := Lib.hid (show ∀ y, rsd p m y → ∀ W, Calls Try.prog 100 #[.int .i64 (p : Int), .agg (zb 64 y), .int .i64 (p : Int), .agg (zb 64 m)] W fun e w' => e = .returned (.agg (zb 64 (frI p m y))) ∧ Below W.heap.size W w' from fun y hy W => by
  have h := l01PowMod_any p y p m W hpr hy.1 lm h0 (by omega)
  rw [zbc (frI_pm hpr lm h0 h9 hy)] at h; exact h)
 clear hd h0 h9 hx
 go_enter Try.func218, Try.ntmps218
 go_upto_region 1 with (fail)
 rw [← z64]
 obtain ⟨W1, hwo⟩ : ∃ v : World, v = (((w.alloc (.cells (drC (p : Int) m G D).toArray 58)).alloc (.cells (zb 64 (x)) 24)).alloc (.cells (zb 64 (fun _ => 0)) 24)) := ⟨_, rfl⟩
 have B0 : Row W1 (w.heap.size) 58 (drC (p : Int) m G D).toArray := by subst hwo; have := (((Row.new w 58 (drC (p : Int) m G D).toArray).alloc (.cells (zb 64 (x)) 24)).alloc (.cells (zb 64 (fun _ => 0)) 24)); simpa using this
 have B1 : Blk W1 (w.heap.size + 1) 64 24 (x) := by subst hwo; have := ((Blk.new (w.alloc (.cells (drC (p : Int) m G D).toArray 58)) 64 24 (x)).alloc (.cells (zb 64 (fun _ => 0)) 24)); simpa using this
 have B2 : Blk W1 (w.heap.size + 1 + 1) 64 24 (fun _ => 0) := by subst hwo; have := (Blk.new ((w.alloc (.cells (drC (p : Int) m G D).toArray 58)).alloc (.cells (zb 64 (x)) 24)) 64 24 (fun _ => 0)); simpa using this
 have hb : Below w.heap.size w W1 := by subst hwo; exact ((((Below.refl _ _).alloc (Nat.le_refl _) _).alloc (by simp) _).alloc (by simp; omega) _)
 rw [← hwo]
 clear hwo
 go_wp2_with fail
 go_loopw [2] (fun c wr => ∃ i j : Nat, c = .int .i64 (i : Int) ∧ i ≤ 1000 ∧ Hid (i + j = n) ∧ Below w.heap.size w wr ∧ Row wr (w.heap.size) 58 (drC (p : Int) m G D).toArray ∧ Blk wr (w.heap.size + 1) 64 24 (frN p m x j) ∧ Blk wr (w.heap.size + 1 + 1) 64 24 (fun _ => 0)) (fun c _ => (intOf c).toNat)
 case atStart => exact ⟨n, 0, rfl, hn, Lib.hid rfl, hb, B0, by rw [HZ.out]; exact B1, B2⟩
 case round =>
  clear hb B0 B1 B2
  obtain ⟨i, j, rfl, hi9, hij, hb, B0, B1, B2⟩ := hrel
  by_cases hj : 0 < i
  · have hjI : (i : Int) > 0 := by omega
    have hjI2 : (0 : Int) < (i : Int) := by omega
    have HR1 := Lib.hid (HR.out j)
    have HS1 := Lib.hid (HPM.out _ HR1.out)
    go_upto_region 3 with (fail)
    have lt_B0 := B0.lt
    have lt_B1 := B1.lt
    have lt_B2 := B2.lt
    go_upto_region 2 with (first | rw [← z64] | (refine wpList_load_rowc rfl 2 (.tmp 11) rfl _ 0 rfl 58 _ (B0) (.int .i64 (p : Int)) (drC_at _ _ _ _) _ Try.underlying2 rfl ?_) | (refine zla (.tmp 4) B1 Try.underlying24 Try.size24 ?_) | (refine wpList_load_rowc rfl 2 (.tmp 14) rfl _ 0 rfl 58 _ (B0) (.int .i64 (p : Int)) (drC_at _ _ _ _) _ Try.underlying2 rfl ?_) | (refine wpList_load_mid rfl 24 (.tmp 16) rfl _ 1 rfl (bl 64 m) _ (B0.drm) Try.underlying24 rfl (by rw [zl]; exact Try.size24) ?_) | (go_at_call 100; refine (HS1.out _).mono ?_; rintro e W2 ⟨rfl, hW2⟩; replace B0 := B0.zw hW2; replace B1 := B1.zw hW2; replace B2 := B2.zw hW2; replace hb := (hb).trans (hW2.mono (hb).size)) | (refine zsr (.tmp 4) (.tmp 18) (frI p m (frN p m x j)) B1 Try.size24 ?_; try simp only [Act.put]))
    obtain ⟨W3, hwo, hzQ⟩ : ∃ v : World, v = (W2.setRow (w.heap.size + 1) (zb 64 (frI p m (frN p m x j)))) ∧ Row v (w.heap.size) 58 (drC (p : Int) m G D).toArray ∧ Blk v (w.heap.size + 1) 64 24 (frI p m (frN p m x j)) ∧ Blk v (w.heap.size + 1 + 1) 64 24 (fun _ => 0) ∧ Below w.heap.size w v := ⟨_, rfl, (B0.rowOther (by omega)), (B1.row (frI p m (frN p m x j))), (B2.rowOther (by omega)), (zr hb (by omega) _)⟩
    rw [← hwo]
    clear hwo B0 B1 B2 hb
    obtain ⟨B0, B1, B2, hb⟩ := hzQ
    try simp only [Act.put, pA, pB, pC]
    obtain ⟨i, rfl⟩ : ∃ q, i = q + 1 := ⟨i - 1, by omega⟩
    go_wp2_with fail
    go_roundw
    case rel => exact ⟨i, j + 1, by go_num, by omega, Lib.hid (by have := hij.out; omega), hb, B0, by rw [HS.out]; exact B1, B2⟩
    case measure => simp [intOf] <;> omega
  · obtain rfl : i = 0 := by omega
    have hjI : ¬ (((0 : Nat) : Int) > 0) := by omega
    obtain rfl : j = n := by have := hij.out; omega
    go_upto_region 4 with (fail)
    have lt_B0 := B0.lt
    have lt_B1 := B1.lt
    have lt_B2 := B2.lt
    go_wp2_with (first | rw [← z64] | (refine zla (.tmp 4) B1 Try.underlying24 Try.size24 ?_) | (refine zsr (.tmp 6) (.tmp 19) (frN p m x j) B2 Try.size24 ?_; try simp only [Act.put]))
    obtain ⟨W2, hwo, hzQ⟩ : ∃ v : World, v = (wr.setRow (w.heap.size + 1 + 1) (zb 64 (frN p m x j))) ∧ Row v (w.heap.size) 58 (drC (p : Int) m G D).toArray ∧ Blk v (w.heap.size + 1) 64 24 (frN p m x j) ∧ Blk v (w.heap.size + 1 + 1) 64 24 (frN p m x j) ∧ Below w.heap.size w v := ⟨_, rfl, (B0.rowOther (by omega)), (B1.rowOther (by omega)), (B2.row (frN p m x j)), (zr hb (by omega) _)⟩
    rw [← hwo]
    clear hwo B0 B1 B2 hb
    obtain ⟨B0, B1, B2, hb⟩ := hzQ
    try simp only [Act.put, pA, pB, pC]
    refine bodyPost_ret (zrb rfl _ _ _ 64 24 5 _ rfl B2 Try.underlying24 Try.size24) rfl ⟨rfl, hb⟩
set_option maxRecDepth 100000 in
set_option maxHeartbeats 1600000 in
theorem l06Times_any (p : Nat) (m G D f g : Nat → Nat) (w : World) (hpr : p = 2 ∨ p = 3 ∨ p = 5 ∨ p = 7) (lm : ∀ k, k < 64 → m k < p) (h0 : 0 ≤ deg m) (lf : ∀ k, k < 64 → f k < p) (lg : ∀ k, k < 64 → g k < p) :
 Calls Try.prog 154 #[(.agg (drC (p : Int) m G D).toArray), .agg (zb 64 f), .agg (zb 64 g)] w fun e w' => e = .returned (.agg (zb 64 (mmP p f g m))) ∧ Below w.heap.size w w' := by
 have HMM := Lib.hid (fun W => l01MulMod_any p f g m W hpr lf lg lm h0)
 go_enter Try.func154, Try.ntmps154
 go_upto_region 1 with (fail)
 rw [← z64]
 obtain ⟨W1, hwo⟩ : ∃ v : World, v = ((((w.alloc (.cells (drC (p : Int) m G D).toArray 58)).alloc (.cells (zb 64 (f)) 24)).alloc (.cells (zb 64 (g)) 24)).alloc (.cells (zb 64 (fun _ => 0)) 24)) := ⟨_, rfl⟩
 have B0 : Row W1 (w.heap.size) 58 (drC (p : Int) m G D).toArray := by subst hwo; have := ((((Row.new w 58 (drC (p : Int) m G D).toArray).alloc (.cells (zb 64 (f)) 24)).alloc (.cells (zb 64 (g)) 24)).alloc (.cells (zb 64 (fun _ => 0)) 24)); simpa using this
 have B1 : Blk W1 (w.heap.size + 1) 64 24 (f) := by subst hwo; have := (((Blk.new (w.alloc (.cells (drC (p : Int) m G D).toArray 58)) 64 24 (f)).alloc (.cells (zb 64 (g)) 24)).alloc (.cells (zb 64 (fun _ => 0)) 24)); simpa using this
 have B2 : Blk W1 (w.heap.size + 1 + 1) 64 24 (g) := by subst hwo; have := ((Blk.new ((w.alloc (.cells (drC (p : Int) m G D).toArray 58)).alloc (.cells (zb 64 (f)) 24)) 64 24 (g)).alloc (.cells (zb 64 (fun _ => 0)) 24)); simpa using this
 have B3 : Blk W1 (w.heap.size + 1 + 1 + 1) 64 24 (fun _ => 0) := by subst hwo; have := (Blk.new (((w.alloc (.cells (drC (p : Int) m G D).toArray 58)).alloc (.cells (zb 64 (f)) 24)).alloc (.cells (zb 64 (g)) 24)) 64 24 (fun _ => 0)); simpa using this
 have hb : Below w.heap.size w W1 := by subst hwo; exact (((((Below.refl _ _).alloc (Nat.le_refl _) _).alloc (by simp) _).alloc (by simp; omega) _).alloc (by simp; omega) _)
 rw [← hwo]
 clear hwo
 have lt_B0 := B0.lt
 have lt_B1 := B1.lt
 have lt_B2 := B2.lt
 have lt_B3 := B3.lt
 go_wp2_with (first | rw [← z64] | (refine wpList_load_rowc rfl 2 (.tmp 7) rfl _ 0 rfl 58 _ (B0) (.int .i64 (p : Int)) (drC_at _ _ _ _) _ Try.underlying2 rfl ?_) | (refine zla (.tmp 4) B1 Try.underlying24 Try.size24 ?_) | (refine zla (.tmp 5) B2 Try.underlying24 Try.size24 ?_) | (refine wpList_load_mid rfl 24 (.tmp 11) rfl _ 1 rfl (bl 64 m) _ (B0.drm) Try.underlying24 rfl (by rw [zl]; exact Try.size24) ?_) | (go_at_call 188; refine (HMM.out _).mono ?_; rintro e W2 ⟨rfl, hW2⟩; replace B0 := B0.zw hW2; replace B1 := B1.zw hW2; replace B2 := B2.zw hW2; replace B3 := B3.zw hW2; replace hb := (hb).trans (hW2.mono (hb).size)) | (refine zsr (.tmp 6) (.tmp 13) (mmP p f g m) B3 Try.size24 ?_; try simp only [Act.put]))
 obtain ⟨W3, hwo, hzQ⟩ : ∃ v : World, v = (W2.setRow (w.heap.size + 1 + 1 + 1) (zb 64 (mmP p f g m))) ∧ Row v (w.heap.size) 58 (drC (p : Int) m G D).toArray ∧ Blk v (w.heap.size + 1) 64 24 (f) ∧ Blk v (w.heap.size + 1 + 1) 64 24 (g) ∧ Blk v (w.heap.size + 1 + 1 + 1) 64 24 (mmP p f g m) ∧ Below w.heap.size w v := ⟨_, rfl, (B0.rowOther (by omega)), (B1.rowOther (by omega)), (B2.rowOther (by omega)), (B3.row (mmP p f g m)), (zr hb (by omega) _)⟩
 rw [← hwo]
 clear hwo B0 B1 B2 B3 hb
 obtain ⟨B0, B1, B2, B3, hb⟩ := hzQ
 try simp only [Act.put, pA, pB, pC]
 refine bodyPost_ret (zrb rfl _ _ _ 64 24 5 _ rfl B3 Try.underlying24 Try.size24) rfl ⟨rfl, hb⟩
end Go.Proofs.Yteloknnooebabaa
end
section
namespace Go.Proofs.Yteloknnooebabaa
open Rg
set_option linter.unusedVariables false
theorem rs_cong {p : Nat} {m : Nat → Int} {f g : Nat → Nat} (h : ∀ k, k < 64 → f k = g k) : (rs f : Res p m) = rs g := cl_congr (by
 funext k
 unfold lz cut
 by_cases hk : k < 64
 · rw [if_pos hk, if_pos hk, h k hk]
 · rw [if_neg hk, if_neg hk])
end Go.Proofs.Yteloknnooebabaa
end
section
namespace Go.Proofs.Yteloknnooebabaa
open Rg
set_option linter.unusedVariables false
section
variable {R : Type} [Rg R]
/-- sums -/
def su (f : Nat → R) : Nat → R
 | 0 => o
 | n + 1 => su f n + f n
theorem su_congr {f g : Nat → R} : ∀ n, (∀ i, i < n → f i = g i) → su f n = su g n
 | 0, _ => rfl
 | n + 1, h => by
  show su f n + f n = su g n + g n
  rw [su_congr n (fun i hi => h i (by omega)), h n (by omega)]
theorem su_tail {f : Nat → R} {a : Nat} (h : ∀ i, a ≤ i → f i = o) : ∀ k, su f (a + k) = su f a
 | 0 => rfl
 | k + 1 => by
  show su f (a + k) + f (a + k) = su f a
  rw [h _ (by omega), addo, su_tail h k]
theorem su_add {f g : Nat → R} : ∀ n, su (fun i => f i + g i) n = su f n + su g n
 | 0 => (addo o).symm
 | n + 1 => by
  show su (fun i => f i + g i) n + (f n + g n) = su f n + f n + (su g n + g n)
  rw [su_add n, aassoc, aassoc, alcomm (su g n)]
end
section
variable {p : Nat} {m : Nat → Nat} {d : Nat} (hp : p = 2 ∨ p = 3 ∨ p = 5 ∨ p = 7) (lm : ∀ k, k < 64 → m k < p) (hmon : mon m d) (hi : irr p (cut m) d) (h9 : d ≤ 9)
include hp lm hmon hi h9
theorem fr_d {x : Nat → Nat} (hx : rsd p m x) : fr' p d (rs x : Res p (lz m)) = rs x := by
 have h0 : 0 ≤ deg m := by rw [hmon.1]; omega
 obtain ⟨a, b⟩ := frN_ok hp lm h0 (by rw [hmon.1]; omega) hx d
 rw [← b]
 exact rs_cong (frN_d hp lm h0 (by rw [hmon.1]; omega) hi hx)
theorem fr_mod {x : Nat → Nat} (hx : rsd p m x) (i : Nat) : fr' p i (rs x : Res p (lz m)) = fr' p (i % d) (rs x) := by
 have key : ∀ j r, fr' p (d * j + r) (rs x : Res p (lz m)) = fr' p r (rs x) := by
  intro j
  induction j with
  | zero => intro r; rw [Nat.mul_zero, Nat.zero_add]
  | succ j ih =>
   intro r
   rw [show d * (j + 1) + r = d + (d * j + r) by rw [Nat.mul_succ]; omega, fr_add, fr_d hp lm hmon hi h9 hx]; exact ih r
 have := key (i / d) (i % d)
 rwa [Nat.div_add_mod] at this
theorem rs_frN {x : Nat → Nat} (hx : rsd p m x) (i : Nat) : (rs (frN p m x (i % d)) : Res p (lz m)) = fr' p i (rs x) := by
 rw [(frN_ok hp lm (by rw [hmon.1]; omega) (by rw [hmon.1]; omega) hx (i % d)).2, ← fr_mod hp lm hmon hi h9 hx i]
/-- values as sums -/
theorem vlR_rs {F : Nat → Nat → Nat} {x : Nat → Nat} (hx : rsd p m x) : ∀ n, (rs (vlR p m d F x n) : Res p (lz m)) = su (fun i => rs (F i) * fr' p i (rs x)) n
 | 0 => by rw [vlR_z, rs_zero]; rfl
 | n + 1 => by
  rw [vlR_s, rs_add (by omega), vlR_rs hx n, rs_mm hp lm (by rw [hmon.1]; omega), rs_frN hp lm hmon hi h9 hx]; rfl
end
/-- the value of rows at an element -/
def vR (p : Nat) (m : Nat → Nat) (F : Nat → Nat → Nat) (X : Res p (lz m)) : Res p (lz m) := su (fun i => rs (F i) * fr' p i X) 8
section
variable {p : Nat} {m : Nat → Nat} {d : Nat} (hp : p = 2 ∨ p = 3 ∨ p = 5 ∨ p = 7) (lm : ∀ k, k < 64 → m k < p) (hmon : mon m d) (hi : irr p (cut m) d) (h9 : d ≤ 9)
include hp lm hmon hi h9
theorem vR_add (F : Nat → Nat → Nat) (X Y : Res p (lz m)) : vR p m F (X + Y) = vR p m F X + vR p m F Y := by
 have _u0 := lm
 have _u1 := hmon
 have _u2 := hi
 have _u3 := h9
 unfold vR
 rw [← su_add]
 exact su_congr 8 fun i _ => by rw [fr_sum hp res_char, madd]
theorem vR_o (F : Nat → Nat → Nat) : vR p m F o = o := by
 have h := vR_add hp lm hmon hi h9 F (o : Res p (lz m)) o
 rw [addo] at h
 exact cancel (a := vR p m F o) (by rw [← h, addo])
theorem vR_nm (F : Nat → Nat → Nat) (X : Res p (lz m)) : ∀ c, vR p m F (nm c X) = nm c (vR p m F X)
 | 0 => vR_o hp lm hmon hi h9 F
 | c + 1 => by
  show vR p m F (nm c X + X) = nm c (vR p m F X) + vR p m F X
  rw [vR_add hp lm hmon hi h9, vR_nm F X c]
theorem vlR_vR {F : Nat → Nat → Nat} {x : Nat → Nat} (hx : rsd p m x) : (rs (vlR p m d F x 8) : Res p (lz m)) = vR p m F (rs x) := vlR_rs hp lm hmon hi h9 hx 8
theorem vlR_rsd {F : Nat → Nat → Nat} {x : Nat → Nat} : ∀ n, rsd p m (vlR p m d F x n)
 | 0 => by have _u0 := hi; rw [vlR_z]; exact zero_rsd (by omega) (by rw [hmon.1]; omega)
 | n + 1 => by
  have h0 : 0 ≤ deg m := by rw [hmon.1]; omega
  rw [vlR_s]; exact addK_rsd (by omega) h0 (vlR_rsd n) (mm_rsd hp lm h0)
end
end Go.Proofs.Yteloknnooebabaa
end
section
namespace Go.Proofs.Yteloknnooebabaa
open Go Go.RowKit
set_option linter.unusedVariables false
set_option linter.unusedSimpArgs false
attribute [local irreducible] deg irB monUp monB okA drB frN mmP pmP bzU
theorem drB_irr {n d : Nat} {m G D : Nat → Nat} (h : drB (n : Int) m G D = true) (hmon : mon m d) : irr n (cut m) d := by
 have h1 := (drB_all h).1
 have ho : okA (n : Int) m = true := by
  cases ho : okA (n : Int) m with
  | true => rfl
  | false => rw [flV_1 ho] at h1; cases h1
 have hm : monUp 4 m = true := by
  cases hm : monUp 4 m with
  | true => rfl
  | false => rw [flV_2 hm] at h1; cases h1
 rw [flV_3 ho hm] at h1
 obtain ⟨d2, hi⟩ := irB_iff.1 h1
 have e1 := hi.2.1.1
 have e2 := (mon_cut hmon).1
 have : d2 = d := by omega
 subst this; exact hi
end Go.Proofs.Yteloknnooebabaa
end
section
namespace Go.Proofs.Yteloknnooebabaa
open Go Go.RowKit
set_option linter.unusedVariables false
set_option linter.unusedSimpArgs false
/-- a module: the prime, the number of its dimension, what T does -/
def moC (p n : Int) (f : Value) : List Value := [.int .i64 p, .int .i64 n, f]
theorem moC_len (p n : Int) (f : Value) : (moC p n f).length = 3 := rfl
theorem moC_at (p n : Int) (f : Value) : (moC p n f).toArray[0]? = some (.int .i64 p) := rfl
theorem moC_at2 (p n : Int) (f : Value) : (moC p n f).toArray[2]? = some f := rfl
theorem moC_all (p n : Int) (f : Value) (h : f.oneCell' = true) : (moC p n f).toArray.all (·.oneCell') = true := by
 have e1 : (Value.int .i64 p).oneCell' = true := rfl
 have e2 : (Value.int .i64 n).oneCell' = true := rfl
 simp only [moC, List.all_toArray, List.all_cons, List.all_nil, e1, e2, h, Bool.and_self]
theorem Try.size118 : (Try.prog.info? 118).map (·.size) = some 3 := by kernel_rfl
theorem built_mo (p n : Int) (fn : Fn) (a b : Array Value) : Try.prog.built 118 [(0, .int .i64 p), (1, .int .i64 n), (2, .func fn a b)] = some (moC p n (.func fn a b)).toArray := by unfold moC; kernel_rfl
attribute [local irreducible] deg resP
end Go.Proofs.Yteloknnooebabaa
end
section
namespace Go.Proofs.Yteloknnooebabaa
open Rg
set_option linter.unusedVariables false
section
variable {R : Type} [Rg R] (S : R → R)
def hrG (x : R) : List Nat → R
 | [] => o
 | c :: cs => S (hrG x cs) + nm c x
def smG : List Nat → R → R
 | [], _ => o
 | c :: cs, y => nm c y + smG cs (S y)
def itG : Nat → R → R
 | 0, y => y
 | k + 1, y => S (itG k y)
variable {S}
theorem smG_s (h0 : S o = o) (ha : ∀ x y, S (x + y) = S x + S y) (hn : ∀ c x, S (nm c x) = nm c (S x)) : ∀ (cs : List Nat) (y : R), smG S cs (S y) = S (smG S cs y)
 | [], y => h0.symm
 | c :: cs, y => by
  show nm c (S y) + smG S cs (S (S y)) = S (nm c y + smG S cs (S y))
  rw [ha, hn, smG_s h0 ha hn cs (S y)]
theorem hrG_sm (h0 : S o = o) (ha : ∀ x y, S (x + y) = S x + S y) (hn : ∀ c x, S (nm c x) = nm c (S x)) (x : R) : ∀ cs, hrG S x cs = smG S cs x
 | [] => rfl
 | c :: cs => by
  show S (hrG S x cs) + nm c x = nm c x + smG S cs (S x)
  rw [hrG_sm h0 ha hn x cs, smG_s h0 ha hn, acomm]
theorem itG_in (y : R) : ∀ k, itG S k (S y) = S (itG S k y)
 | 0 => by have _u0 : R := o; rfl
 | k + 1 => by
  show S (itG S k (S y)) = S (S (itG S k y))
  rw [itG_in y k]
theorem smG_snoc (c : Nat) : ∀ (cs : List Nat) (y : R), smG S (cs ++ [c]) y = smG S cs y + nm c (itG S cs.length y)
 | [], y => by
  show nm c y + o = o + nm c y
  rw [acomm]
 | b :: cs, y => by
  show nm b y + smG S (cs ++ [c]) (S y) = nm b y + smG S cs (S y) + nm c (S (itG S cs.length y))
  rw [smG_snoc c cs, aassoc, itG_in]
end
/-- Horner's way -/
def hoG (T : (Nat → Nat) → (Nat → Nat)) (p : Nat) (a x : Nat → Nat) (n : Nat) : Nat → (Nat → Nat)
 | 0 => fun _ => 0
 | j + 1 => addK p (T (hoG T p a x n j)) (sclP p x (a (n - j))) 1
/-- the powers -/
def poG (T : (Nat → Nat) → (Nat → Nat)) (x : Nat → Nat) : Nat → (Nat → Nat)
 | 0 => x
 | k + 1 => T (poG T x k)
/-- the sum by powers -/
def sgG (T : (Nat → Nat) → (Nat → Nat)) (p : Nat) (a x : Nat → Nat) : Nat → (Nat → Nat)
 | 0 => fun _ => 0
 | k + 1 => addK p (sgG T p a x k) (poG T x k) (a k : Int)
section
variable {p : Nat} {m : Nat → Nat} (hp : p = 2 ∨ p = 3 ∨ p = 5 ∨ p = 7) (hm : ∀ k, k < 64 → m k < p) (h0 : 0 ≤ deg m)
 {T : (Nat → Nat) → (Nat → Nat)} {S : Res p (lz m) → Res p (lz m)} (hT : ∀ x, rsd p m x → rsd p m (T x) ∧ (rs (T x) : Res p (lz m)) = S (rs x))
include hp h0 hT
theorem hoG_ok {a x : Nat → Nat} {n : Nat} (hx : rsd p m x) : ∀ j, j ≤ n + 1 → rsd p m (hoG T p a x n j) ∧ (rs (hoG T p a x n j) : Res p (lz m)) = hrG S (rs x) (lsC a (n + 1 - j) j)
 | 0, _ => ⟨zero_rsd (by omega) h0, rs_zero⟩
 | j + 1, hj => by
  have hp0 : 0 < p := by omega
  obtain ⟨b1, b2⟩ := hoG_ok (a := a) (n := n) hx j (by omega)
  obtain ⟨c1, c2⟩ := hT _ b1
  have hs : rsd p m (sclP p x (a (n - j))) := by
   rw [← addK_scl]; exact addK_rsd hp0 h0 (zero_rsd hp0 h0) hx
  refine ⟨addK_rsd hp0 h0 c1 hs, ?_⟩
  show (rs (addK p (T (hoG T p a x n j)) (sclP p x (a (n - j))) 1) : Res p (lz m)) = _
  rw [rs_add hp0, c2, b2, rs_scl]
  have e1 : lsC a (n + 1 - (j + 1)) (j + 1) = a (n - j) :: lsC a (n + 1 - j) j := by
   unfold lsC
   rw [List.range'_succ, List.map_cons, show n + 1 - (j + 1) = n - j by omega, show n - j + 1 = n + 1 - j by omega]
  rw [e1]; rfl
theorem poG_ok {x : Nat → Nat} (hx : rsd p m x) : ∀ k, rsd p m (poG T x k) ∧ (rs (poG T x k) : Res p (lz m)) = itG S k (rs x)
 | 0 => by have _u0 := hp; have _u1 := h0; exact ⟨hx, rfl⟩
 | k + 1 => by
  obtain ⟨b1, b2⟩ := poG_ok hx k
  obtain ⟨c1, c2⟩ := hT _ b1
  exact ⟨c1, by show (rs (T (poG T x k)) : Res p (lz m)) = _; rw [c2, b2]; rfl⟩
theorem sgG_ok {a x : Nat → Nat} (hx : rsd p m x) : ∀ k, rsd p m (sgG T p a x k) ∧ (rs (sgG T p a x k) : Res p (lz m)) = smG S (lsC a 0 k) (rs x)
 | 0 => ⟨zero_rsd (by omega) h0, rs_zero⟩
 | k + 1 => by
  have hp0 : 0 < p := by omega
  obtain ⟨b1, b2⟩ := sgG_ok (a := a) hx k
  obtain ⟨c1, c2⟩ := poG_ok hp h0 hT hx k
  refine ⟨addK_rsd hp0 h0 b1 c1, ?_⟩
  show (rs (addK p (sgG T p a x k) (poG T x k) (a k : Int)) : Res p (lz m)) = _
  rw [rs_addK hp0, b2, c2]
  have e1 : lsC a 0 (k + 1) = lsC a 0 k ++ [a k] := by
   unfold lsC
   rw [List.range'_1_concat, List.map_append, Nat.zero_add]; rfl
  rw [e1, smG_snoc]
  unfold lsC
  rw [List.length_map, List.length_range']
include hm in
/-- both ways make the same -/
theorem hoG_same (hS0 : S o = o) (hSa : ∀ x y, S (x + y) = S x + S y) (hSn : ∀ c x, S (nm c x) = nm c (S x)) {a x : Nat → Nat} {n : Nat} (hx : rsd p m x) : ∀ k, k < 64 → hoG T p a x n (n + 1) k = sgG T p a x (n + 1) k := by
 obtain ⟨b1, b2⟩ := hoG_ok hp h0 hT (a := a) (n := n) hx (n + 1) (Nat.le_refl _)
 obtain ⟨c1, c2⟩ := sgG_ok hp h0 hT (a := a) hx (n + 1)
 refine res_sameN hp b1.1 c1.1 hm h0 b1.2 c1.2 (cl_eq.1 (?_ : (rs (hoG T p a x n (n + 1)) : Res p (lz m)) = rs (sgG T p a x (n + 1))))
 rw [b2, c2, Nat.sub_self, hrG_sm hS0 hSa hSn]
end
def tu3 (A B C : Nat → Nat) (i : Nat) : Nat → Nat := if i = 0 then A else if i = 1 then B else if i = 2 then C else fun _ => 0
/-- the three places of a module's turn -/
def tuF (p : Nat) (m G D : Nat → Nat) : Nat → Nat → Nat := tu3 (resP p TP m) G D
/-- what T does -/
def tuT (p : Nat) (m : Nat → Nat) (d : Nat) (G D x : Nat → Nat) : Nat → Nat := vlR p m d (tuF p m G D) x 8
/-- the same, term by term -/
def tuS (p : Nat) (m : Nat → Nat) (d : Nat) (G D x : Nat → Nat) : Nat → Nat := addK p (addK p (mmP p (resP p TP m) x m) (mmP p G (frN p m x 1) m) 1) (mmP p D (frN p m x 2) m) 1
section
variable {p : Nat} {m : Nat → Nat} {d : Nat} (hp : p = 2 ∨ p = 3 ∨ p = 5 ∨ p = 7) (lm : ∀ k, k < 64 → m k < p) (hmon : mon m d) (hi : irr p (cut m) d) (h9 : d ≤ 9)
include hp lm hmon hi h9
theorem tuT_ok {G D x : Nat → Nat} (hx : rsd p m x) : rsd p m (tuT p m d G D x) ∧ (rs (tuT p m d G D x) : Res p (lz m)) = vR p m (tuF p m G D) (rs x) :=
 ⟨vlR_rsd hp lm hmon hi h9 8, vlR_vR hp lm hmon hi h9 hx⟩
theorem tuS_ok {G D x : Nat → Nat} (lG : ∀ k, k < 64 → G k < p) (lD : ∀ k, k < 64 → D k < p) (hx : rsd p m x) : rsd p m (tuS p m d G D x) ∧ (rs (tuS p m d G D x) : Res p (lz m)) = vR p m (tuF p m G D) (rs x) := by
 have _u0 := hi
 have hp0 : 0 < p := by omega
 have h0 : 0 ≤ deg m := by rw [hmon.1]; omega
 have h9' : deg m ≤ 9 := by rw [hmon.1]; omega
 have lT : ∀ k, k < 64 → resP p TP m k < p := resP_lt hp0 (fun k _ => TP_lt (by omega) k)
 obtain ⟨f1, g1⟩ := frN_ok hp lm h0 h9' hx 1
 obtain ⟨f2, g2⟩ := frN_ok hp lm h0 h9' hx 2
 refine ⟨addK_rsd hp0 h0 (addK_rsd hp0 h0 (mm_rsd hp lm h0) (mm_rsd hp lm h0)) (mm_rsd hp lm h0), ?_⟩
 unfold tuS
 rw [rs_add hp0, rs_add hp0, rs_mm hp lm h0, rs_mm hp lm h0, rs_mm hp lm h0, g1, g2]
 have z : ∀ i, 3 ≤ i → (rs (tuF p m G D i) : Res p (lz m)) * fr' p i (rs x) = o := fun i h => by
  unfold tuF tu3; rw [if_neg (by omega), if_neg (by omega), if_neg (by omega), rs_zero, omul]
 have key := su_tail (f := fun i => (rs (tuF p m G D i) : Res p (lz m)) * fr' p i (rs x)) (a := 3) z 5
 show _ = su (fun i => (rs (tuF p m G D i) : Res p (lz m)) * fr' p i (rs x)) 8
 rw [key]
 have e0 : fr' p 0 (rs x : Res p (lz m)) = rs x := by unfold fr'; rw [Nat.pow_zero]; show (rs x : Res p (lz m)) * e = rs x; exact mule _
 show _ = o + rs (tuF p m G D 0) * fr' p 0 (rs x) + rs (tuF p m G D 1) * fr' p 1 (rs x) + rs (tuF p m G D 2) * fr' p 2 (rs x)
 rw [e0, oadd]; rfl
theorem tu_same {G D x : Nat → Nat} (lG : ∀ k, k < 64 → G k < p) (lD : ∀ k, k < 64 → D k < p) (hx : rsd p m x) : ∀ k, k < 64 → tuS p m d G D x k = tuT p m d G D x k := by
 obtain ⟨a1, a2⟩ := tuS_ok hp lm hmon hi h9 lG lD hx
 obtain ⟨b1, b2⟩ := tuT_ok hp lm hmon hi h9 (G := G) (D := D) hx
 refine res_sameN hp a1.1 b1.1 lm (by rw [hmon.1]; omega) a1.2 b1.2 (cl_eq.1 (?_ : (rs (tuS p m d G D x) : Res p (lz m)) = rs (tuT p m d G D x)))
 rw [a2, b2]
theorem tu_act {G D a x : Nat → Nat} (hx : rsd p m x) (n : Nat) : ∀ k, k < 64 → hoG (tuT p m d G D) p a x n (n + 1) k = sgG (tuT p m d G D) p a x (n + 1) k :=
 hoG_same hp lm (by rw [hmon.1]; omega) (fun y hy => tuT_ok hp lm hmon hi h9 hy) (vR_o hp lm hmon hi h9 _) (vR_add hp lm hmon hi h9 _) (fun c X => vR_nm hp lm hmon hi h9 _ X c) hx
end
end Go.Proofs.Yteloknnooebabaa
end
