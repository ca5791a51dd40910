/-
  What the rows of this claim rest on: arrays of bytes, walks of the functions, plain mathematics.
-/
import Derived.Test.YteloknnooebabaaZm9
import Derived.WalkKit
import Derived.WalkSpells
import Derived.WalkLawsBesides
import Derived.Lib.Hide
import Derived.Laws.Rows
import Derived.Laws.CopyOwn
import Derived.Deep.QuietTactic
import Derived.Deep.WholeRow
import Derived.Deep.Draws
import Derived.Deep.MidRow
import Derived.Deep.CutRange
import Derived.Deep.DeepCutAuto
import Derived.Deep.RegionHeld3
import Derived.BigQuiet
import Derived.BigRegion
import Derived.Test.YteloknnooebabaaRows
import Derived.Great.BuildSlice
import Derived.Handy
import Derived.Laws.MakeOwn
import Derived.Laws.Tables
import Derived.Laws.StructEq
import Derived.ScopeJumps
import Derived.OwnWalk
import Derived.RangeFuncNested
import Derived.RangeFuncBound
import Derived.RangeFuncCalls
import Derived.RangeFuncLeaves
import Derived.Shelf.Abstract
import Derived.Shelf.RegionOpen
import Derived.OwnWalkIn
import Derived.TacticsInMore
import Derived.LoopNIn
import Derived.LoopIn
import Derived.Deep.CutBlock
import Derived.Maps.OwnOps
import Derived.DeepKeys4
import Derived.Carry
import Derived.Test.YteloknnooebabaaProg
import Derived.OpenShut
import Derived.ProofKit
set_option maxRecDepth 100000
set_option maxHeartbeats 9000000
set_option linter.unusedVariables false
set_option linter.unusedSimpArgs false
namespace Go.Proofs.Yteloknnooebabaa
def codeL (p : Int) (fs : List (Nat → Nat)) : Int := if okP p && fs.all (okA p) then 0 else 1
end Go.Proofs.Yteloknnooebabaa
namespace Go.Proofs.Yteloknnooebabaa
open Go.RowKit
theorem codeL_p {p : Int} {fs : List (Nat → Nat)} (h : okP p = false) : codeL p fs = 1 := by simp [codeL, h]
theorem codeL_bad {p : Int} {fs : List (Nat → Nat)} {k : Nat} {f : Nat → Nat} (hk : fs[k]? = some f) (h : okA p f = false) : codeL p fs = 1 := by
 have : ¬ (fs.all (okA p) = true) := by
  rw [List.all_eq_true]
  intro h2
  have := h2 f (List.mem_of_getElem? hk)
  rw [h] at this; cases this
 simp [codeL, this]
theorem codeL_ok {p : Int} {fs : List (Nat → Nat)} (hp : okP p = true) (h : ∀ (j : Nat) (f : Nat → Nat), fs[j]? = some f → okA p f = true) : codeL p fs = 0 := by
 have : fs.all (okA p) = true := by
  rw [List.all_eq_true]
  intro f hf
  obtain ⟨j, hj⟩ := List.getElem?_of_mem hf
  exact h j f hj
 simp [codeL, hp, this]
theorem l01Code_any (p : Int) (fs : List (Nat → Nat)) (hf : ∀ f ∈ fs, byte f) (b : Nat) (w : World) (hs : PolS w b fs) (hl : fs.length ≤ 8) :
 Calls Try.prog 122 #[.int .i64 p, .slice (some ⟨b, 0, none⟩) fs.length fs.length] w fun e w' => e = .returned (.int .i64 (codeL p fs)) ∧ Below w.heap.size w w' := by
 cases hp : okP p with
 | false =>
  go_enter Try.func122, Try.ntmps122
  go_wp2_with (go_at_call 206; refine (l01Prime_any _ _).mono ?_; rintro e w' ⟨rfl, rfl⟩)
  go_ret
  exact ⟨ret_int (codeL_p hp).symm, Below.refl _ _⟩
 | true =>
  go_enter Try.func122, Try.ntmps122
  go_wp2_with (go_at_call 206; refine (l01Prime_any _ _).mono ?_; rintro e w' ⟨rfl, rfl⟩)
  go_loopw [5] (fun i wr => ∃ k : Nat, k ≤ fs.length ∧ (∀ j f, j < k → fs[j]? = some f → okA p f = true) ∧ i = .int .i64 (k : Int) ∧ Below w.heap.size w wr) (fun i _ => fs.length - (intOf i).toNat)
  case atStart => exact ⟨0, by omega, fun j f hj => by omega, rfl, Below.refl _ _⟩
  case round =>
   obtain ⟨k, hk, hall, rfl, hb⟩ := hrel
   have HA := Lib.hid hall; clear hall
   by_cases hlt : k < fs.length
   · obtain ⟨f, hfk⟩ : ∃ f, fs[k]? = some f := ⟨_, List.getElem?_eq_getElem hlt⟩
     have hr := (hs.zw hb).range hfk
     have HK := Lib.hid hfk
     have hbf := hf f (List.mem_of_getElem? hfk)
     clear hfk
     cases hkk : okA p f with
     | false =>
      go_wp2_with (first | refine wpList_load_mid rfl 24 _ rfl b (k * 64) rfl _ _ hr Try.underlying24 rfl (by rw [zl]; exact Try.size24) ?_ | (go_at_call 207; refine (l01Is_any _ _ hbf _).mono ?_; rintro e w' ⟨rfl, hw⟩))
      go_ret
      exact ⟨ret_int (codeL_bad HK.out hkk).symm, hb.trans (hw.mono hb.size)⟩
     | true =>
      go_wp2_with (first | refine wpList_load_mid rfl 24 _ rfl b (k * 64) rfl _ _ hr Try.underlying24 rfl (by rw [zl]; exact Try.size24) ?_ | (go_at_call 207; refine (l01Is_any _ _ hbf _).mono ?_; rintro e w' ⟨rfl, hw⟩))
      go_roundw
      case rel =>
       refine ⟨k + 1, by omega, fun j g hj hg => ?_, by go_num, hb.trans (hw.mono hb.size)⟩
       by_cases e : j = k
       · subst e
         have := HK.out
         rw [hg] at this
         injection this with this
         subst this
         exact hkk
       exact HA.out j g (by omega) hg
      case measure => simp [intOf]; omega
   go_wp2_with fail
   go_ret
   refine ⟨ret_int (codeL_ok hp fun j f hj => HA.out j f ?_ hj).symm, hb⟩
   have := (List.getElem?_eq_some_iff.1 hj).1
   omega
end Go.Proofs.Yteloknnooebabaa
namespace Go.Proofs.Yteloknnooebabaa
open Go.RowKit
theorem codeL_two (p : Int) (fs : List (Nat → Nat)) : codeL p fs = 0 ∨ codeL p fs = 1 := by
 unfold codeL; split <;> simp
theorem codeL_zero {p : Int} {fs : List (Nat → Nat)} (h : codeL p fs = 0) : okP p = true ∧ ∀ f ∈ fs, okA p f = true := by
 unfold codeL at h
 split at h
 · rename_i h'
   simpa [List.all_eq_true] using h'
 cases h
end Go.Proofs.Yteloknnooebabaa
namespace Go.Proofs.Yteloknnooebabaa
open Go Go.RowKit
theorem wpList_load_rowv_g {P : Program} {ops : Array Oper} {rest : List Oper} {o : Oper} {a : Act} {w : World} {Q : Exit → Act → World → Prop} (hw : Region.wanted o (yielded ops a.tmps) = true) (ty : TypeId) (x : Operand) (ho : o.op = .load ty x)
 (b : Nat) (hx : a.eval x = .pointer (some ⟨b, 0, none⟩)) (t : TypeId) (cs : Array Value) (hb : Row w b t cs) (d : TypeDesc)
 (hu : P.underlying ty = some d) (hd : (match d with | .struct _ | .array _ _ => true | _ => false) = true) (n : Nat) (hi : (P.info? ty).map (·.size) = some n) (hn : cs.size = n)
 (h : wpList P ops Q rest (a.put o.dst (.agg cs)) w) : wpList P ops Q (o :: rest) a w := by
 unfold wpList
 rw [if_pos hw]
 exact Or.inl (wp_load_rowv ty x ho b hx t cs hb d hu hd n hi hn h)
attribute [local irreducible] deg addK okA flV skA
end Go.Proofs.Yteloknnooebabaa
namespace Go.Proofs.Yteloknnooebabaa
open Go.ChangeShapes Go.WideShapes Go.ChangeAt Go.RowKit
def drC (p : Int) (m G D : Nat → Nat) : List Value := .int .i64 p :: (bl 64 m ++ (bl 64 G ++ bl 64 D))
theorem drC_len (p : Int) (m G D : Nat → Nat) : (drC p m G D).length = 193 := by simp [drC, bl]
section
variable {H : Type} {enc : TypeId × Value → H} {P : Program}
theorem trod_bytes {e u : TypeId} {w : World} {base m : Nat} {spare : Nat → Bool} {held : Bool} {c : List Value} {x : DataW H × List MemPlace}
 (he : P.underlying e = some (.array 64 u)) (hu : P.underlying u = some (.int .u8)) (hCe : P.cellsOf e = 64) (hCu : P.cellsOf u = 1) (h : DataW.trod enc P w base spare held m e c = some x) :
 (∃ g, byte g ∧ c = bl 64 g) ∧ x.2 = [] := by
 obtain ⟨ys, m2, hm2, hx2, hlen2, hyl, hel2⟩ := DataW.trod_array he h
 have byt : ∀ j, j < 64 → ∃ k : Nat, k < 256 ∧ c[j]? = some (.int .u8 (k : Int)) ∧ ys[j]? = some (.lit (.int .u8 (k : Int)), []) := by
  intro j hj
  have h3 := hel2 j hj
  have hyj : ys[j]? = some (ys[j]'(by omega)) := List.getElem?_eq_getElem (by omega)
  rw [hyj, hCu] at h3
  obtain ⟨z, hz1, hz2, hz3⟩ := DataW.trod_int hu h3
  have hb := bounds_u8 hz3
  obtain ⟨k, rfl⟩ := Int.eq_ofNat_of_zero_le hb.1
  refine ⟨k, by omega, ?_, by rw [hyj, hz2]⟩
  have h4 : ((c.drop (j * 1)).take 1)[0]? = some (.int .u8 (k : Int)) := by
   rw [hz1]; rfl
  simp only [List.getElem?_take, List.getElem?_drop, Nat.mul_one, Nat.add_zero, Nat.lt_add_one, if_true] at h4
  exact h4
 refine ⟨⟨fun i => match c[i]? with | some (.int _ z) => if i < 64 then z.toNat else 0 | _ => 0, ?_, ?_⟩, ?_⟩
 · intro i
   by_cases hi : i < 64
   · obtain ⟨k, hk, hc, _⟩ := byt i hi
     simp only [hc, hi, if_true, Int.toNat_natCast]
     exact hk
   have : c[i]? = none := List.getElem?_eq_none (by rw [hlen2, hCe]; omega)
   simp [this]
 · apply List.ext_getElem?
   intro i
   by_cases hi : i < 64
   · obtain ⟨k, hk, hc, _⟩ := byt i hi
     unfold bl
     simp only [List.getElem?_map, List.getElem?_range hi, Option.map_some, hc, hi, if_true, Int.toNat_natCast]
   rw [List.getElem?_eq_none (by rw [hlen2, hCe]; omega), List.getElem?_eq_none (by rw [zl]; omega)]
 have hp : x.2 = ys.flatMap (·.2) := by simpa using congrArg Prod.snd hx2
 rw [hp, List.flatMap_eq_nil_iff]
 intro z hzm
 obtain ⟨j, hj⟩ := List.getElem?_of_mem hzm
 have hjn : j < 64 := by rw [← hyl]; exact (List.getElem?_eq_some_iff.1 hj).1
 obtain ⟨k, _, _, h2⟩ := byt j hjn
 rw [hj] at h2
 injection h2 with h2
 rw [h2]
theorem open_dri {t e u i : TypeId} {f0 f1 f2 f3 : Field} {w : World} {r : Reach} {b0 base : Nat} {spare : Nat → Bool} {held : Bool} {v : Value} {d : DataW H} {p : List MemPlace}
 (ht : P.underlying t = some (.struct #[f0, f1, f2, f3])) (k0 : f0.type = i ∧ f0.offset = 0) (k1 : f1.type = e ∧ f1.offset = 1) (k2 : f2.type = e ∧ f2.offset = 65) (k3 : f3.type = e ∧ f3.offset = 129)
 (hi : P.underlying i = some (.int .i64)) (he : P.underlying e = some (.array 64 u)) (hu : P.underlying u = some (.int .u8)) (hC : P.cellsOf t = 193) (hCi : P.cellsOf i = 1) (hCe : P.cellsOf e = 64) (hCu : P.cellsOf u = 1)
 (hv : Value.okWide P w r b0 t v) (h : DataW.Trod enc P w base spare held t v d p) :
 ∃ (q : Int) (m G D : Nat → Nat), byte m ∧ byte G ∧ byte D ∧ v = .agg (drC q m G D).toArray ∧ p = [] ∧ -9223372036854775808 ≤ q ∧ q ≤ 9223372036854775807 ∧ ∀ (w' : World) (base' : Nat) (spare' : Nat → Bool) (held' : Bool), DataW.Trod enc P w' base' spare' held' t v d [] := by
 unfold Value.okWide at hv
 rw [ht] at hv
 obtain ⟨cs, rfl, hsz, _⟩ := hv
 obtain ⟨fuel, hf⟩ := h
 obtain ⟨xs, n, hn, hx, hlen, hxl, hel⟩ := DataW.trod_struct ht hf
 subst hn
 have hcs : cs.toList.length = 193 := by
  have : cs.size = 193 := by rw [hsz, hC]
  simpa using this
 have hxl4 : xs.length = 4 := by simpa using hxl
 obtain ⟨y0, y1, y2, y3, rfl⟩ : ∃ y0 y1 y2 y3, xs = [y0, y1, y2, y3] := by
  match xs, hxl4 with
  | [a, b, c, d], _ => exact ⟨a, b, c, d, rfl⟩
 have g0 := hel 0 f0 rfl
 have g1 := hel 1 f1 rfl
 have g2 := hel 2 f2 rfl
 have g3 := hel 3 f3 rfl
 rw [k0.1, k0.2, hCi] at g0
 rw [k1.1, k1.2, hCe] at g1
 rw [k2.1, k2.2, hCe] at g2
 rw [k3.1, k3.2, hCe] at g3
 obtain ⟨z, hz1, hz2, hz3⟩ := DataW.trod_int hi g0
 obtain ⟨⟨m, bm, em⟩, n1⟩ := trod_bytes he hu hCe hCu g1
 obtain ⟨⟨G, bG, eG⟩, n2⟩ := trod_bytes he hu hCe hCu g2
 obtain ⟨⟨D, bD, eD⟩, n3⟩ := trod_bytes he hu hCe hCu g3
 have h5 : (Value.agg cs).cells.toList = cs.toList := rfl
 rw [h5] at hz1 em eG eD
 have hcs2 : cs.toList = drC z m G D := by
  have e0 : cs.toList = cs.toList.take 1 ++ ((cs.toList.drop 1).take 64 ++ ((cs.toList.drop 65).take 64 ++ (cs.toList.drop 129).take 64)) := by
   have a1 : (cs.toList.drop 129).take 64 = cs.toList.drop 129 := List.take_of_length_le (by rw [List.length_drop]; omega)
   have a2 : (cs.toList.drop 65).take 64 ++ cs.toList.drop 129 = cs.toList.drop 65 := by
    have := List.take_append_drop 64 (cs.toList.drop 65)
    rwa [List.drop_drop] at this
   have a3 : (cs.toList.drop 1).take 64 ++ cs.toList.drop 65 = cs.toList.drop 1 := by
    have := List.take_append_drop 64 (cs.toList.drop 1)
    rwa [List.drop_drop] at this
   rw [a1, a2, a3, List.take_append_drop]
  rw [List.drop_zero] at hz1
  rw [e0, hz1, em, eG, eD]
  rfl
 have hp : p = [] := by
  have hp : p = [y0, y1, y2, y3].flatMap (·.2) := by simpa using congrArg Prod.snd hx
  have n0 : y0.2 = [] := by rw [hz2]
  simpa [n0, n1, n2, n3] using hp
 have hb := bounds_i64 hz3
 refine ⟨z, m, G, D, bm, bG, bD, ?_, hp, hb.1, hb.2, ?_⟩
 · rw [← hcs2]
 intro w' base' spare' held'
 refine ⟨n + 1, ?_⟩
 have same : ∀ (f : Field) (c : List Value), f = f0 ∨ f = f1 ∨ f = f2 ∨ f = f3 → DataW.trod enc P w' base' spare' held' n f.type c = DataW.trod enc P w base spare held n f.type c := by
  rintro f c (rfl | rfl | rfl | rfl)
  · rw [k0.1]; exact trod_int_same hi _ _ _ _ _ _ _ _ _ _
  · rw [k1.1]; exact trod_barr_same he hu _ _ _ _ _ _ _ _ _ _
  · rw [k2.1]; exact trod_barr_same he hu _ _ _ _ _ _ _ _ _ _
  rw [k3.1]; exact trod_barr_same he hu _ _ _ _ _ _ _ _ _ _
 have e1 : DataW.trod enc P w' base' spare' held' (n + 1) t (Value.agg cs).cells.toList = DataW.trod enc P w base spare held (n + 1) t (Value.agg cs).cells.toList := by
  unfold DataW.trod
  rw [ht]
  simp only [List.mapM_cons, List.mapM_nil, same f0 _ (.inl rfl), same f1 _ (.inr (.inl rfl)), same f2 _ (.inr (.inr (.inl rfl))), same f3 _ (.inr (.inr (.inr rfl)))]
 rw [e1, hf, hp]
end
end Go.Proofs.Yteloknnooebabaa
namespace Go.Proofs.Yteloknnooebabaa
open Go Go.RowKit
section
variable {P : Program}
theorem wp_load_rowc {o : Oper} {a : Act} {w : World} {K : Act → World → Prop} {Q : Exit → Act → World → Prop} (ty : TypeId) (x : Operand) (ho : o.op = .load ty x)
 (b i : Nat) (hx : a.eval x = .pointer (some ⟨b, i, none⟩)) (t : TypeId) (cs : Array Value) (hb : Row w b t cs) (v : Value) (hi : cs[i]? = some v) (d : TypeDesc)
 (hu : P.underlying ty = some d) (hd : (match d with | .struct _ | .array _ _ => true | _ => false) = false) (h : K (a.put o.dst v) w) : o.wp P a w K Q := by
 have hc := hb.cell hi
 have hagg : (isAgg ty).run P w = .ok false w := by
  unfold isAgg
  rw [Sem.run_bind, run_underlying hu w]
  cases d <;> simp_all
 unfold Oper.wp execOp
 simp only [ho, hx, Instr.loadAt, Instr.sureAddr, Sem.run_bind, Sem.run_pure, Result.andThen_ok, loadVar, hagg, Bool.false_eq_true, if_false, Sem.run_ite, run_load, hc]
 exact h
theorem wpList_load_rowc {ops : Array Oper} {rest : List Oper} {o : Oper} {a : Act} {w : World} {Q : Exit → Act → World → Prop} (hgd : o.guard = none) (ty : TypeId) (x : Operand) (ho : o.op = .load ty x)
 (b i : Nat) (hx : a.eval x = .pointer (some ⟨b, i, none⟩)) (t : TypeId) (cs : Array Value) (hb : Row w b t cs) (v : Value) (hi : cs[i]? = some v) (d : TypeDesc)
 (hu : P.underlying ty = some d) (hd : (match d with | .struct _ | .array _ _ => true | _ => false) = false) (h : wpList P ops Q rest (a.put o.dst v) w) : wpList P ops Q (o :: rest) a w :=
 wpList_plain hgd fun _ hK => wp_load_rowc ty x ho b i hx t cs hb v hi d hu hd (hK _ _ h)
theorem wpList_store_part {ops : Array Oper} {rest : List Oper} {o : Oper} {a : Act} {w : World} {Q : Exit → Act → World → Prop} (hgd : o.guard = none) (ty : TypeId) (x y : Operand) (ho : o.op = .store ty x y)
 (b i : Nat) (g : Nat → Nat) (hx : a.eval x = .pointer (some ⟨b, i, none⟩)) (hy : a.eval y = .agg (zb 64 g)) (t : TypeId) (cs cs' : Array Value) (hb : Row w b t cs)
 (hc : ((bl 64 g).zipIdx 0).foldl (fun (c : Array Value) (z : Value × Nat) => c.setIfInBounds (i + z.2) z.1) cs = cs') (hn : i + 64 ≤ cs.size)
 (hs : (P.info? ty).map (·.size) = some 64) (h : wpList P ops Q rest (a.put o.dst undef) (w.setRow b cs')) : wpList P ops Q (o :: rest) a w := by
 refine wpList_plain hgd fun _ hK => wp_store_mid ty x y ho b i (zb 64 g) hx hy ?_ (by rw [zbs]; exact hs) (bcells_one 64 g) (hK _ _ ?_)
 · rw [zbs]
   intro j hj
   have hl : i + j < cs.size := by omega
   rw [hb.cell (i := i + j) (v := cs[i + j]) (Array.getElem?_eq_getElem hl)]
   exact ⟨rfl, hb.frozen _⟩
 have hb' : w.heap[b]? = some (.cells cs t (0, 0)) := by unfold Row at hb; exact hb
 rw [show (zb 64 g).toList = bl 64 g from rfl, setCells_row _ _ _ _ hb', hc]
 exact h
end
section
variable {P : Program}
theorem results_row {fn : Func} {p : Tmp} {ty : TypeId} (h : fn.results = #[.cell p ty]) (tmps : Array Value) (w : World) (b : Nat) (t : TypeId) (cs : Array Value)
 (hp : tmps.getD p undef = .pointer (some ⟨b, 0, none⟩)) (hb : Row w b t cs) (d : TypeDesc) (hu : P.underlying ty = some d) (hd : (match d with | .struct _ | .array _ _ => true | _ => false) = true) (hi : (P.info? ty).map (·.size) = some cs.size) :
 (results fn tmps).run P w = .ok (.agg cs) w := by
 have hp' : tmps[p]?.getD undef = .pointer (some ⟨b, 0, none⟩) := by simpa using hp
 have hb' : w.heap[b]? = some (.cells cs t (0, 0)) := by unfold Row at hb; exact hb
 simp [results, h, hp', asAddr, run_loadVar_row w b t ty _ (0, 0) d hb' hu hd hi]
end
end Go.Proofs.Yteloknnooebabaa
namespace Go.Proofs.Yteloknnooebabaa
open Go Go.RowKit
theorem drC_at (p : Int) (m G D : Nat → Nat) : (drC p m G D).toArray[0]? = some (.int .i64 p) := by simp [drC]
theorem drC_all (p : Int) (m G D : Nat → Nat) : (drC p m G D).toArray.all (·.oneCell') = true := Array.all_eq_true_iff_forall_mem.2 fun u hu => by
 have hu' : u ∈ drC p m G D := by simpa using hu
 unfold drC at hu'
 have key : ∀ g : Nat → Nat, u ∈ bl 64 g → u.oneCell' = true := fun g h => by
  unfold bl at h
  obtain ⟨i, _, rfl⟩ := List.mem_map.1 h
  rfl
 rcases List.mem_cons.1 hu' with h | h
 · subst h; rfl
 rcases List.mem_append.1 h with h | h
 · exact key m h
 rcases List.mem_append.1 h with h | h
 · exact key G h
 exact key D h
theorem drC_set (p q : Int) (m G D : Nat → Nat) : (drC p m G D).toArray.setIfInBounds 0 (.int .i64 q) = (drC q m G D).toArray := by simp [drC]
theorem drC_m (p : Int) (m G D g : Nat → Nat) : ((bl 64 g).zipIdx 0).foldl (fun (c : Array Value) (z : Value × Nat) => c.setIfInBounds (1 + z.2) z.1) (drC p m G D).toArray = (drC p g G D).toArray := by
 have := foldl_set (bl 64 g) 1 [.int .i64 p] (bl 64 G ++ bl 64 D) (bl 64 m) (by rw [zl, zl]) rfl
 simpa [drC] using this
theorem drC_g (p : Int) (m G D g : Nat → Nat) : ((bl 64 g).zipIdx 0).foldl (fun (c : Array Value) (z : Value × Nat) => c.setIfInBounds (65 + z.2) z.1) (drC p m G D).toArray = (drC p m g D).toArray := by
 have := foldl_set (bl 64 g) 65 (.int .i64 p :: bl 64 m) (bl 64 D) (bl 64 G) (by rw [zl, zl]) (by rw [List.length_cons, zl])
 simpa [drC] using this
theorem drC_d (p : Int) (m G D g : Nat → Nat) : ((bl 64 g).zipIdx 0).foldl (fun (c : Array Value) (z : Value × Nat) => c.setIfInBounds (129 + z.2) z.1) (drC p m G D).toArray = (drC p m G g).toArray := by
 have := foldl_set (bl 64 g) 129 (.int .i64 p :: (bl 64 m ++ bl 64 G)) [] (bl 64 D) (by rw [zl, zl]) (by rw [List.length_cons, List.length_append, zl, zl])
 simpa [drC] using this
theorem range_part {w : World} {b : Nat} {t : TypeId} {pre c post : List Value} (h : Row w b t (pre ++ (c ++ post)).toArray) : w.rangeAt b pre.length c := by
 intro j v hv
 have := h.range (pre.length + j) v (by
  have hj : j < c.length := (List.getElem?_eq_some_iff.1 hv).1
  rw [List.getElem?_append_right (by omega), Nat.add_sub_cancel_left, List.getElem?_append_left hj]; exact hv)
 rwa [Nat.zero_add] at this
theorem Row.drm {w : World} {b : Nat} {t : TypeId} {p : Int} {m G D : Nat → Nat} (h : Row w b t (drC p m G D).toArray) : w.rangeAt b 1 (bl 64 m) := range_part (pre := [.int .i64 p]) (c := bl 64 m) (post := bl 64 G ++ bl 64 D) h
theorem Row.drg {w : World} {b : Nat} {t : TypeId} {p : Int} {m G D : Nat → Nat} (h : Row w b t (drC p m G D).toArray) : w.rangeAt b 65 (bl 64 G) := by
 have := range_part (w := w) (b := b) (t := t) (pre := .int .i64 p :: bl 64 m) (c := bl 64 G) (post := bl 64 D) (by simpa [drC] using h)
 rwa [List.length_cons, zl] at this
theorem Row.drd {w : World} {b : Nat} {t : TypeId} {p : Int} {m G D : Nat → Nat} (h : Row w b t (drC p m G D).toArray) : w.rangeAt b 129 (bl 64 D) := by
 have := range_part (w := w) (b := b) (t := t) (pre := .int .i64 p :: (bl 64 m ++ bl 64 G)) (c := bl 64 D) (post := []) (by simpa [drC] using h)
 rw [List.length_cons, List.length_append, zl, zl] at this; exact this
theorem Try.size58 : (Try.prog.info? 58).map (·.size) = some 193 := by kernel_rfl
theorem Try.size55 : (Try.prog.info? 55).map (·.size) = some 193 := by kernel_rfl
theorem drC_zero : (drC 0 (fun _ => 0) (fun _ => 0) (fun _ => 0)).toArray = Try.zeroCells58 := by unfold drC bl; kernel_rfl
end Go.Proofs.Yteloknnooebabaa
namespace Go.Proofs.Yteloknnooebabaa
open Go Go.RowKit
attribute [local irreducible] deg irB monUp monB okA
noncomputable def drB (p : Int) (m G D : Nat → Nat) : Bool := flV p m && (rsB p m G && (rsB p m D && !eqN 64 D (fun _ => 0)))
theorem drB_1 {p : Int} {m G D : Nat → Nat} (h : flV p m = false) : drB p m G D = false := by unfold drB; rw [h]; rfl
theorem drB_2 {p : Int} {m G D : Nat → Nat} (h : rsB p m G = false) : drB p m G D = false := by unfold drB; rw [h]; simp
theorem drB_3 {p : Int} {m G D : Nat → Nat} (h : rsB p m D = false) : drB p m G D = false := by unfold drB; rw [h]; simp
theorem drB_4 {p : Int} {m G D : Nat → Nat} (h : eqN 64 D (fun _ => 0) = true) : drB p m G D = false := by unfold drB; rw [h]; simp
theorem drB_5 {p : Int} {m G D : Nat → Nat} (h1 : flV p m = true) (h2 : rsB p m G = true) (h3 : rsB p m D = true) (h4 : eqN 64 D (fun _ => 0) = false) : drB p m G D = true := by unfold drB; rw [h1, h2, h3, h4]; rfl
theorem drB_code {p : Int} {m G D : Nat → Nat} (h : codeL p [m, G, D] = 1) : drB p m G D = false := by
 cases h1 : okA p m with
 | false => exact drB_1 (flV_1 h1)
 | true =>
  cases h2 : okA p G with
  | false => exact drB_2 (by unfold rsB; rw [h2]; rfl)
  | true =>
   cases h3 : okA p D with
   | false => exact drB_3 (by unfold rsB; rw [h3]; rfl)
   | true =>
    have : codeL p [m, G, D] = 0 := codeL_ok (okA_p h1) (fun j f hf => by
     match j, hf with
     | 0, hf => cases hf; exact h1
     | 1, hf => cases hf; exact h2
     | 2, hf => cases hf; exact h3)
    omega
theorem toDrinfeld_any (p : Int) (m G D : Nat → Nat) (hm : byte m) (hG : byte G) (hD : byte D) (w : World) :
 Calls Try.prog 59 #[(.agg (drC p m G D).toArray)] w fun e w' => e = .returned (.agg (drC p m G D).toArray) ∧ Below w.heap.size w w' := by
 go_enter Try.func59, Try.ntmps59
 go_upto_region 1 with (fail)
 rw [← drC_zero]
 obtain ⟨W1, hwo⟩ : ∃ v : World, v = ((w.alloc (.cells (drC p m G D).toArray 55)).alloc (.cells (drC 0 (fun _ => 0) (fun _ => 0) (fun _ => 0)).toArray 58)) := ⟨_, rfl⟩
 have B0 : Row W1 (w.heap.size) 55 (drC p m G D).toArray := by subst hwo; have := ((Row.new w 55 (drC p m G D).toArray).alloc (.cells (drC 0 (fun _ => 0) (fun _ => 0) (fun _ => 0)).toArray 58)); simpa using this
 have B1 : Row W1 (w.heap.size + 1) 58 (drC 0 (fun _ => 0) (fun _ => 0) (fun _ => 0)).toArray := by subst hwo; have := (Row.new (w.alloc (.cells (drC p m G D).toArray 55)) 58 (drC 0 (fun _ => 0) (fun _ => 0) (fun _ => 0)).toArray); simpa using this
 have hb : Below w.heap.size w W1 := by subst hwo; exact (((Below.refl _ _).alloc (Nat.le_refl _) _).alloc (by simp) _)
 rw [← hwo]
 clear hwo
 go_upto_region 2 with (first | rw [← z64] | rw [← drC_zero])
 have lt_B0 := B0.lt
 have lt_B1 := B1.lt
 have lhb := hb.size
 obtain ⟨W2, hwo, hzQ⟩ : ∃ v : World, v = (W1.alloc (.cells (drC 0 (fun _ => 0) (fun _ => 0) (fun _ => 0)).toArray 58)) ∧ Row v (w.heap.size) 55 (drC p m G D).toArray ∧ Row v (w.heap.size + 1) 58 (drC 0 (fun _ => 0) (fun _ => 0) (fun _ => 0)).toArray ∧ Row v (W1.heap.size) 58 (drC 0 (fun _ => 0) (fun _ => 0) (fun _ => 0)).toArray ∧ Below w.heap.size w v := ⟨_, rfl, (B0.alloc (.cells (drC 0 (fun _ => 0) (fun _ => 0) (fun _ => 0)).toArray 58)), (B1.alloc (.cells (drC 0 (fun _ => 0) (fun _ => 0) (fun _ => 0)).toArray 58)), (Row.new W1 58 (drC 0 (fun _ => 0) (fun _ => 0) (fun _ => 0)).toArray), (hb.alloc (by have := hb.size; simp; omega) (.cells (drC 0 (fun _ => 0) (fun _ => 0) (fun _ => 0)).toArray 58))⟩
 rw [← hwo]
 clear hwo B0 B1 hb
 obtain ⟨B0, B1, B2, hb⟩ := hzQ
 obtain ⟨N1, hNN⟩ : ∃ n : Nat, n = W1.heap.size := ⟨_, rfl⟩
 rw [← hNN] at lt_B0 lt_B1 lhb B2 ⊢
 clear hNN
 have zN1_0 := lt_B0
 have zN1_1 := lt_B1
 have zN1 := lhb
 clear lt_B0 lt_B1 lhb
 try simp only [Act.put, pA, pB, pC]
 have cc3 := B2.cell (i := 0) (drC_at _ _ _ _)
 have zz3 := B2.frozen 0
 go_upto_region 3 with (first | rw [← z64] | (refine wpList_load_rowc rfl 2 (.tmp 4) rfl _ 0 rfl 55 _ (B0) (.int .i64 p) (drC_at _ _ _ _) _ Try.underlying2 rfl ?_))
 clear cc3 zz3
 obtain ⟨W3, hwo, hzQ⟩ : ∃ v : World, v = (W2.setCell ⟨N1, 0, none⟩ (.int .i64 p)) ∧ Row v (w.heap.size) 55 (drC p m G D).toArray ∧ Row v (w.heap.size + 1) 58 (drC 0 (fun _ => 0) (fun _ => 0) (fun _ => 0)).toArray ∧ Row v (N1) 58 (drC p (fun _ => 0) (fun _ => 0) (fun _ => 0)).toArray ∧ Below w.heap.size w v := ⟨_, rfl, (B0.setOther (by dsimp only; omega)), (B1.setOther (by dsimp only; omega)), (show Row _ _ _ (drC p (fun _ => 0) (fun _ => 0) (fun _ => 0)).toArray by rw [← (drC_set _ _ _ _ _)]; exact (B2).set), (hb.setCell (by show w.heap.size ≤ (N1); omega) _)⟩
 rw [← hwo]
 clear hwo B0 B1 B2 hb
 obtain ⟨B0, B1, B2, hb⟩ := hzQ
 try simp only [Act.put, pA, pB, pC]
 have lt_B0 := B0.lt
 have lt_B1 := B1.lt
 have lt_B2 := B2.lt
 go_upto_region 4 with (first | rw [← z64] | (refine wpList_load_mid rfl 22 (.tmp 7) rfl _ 1 rfl (bl 64 m) _ (B0.drm) Try.underlying22 rfl (by rw [zl]; exact Try.size22) ?_) | (go_at_call 28; with_reducible refine (toPoly_any m hm _).mono ?_; rintro e W4 ⟨rfl, hW4⟩; replace B0 := B0.zw hW4; replace B1 := B1.zw hW4; replace B2 := B2.zw hW4; replace hb := (hb).trans (hW4.mono (hb).size)) | (refine wpList_store_part rfl 24 (.tmp 10) (.tmp 9) rfl _ 1 (m) rfl rfl 58 _ (drC p m (fun _ => 0) (fun _ => 0)).toArray (B2) (drC_m _ _ _ _ _) (by first | decide | simp [drC_len]) Try.size24 ?_; try simp only [Act.put]))
 obtain ⟨W5, hwo, hzQ⟩ : ∃ v : World, v = (W4.setRow (N1) (drC p m (fun _ => 0) (fun _ => 0)).toArray) ∧ Row v (w.heap.size) 55 (drC p m G D).toArray ∧ Row v (w.heap.size + 1) 58 (drC 0 (fun _ => 0) (fun _ => 0) (fun _ => 0)).toArray ∧ Row v (N1) 58 (drC p m (fun _ => 0) (fun _ => 0)).toArray ∧ Below w.heap.size w v := ⟨_, rfl, (B0.rowOther (by omega)), (B1.rowOther (by omega)), (B2.row (drC p m (fun _ => 0) (fun _ => 0)).toArray), (zr hb (by omega) _)⟩
 rw [← hwo]
 clear hwo B0 B1 B2 hb
 obtain ⟨B0, B1, B2, hb⟩ := hzQ
 try simp only [Act.put, pA, pB, pC]
 have lt_B0 := B0.lt
 have lt_B1 := B1.lt
 have lt_B2 := B2.lt
 go_upto_region 5 with (first | rw [← z64] | (refine wpList_load_mid rfl 22 (.tmp 11) rfl _ 65 rfl (bl 64 G) _ (B0.drg) Try.underlying22 rfl (by rw [zl]; exact Try.size22) ?_) | (go_at_call 28; with_reducible refine (toPoly_any G hG _).mono ?_; rintro e W6 ⟨rfl, hW6⟩; replace B0 := B0.zw hW6; replace B1 := B1.zw hW6; replace B2 := B2.zw hW6; replace hb := (hb).trans (hW6.mono (hb).size)) | (refine wpList_store_part rfl 24 (.tmp 14) (.tmp 13) rfl _ 65 (G) rfl rfl 58 _ (drC p m G (fun _ => 0)).toArray (B2) (drC_g _ _ _ _ _) (by first | decide | simp [drC_len]) Try.size24 ?_; try simp only [Act.put]))
 obtain ⟨W7, hwo, hzQ⟩ : ∃ v : World, v = (W6.setRow (N1) (drC p m G (fun _ => 0)).toArray) ∧ Row v (w.heap.size) 55 (drC p m G D).toArray ∧ Row v (w.heap.size + 1) 58 (drC 0 (fun _ => 0) (fun _ => 0) (fun _ => 0)).toArray ∧ Row v (N1) 58 (drC p m G (fun _ => 0)).toArray ∧ Below w.heap.size w v := ⟨_, rfl, (B0.rowOther (by omega)), (B1.rowOther (by omega)), (B2.row (drC p m G (fun _ => 0)).toArray), (zr hb (by omega) _)⟩
 rw [← hwo]
 clear hwo B0 B1 B2 hb
 obtain ⟨B0, B1, B2, hb⟩ := hzQ
 try simp only [Act.put, pA, pB, pC]
 have lt_B0 := B0.lt
 have lt_B1 := B1.lt
 have lt_B2 := B2.lt
 go_upto_region 6 with (first | rw [← z64] | (refine wpList_load_mid rfl 22 (.tmp 15) rfl _ 129 rfl (bl 64 D) _ (B0.drd) Try.underlying22 rfl (by rw [zl]; exact Try.size22) ?_) | (go_at_call 28; with_reducible refine (toPoly_any D hD _).mono ?_; rintro e W8 ⟨rfl, hW8⟩; replace B0 := B0.zw hW8; replace B1 := B1.zw hW8; replace B2 := B2.zw hW8; replace hb := (hb).trans (hW8.mono (hb).size)) | (refine wpList_store_part rfl 24 (.tmp 18) (.tmp 17) rfl _ 129 (D) rfl rfl 58 _ (drC p m G D).toArray (B2) (drC_d _ _ _ _ _) (by first | decide | simp [drC_len]) Try.size24 ?_; try simp only [Act.put]))
 obtain ⟨W9, hwo, hzQ⟩ : ∃ v : World, v = (W8.setRow (N1) (drC p m G D).toArray) ∧ Row v (w.heap.size) 55 (drC p m G D).toArray ∧ Row v (w.heap.size + 1) 58 (drC 0 (fun _ => 0) (fun _ => 0) (fun _ => 0)).toArray ∧ Row v (N1) 58 (drC p m G D).toArray ∧ Below w.heap.size w v := ⟨_, rfl, (B0.rowOther (by omega)), (B1.rowOther (by omega)), (B2.row (drC p m G D).toArray), (zr hb (by omega) _)⟩
 rw [← hwo]
 clear hwo B0 B1 B2 hb
 obtain ⟨B0, B1, B2, hb⟩ := hzQ
 try simp only [Act.put, pA, pB, pC]
 have lt_B0 := B0.lt
 have lt_B1 := B1.lt
 have lt_B2 := B2.lt
 go_wp2_with (first | rw [← z64] | (refine zlr rfl 58 (.tmp 3) rfl _ rfl 58 (drC p m G D).toArray (B2) _ Try.underlying58 rfl 193 Try.size58 (by simp [drC_len]) ?_) | (refine wpList_store_rowv rfl 58 (.tmp 2) (.tmp 19) rfl _ rfl (drC p m G D).toArray rfl 58 _ (B1) 193 Try.size58 (by simp [drC_len]) (by simp [drC_len]) (drC_all _ _ _ _) ?_; try simp only [Act.put]))
 obtain ⟨W10, hwo, hzQ⟩ : ∃ v : World, v = (W9.setRow (w.heap.size + 1) (drC p m G D).toArray) ∧ Row v (w.heap.size) 55 (drC p m G D).toArray ∧ Row v (w.heap.size + 1) 58 (drC p m G D).toArray ∧ Row v (N1) 58 (drC p m G D).toArray ∧ Below w.heap.size w v := ⟨_, rfl, (B0.rowOther (by omega)), (B1.row (drC p m G D).toArray), (B2.rowOther (by omega)), (zr hb (by omega) _)⟩
 rw [← hwo]
 clear hwo B0 B1 B2 hb
 obtain ⟨B0, B1, B2, hb⟩ := hzQ
 try simp only [Act.put, pA, pB, pC]
 refine bodyPost_ret (results_row rfl _ _ _ _ _ rfl B1 _ Try.underlying58 rfl (by rw [Try.size58]; simp [drC_len])) rfl ⟨rfl, hb⟩
theorem drField_any (p : Int) (m G D : Nat → Nat) (w : World) :
 Calls Try.prog 146 #[(.agg (drC p m G D).toArray)] w fun e w' => e = .returned (.agg (fdC p m).toArray) ∧ Below w.heap.size w w' := by
 go_enter Try.func146, Try.ntmps146
 go_upto_region 1 with (fail)
 rw [← fdC_zero]
 obtain ⟨W1, hwo⟩ : ∃ v : World, v = ((w.alloc (.cells (drC p m G D).toArray 58)).alloc (.cells (fdC 0 (fun _ => 0)).toArray 96)) := ⟨_, rfl⟩
 have B0 : Row W1 (w.heap.size) 58 (drC p m G D).toArray := by subst hwo; have := ((Row.new w 58 (drC p m G D).toArray).alloc (.cells (fdC 0 (fun _ => 0)).toArray 96)); simpa using this
 have B1 : Row W1 (w.heap.size + 1) 96 (fdC 0 (fun _ => 0)).toArray := by subst hwo; have := (Row.new (w.alloc (.cells (drC p m G D).toArray 58)) 96 (fdC 0 (fun _ => 0)).toArray); simpa using this
 have hb : Below w.heap.size w W1 := by subst hwo; exact (((Below.refl _ _).alloc (Nat.le_refl _) _).alloc (by simp) _)
 rw [← hwo]
 clear hwo
 have lt_B0 := B0.lt
 have lt_B1 := B1.lt
 go_wp2_with (first | rw [← z64] | (refine wpList_load_rowc rfl 2 (.tmp 3) rfl _ 0 rfl 58 _ (B0) (.int .i64 p) (drC_at _ _ _ _) _ Try.underlying2 rfl ?_) | (refine wpList_load_mid rfl 24 (.tmp 5) rfl _ 1 rfl (bl 64 m) _ (B0.drm) Try.underlying24 rfl (by rw [zl]; exact Try.size24) ?_) | (refine zbo rfl 96 _ rfl (fdC p m).toArray (by rw [Array.toList_map]; exact built_fd p m) ?_) | (refine wpList_store_rowv rfl 96 (.tmp 2) (.tmp 7) rfl _ rfl (fdC p m).toArray rfl 96 _ (B1) 65 Try.size96 (by simp [fdC_len]) (by simp [fdC_len]) (fdC_all _ _) ?_; try simp only [Act.put]))
 obtain ⟨W2, hwo, hzQ⟩ : ∃ v : World, v = (W1.setRow (w.heap.size + 1) (fdC p m).toArray) ∧ Row v (w.heap.size) 58 (drC p m G D).toArray ∧ Row v (w.heap.size + 1) 96 (fdC p m).toArray ∧ Below w.heap.size w v := ⟨_, rfl, (B0.rowOther (by omega)), (B1.row (fdC p m).toArray), (zr hb (by omega) _)⟩
 rw [← hwo]
 clear hwo B0 B1 hb
 obtain ⟨B0, B1, hb⟩ := hzQ
 try simp only [Act.put, pA, pB, pC]
 refine bodyPost_ret (results_row rfl _ _ _ _ _ rfl B1 _ Try.underlying96 rfl (by rw [Try.size96]; simp [fdC_len])) rfl ⟨rfl, hb⟩
theorem impl_IsDrinfeld_any (p : Int) (m G D : Nat → Nat) (hm : byte m) (hG : byte G) (hD : byte D) (w : World) :
 Calls Try.prog 60 #[(.agg (drC p m G D).toArray)] w fun e w' => e = .returned (.bool (drB p m G D)) ∧ Below w.heap.size w w' := by
 have HFD := Lib.hid (fun W => drField_any p m G D W)
 have HFL := Lib.hid (fun W => impl_IsField_any p m hm W)
 have HRG := Lib.hid (fun W => isResidue_any p m G hm hG W)
 have HRD := Lib.hid (fun W => isResidue_any p m D hm hD W)
 go_enter Try.func60, Try.ntmps60
 go_upto_region 1 with (fail)
 obtain ⟨W1, hwo⟩ : ∃ v : World, v = (w.alloc (.cells (drC p m G D).toArray 58)) := ⟨_, rfl⟩
 have B0 : Row W1 (w.heap.size) 58 (drC p m G D).toArray := by subst hwo; have := (Row.new w 58 (drC p m G D).toArray); simpa using this
 have hb : Below w.heap.size w W1 := by subst hwo; exact ((Below.refl _ _).alloc (Nat.le_refl _) _)
 rw [← hwo]
 clear hwo
 have lt_B0 := B0.lt
 go_upto_region 2 with (first | rw [← z64] | rw [← fdC_zero] | (refine zlr rfl 58 (.tmp 1) rfl _ rfl 58 (drC p m G D).toArray (B0) _ Try.underlying58 rfl 193 Try.size58 (by simp [drC_len]) ?_) | (go_at_call 146; refine (HFD.out _).mono ?_; rintro e W2 ⟨rfl, hW2⟩; replace B0 := B0.zw hW2; replace hb := (hb).trans (hW2.mono (hb).size)) | (refine wpList_store_rowv rfl 96 (.tmp 3) (.tmp 5) rfl _ rfl (fdC p m).toArray rfl 96 _ ((Row.new W2 96 (fdC 0 (fun _ => 0)).toArray)) 65 Try.size96 (by simp [fdC_len]) (by simp [fdC_len]) (fdC_all _ _) ?_; try simp only [Act.put]))
 have lt_B0 := B0.lt
 have lhb := hb.size
 obtain ⟨W3, hwo, hzQ⟩ : ∃ v : World, v = ((W2.alloc (.cells (fdC 0 (fun _ => 0)).toArray 96)).setRow (W2.heap.size) (fdC p m).toArray) ∧ Row v (w.heap.size) 58 (drC p m G D).toArray ∧ Row v (W2.heap.size) 96 (fdC p m).toArray ∧ Below w.heap.size w v := ⟨_, rfl, ((B0.alloc (.cells (fdC 0 (fun _ => 0)).toArray 96)).rowOther (by omega)), ((Row.new W2 96 (fdC 0 (fun _ => 0)).toArray).row (fdC p m).toArray), (zr (hb.alloc (by have := hb.size; simp; omega) (.cells (fdC 0 (fun _ => 0)).toArray 96)) (by omega) _)⟩
 rw [← hwo]
 clear hwo B0 hb
 obtain ⟨B0, B1, hb⟩ := hzQ
 obtain ⟨N1, hNN⟩ : ∃ n : Nat, n = W2.heap.size := ⟨_, rfl⟩
 rw [← hNN] at lt_B0 lhb B1 ⊢
 clear hNN
 have zN1_0 := lt_B0
 have zN1 := lhb
 clear lt_B0 lhb
 try simp only [Act.put, pA, pB, pC]
 cases hf : flV p m with
 | false =>
  have HV := Lib.hid (drB_1 (G := G) (D := D) hf)
  go_wp2_with (first | (refine wpList_load_rowc rfl 2 (.tmp 6) rfl _ 0 rfl 96 _ (B1) (.int .i64 p) (fdC_at _ _) _ Try.underlying2 rfl ?_) | (refine wpList_load_mid rfl 24 (.tmp 8) rfl _ 1 rfl (bl 64 m) _ (B1.fd) Try.underlying24 rfl (by rw [zl]; exact Try.size24) ?_) | (go_at_call 113; refine (HFL.out _).mono ?_; rintro e W4 ⟨rfl, hW4⟩; replace B0 := B0.zw hW4; replace B1 := B1.zw hW4; replace hb := (hb).trans (hW4.mono (hb).size); rw [hf]))
  go_ret
  exact ⟨by rw [HV.out]; rfl, hb⟩
 | true =>
  cases hg : rsB p m G with
  | false =>
   have HV := Lib.hid (drB_2 (D := D) hg)
   go_wp2_with (first | (refine wpList_load_rowc rfl 2 (.tmp 6) rfl _ 0 rfl 96 _ (B1) (.int .i64 p) (fdC_at _ _) _ Try.underlying2 rfl ?_) | (refine wpList_load_mid rfl 24 (.tmp 8) rfl _ 1 rfl (bl 64 m) _ (B1.fd) Try.underlying24 rfl (by rw [zl]; exact Try.size24) ?_) | (go_at_call 113; refine (HFL.out _).mono ?_; rintro e W4 ⟨rfl, hW4⟩; replace B0 := B0.zw hW4; replace B1 := B1.zw hW4; replace hb := (hb).trans (hW4.mono (hb).size); rw [hf]) | (refine wpList_load_rowv_g rfl 96 (.tmp 3) rfl _ rfl 96 (fdC p m).toArray (B1) _ Try.underlying96 rfl 65 Try.size96 (by simp [fdC_len]) ?_) | (refine wpList_load_mid_g rfl 24 (.tmp 13) rfl _ 65 rfl (bl 64 G) _ (B0.drg) Try.underlying24 rfl (by rw [zl]; exact Try.size24) ?_) | (go_at_call 114; with_reducible refine (HRG.out _).mono ?_; rintro e W5 ⟨rfl, hW5⟩; replace B0 := B0.zw hW5; replace B1 := B1.zw hW5; replace hb := (hb).trans (hW5.mono (hb).size); try rw [hg]))
   go_ret
   exact ⟨by rw [HV.out]; rfl, hb⟩
  | true =>
   cases hd : rsB p m D with
   | false =>
    have HV := Lib.hid (drB_3 (G := G) hd)
    go_wp2_with (first | (refine wpList_load_rowc rfl 2 (.tmp 6) rfl _ 0 rfl 96 _ (B1) (.int .i64 p) (fdC_at _ _) _ Try.underlying2 rfl ?_) | (refine wpList_load_mid rfl 24 (.tmp 8) rfl _ 1 rfl (bl 64 m) _ (B1.fd) Try.underlying24 rfl (by rw [zl]; exact Try.size24) ?_) | (go_at_call 113; refine (HFL.out _).mono ?_; rintro e W4 ⟨rfl, hW4⟩; replace B0 := B0.zw hW4; replace B1 := B1.zw hW4; replace hb := (hb).trans (hW4.mono (hb).size); rw [hf]) | (refine wpList_load_rowv_g rfl 96 (.tmp 3) rfl _ rfl 96 (fdC p m).toArray (B1) _ Try.underlying96 rfl 65 Try.size96 (by simp [fdC_len]) ?_) | (refine wpList_load_mid_g rfl 24 (.tmp 13) rfl _ 65 rfl (bl 64 G) _ (B0.drg) Try.underlying24 rfl (by rw [zl]; exact Try.size24) ?_) | (go_at_call 114; with_reducible refine (HRG.out _).mono ?_; rintro e W5 ⟨rfl, hW5⟩; replace B0 := B0.zw hW5; replace B1 := B1.zw hW5; replace hb := (hb).trans (hW5.mono (hb).size); try rw [hg]) | (refine wpList_load_rowv_g rfl 96 (.tmp 3) rfl _ rfl 96 (fdC p m).toArray (B1) _ Try.underlying96 rfl 65 Try.size96 (by simp [fdC_len]) ?_) | (refine wpList_load_mid_g rfl 24 (.tmp 19) rfl _ 129 rfl (bl 64 D) _ (B0.drd) Try.underlying24 rfl (by rw [zl]; exact Try.size24) ?_) | (go_at_call 114; with_reducible refine (HRD.out _).mono ?_; rintro e W6 ⟨rfl, hW6⟩; replace B0 := B0.zw hW6; replace B1 := B1.zw hW6; replace hb := (hb).trans (hW6.mono (hb).size); try rw [hd]))
    go_ret
    exact ⟨by rw [HV.out]; rfl, hb⟩
   | true =>
    cases hz : eqN 64 D (fun _ => 0) with
    | true =>
     have HV := Lib.hid (drB_4 (p := p) (m := m) (G := G) hz)
     have hgd := Try.noGuard24
     have heq := fun W => zeb (P := Try.prog) W 9998 24 5 64 D (fun _ => 0) Try.underlying24 Try.underlying5 Try.size5
     rw [hz] at heq
     go_wp2_with (first | rw [← z64] | (refine wpList_load_rowc rfl 2 (.tmp 6) rfl _ 0 rfl 96 _ (B1) (.int .i64 p) (fdC_at _ _) _ Try.underlying2 rfl ?_) | (refine wpList_load_mid rfl 24 (.tmp 8) rfl _ 1 rfl (bl 64 m) _ (B1.fd) Try.underlying24 rfl (by rw [zl]; exact Try.size24) ?_) | (go_at_call 113; refine (HFL.out _).mono ?_; rintro e W4 ⟨rfl, hW4⟩; replace B0 := B0.zw hW4; replace B1 := B1.zw hW4; replace hb := (hb).trans (hW4.mono (hb).size); rw [hf]) | (refine wpList_load_rowv_g rfl 96 (.tmp 3) rfl _ rfl 96 (fdC p m).toArray (B1) _ Try.underlying96 rfl 65 Try.size96 (by simp [fdC_len]) ?_) | (refine wpList_load_mid_g rfl 24 (.tmp 13) rfl _ 65 rfl (bl 64 G) _ (B0.drg) Try.underlying24 rfl (by rw [zl]; exact Try.size24) ?_) | (go_at_call 114; with_reducible refine (HRG.out _).mono ?_; rintro e W5 ⟨rfl, hW5⟩; replace B0 := B0.zw hW5; replace B1 := B1.zw hW5; replace hb := (hb).trans (hW5.mono (hb).size); try rw [hg]) | (refine wpList_load_rowv_g rfl 96 (.tmp 3) rfl _ rfl 96 (fdC p m).toArray (B1) _ Try.underlying96 rfl 65 Try.size96 (by simp [fdC_len]) ?_) | (refine wpList_load_mid_g rfl 24 (.tmp 19) rfl _ 129 rfl (bl 64 D) _ (B0.drd) Try.underlying24 rfl (by rw [zl]; exact Try.size24) ?_) | (go_at_call 114; with_reducible refine (HRD.out _).mono ?_; rintro e W6 ⟨rfl, hW6⟩; replace B0 := B0.zw hW6; replace B1 := B1.zw hW6; replace hb := (hb).trans (hW6.mono (hb).size); try rw [hd]) | (refine wpList_load_mid_g rfl 24 (.tmp 24) rfl _ 129 rfl (bl 64 D) _ (B0.drd) Try.underlying24 rfl (by rw [zl]; exact Try.size24) ?_))
     go_ret
     exact ⟨by rw [HV.out]; rfl, hb⟩
    | false =>
     have HV := Lib.hid (drB_5 hf hg hd hz)
     have hgd := Try.noGuard24
     have heq := fun W => zeb (P := Try.prog) W 9998 24 5 64 D (fun _ => 0) Try.underlying24 Try.underlying5 Try.size5
     rw [hz] at heq
     go_wp2_with (first | rw [← z64] | (refine wpList_load_rowc rfl 2 (.tmp 6) rfl _ 0 rfl 96 _ (B1) (.int .i64 p) (fdC_at _ _) _ Try.underlying2 rfl ?_) | (refine wpList_load_mid rfl 24 (.tmp 8) rfl _ 1 rfl (bl 64 m) _ (B1.fd) Try.underlying24 rfl (by rw [zl]; exact Try.size24) ?_) | (go_at_call 113; refine (HFL.out _).mono ?_; rintro e W4 ⟨rfl, hW4⟩; replace B0 := B0.zw hW4; replace B1 := B1.zw hW4; replace hb := (hb).trans (hW4.mono (hb).size); rw [hf]) | (refine wpList_load_rowv_g rfl 96 (.tmp 3) rfl _ rfl 96 (fdC p m).toArray (B1) _ Try.underlying96 rfl 65 Try.size96 (by simp [fdC_len]) ?_) | (refine wpList_load_mid_g rfl 24 (.tmp 13) rfl _ 65 rfl (bl 64 G) _ (B0.drg) Try.underlying24 rfl (by rw [zl]; exact Try.size24) ?_) | (go_at_call 114; with_reducible refine (HRG.out _).mono ?_; rintro e W5 ⟨rfl, hW5⟩; replace B0 := B0.zw hW5; replace B1 := B1.zw hW5; replace hb := (hb).trans (hW5.mono (hb).size); try rw [hg]) | (refine wpList_load_rowv_g rfl 96 (.tmp 3) rfl _ rfl 96 (fdC p m).toArray (B1) _ Try.underlying96 rfl 65 Try.size96 (by simp [fdC_len]) ?_) | (refine wpList_load_mid_g rfl 24 (.tmp 19) rfl _ 129 rfl (bl 64 D) _ (B0.drd) Try.underlying24 rfl (by rw [zl]; exact Try.size24) ?_) | (go_at_call 114; with_reducible refine (HRD.out _).mono ?_; rintro e W6 ⟨rfl, hW6⟩; replace B0 := B0.zw hW6; replace B1 := B1.zw hW6; replace hb := (hb).trans (hW6.mono (hb).size); try rw [hd]) | (refine wpList_load_mid_g rfl 24 (.tmp 24) rfl _ 129 rfl (bl 64 D) _ (B0.drd) Try.underlying24 rfl (by rw [zl]; exact Try.size24) ?_))
     go_ret
     exact ⟨by rw [HV.out]; rfl, hb⟩
theorem l06Is_any (p : Int) (m G D : Nat → Nat) (hm : byte m) (hG : byte G) (hD : byte D) (w : World) :
 Calls Try.prog 145 #[(.agg (drC p m G D).toArray)] w fun e w' => e = .returned (.bool (drB p m G D)) ∧ Below w.heap.size w w' := by
 go_enter Try.func145, Try.ntmps145
 go_upto_region 1 with (fail)
 obtain ⟨W1, hwo⟩ : ∃ v : World, v = (w.alloc (.cells (drC p m G D).toArray 58)) := ⟨_, rfl⟩
 have B0 : Row W1 (w.heap.size) 58 (drC p m G D).toArray := by subst hwo; have := (Row.new w 58 (drC p m G D).toArray); simpa using this
 have hb : Below w.heap.size w W1 := by subst hwo; exact ((Below.refl _ _).alloc (Nat.le_refl _) _)
 rw [← hwo]
 clear hwo
 go_upto_region 2 with (first | (refine wpList_load_rowc rfl 2 (.tmp 5) rfl _ 0 rfl 58 _ (B0) (.int .i64 p) (drC_at _ _ _ _) _ Try.underlying2 rfl ?_))
 rcases codeL_two p [m, G, D] with hc | hc
 · obtain ⟨hpp, hall⟩ := codeL_zero hc
   have hom := hall m (by simp)
   have hoG := hall G (by simp)
   have hoD := hall D (by simp)
   have hmB := monUp_B (c := 4) (f := m)
   have hRG : rsB p m G = decide (deg G < deg m) := by unfold rsB; rw [hoG]; rfl
   have hRD : rsB p m D = decide (deg D < deg m) := by unfold rsB; rw [hoD]; rfl
   clear hall
   cases hmo : monB m with
   | false =>
    have HV := Lib.hid (drB_1 (G := G) (D := D) (flV_2 (p := p) (by rw [hmB, hmo]; rfl)))
    clear hmB hRG hRD
    have hmo' := hmo
    go_upto_region 3 with (first | (refine wpList_load_mid rfl 24 (.tmp 8) rfl _ 1 rfl (bl 64 m) _ (B0.drm) Try.underlying24 rfl (by rw [zl]; exact Try.size24) ?_) | (refine wpList_load_mid rfl 24 (.tmp 10) rfl _ 65 rfl (bl 64 G) _ (B0.drg) Try.underlying24 rfl (by rw [zl]; exact Try.size24) ?_) | (refine wpList_load_mid rfl 24 (.tmp 12) rfl _ 129 rfl (bl 64 D) _ (B0.drd) Try.underlying24 rfl (by rw [zl]; exact Try.size24) ?_) | (refine wpList_build_polys rfl 40 _ [m, G, D] rfl 24 rfl Try.underlying40 Try.elem24 (by simp) (by simp) rfl ?_; intro wa hwa hps hba; clear hwa; replace B0 := B0.zw hba; replace hb := hb.trans (hba.mono hb.size)) | (go_at_call 122; refine (l01Code_any p [m, G, D] (by simp [hm, hG, hD]) _ _ hps (by simp)).mono ?_; rintro e W8 ⟨rfl, hbb⟩; replace B0 := B0.zw hbb; replace hb := hb.trans (hbb.mono hb.size); rw [hc]) | (refine wpList_load_mid_g rfl 24 (.tmp 18) rfl _ 1 rfl (bl 64 m) _ (B0.drm) Try.underlying24 rfl (by rw [zl]; exact Try.size24) ?_) | (go_at_call 123; refine (l01Monic_any m hm _).mono ?_; rintro e W9 ⟨rfl, hbc⟩; replace B0 := B0.zw hbc; replace hb := hb.trans (hbc.mono hb.size); rw [hmo]))
    go_wp2_with fail
    go_ret
    exact ⟨by rw [HV.out]; rfl, hb⟩
   | true =>
    obtain ⟨n, rfl, hpr, lm⟩ := okA_nat hom
    have hmo' := hmo
    go_upto_region 4 with (first | (refine wpList_load_mid rfl 24 (.tmp 8) rfl _ 1 rfl (bl 64 m) _ (B0.drm) Try.underlying24 rfl (by rw [zl]; exact Try.size24) ?_) | (refine wpList_load_mid rfl 24 (.tmp 10) rfl _ 65 rfl (bl 64 G) _ (B0.drg) Try.underlying24 rfl (by rw [zl]; exact Try.size24) ?_) | (refine wpList_load_mid rfl 24 (.tmp 12) rfl _ 129 rfl (bl 64 D) _ (B0.drd) Try.underlying24 rfl (by rw [zl]; exact Try.size24) ?_) | (refine wpList_build_polys rfl 40 _ [m, G, D] rfl 24 rfl Try.underlying40 Try.elem24 (by simp) (by simp) rfl ?_; intro wa hwa hps hba; clear hwa; replace B0 := B0.zw hba; replace hb := hb.trans (hba.mono hb.size)) | (go_at_call 122; refine (l01Code_any (n : Int) [m, G, D] (by simp [hm, hG, hD]) _ _ hps (by simp)).mono ?_; rintro e W8 ⟨rfl, hbb⟩; replace B0 := B0.zw hbb; replace hb := hb.trans (hbb.mono hb.size); rw [hc]) | (refine wpList_load_mid_g rfl 24 (.tmp 18) rfl _ 1 rfl (bl 64 m) _ (B0.drm) Try.underlying24 rfl (by rw [zl]; exact Try.size24) ?_) | (go_at_call 123; refine (l01Monic_any m hm _).mono ?_; rintro e W9 ⟨rfl, hbc⟩; replace B0 := B0.zw hbc; replace hb := hb.trans (hbc.mono hb.size); rw [hmo]))
    go_upto_region 5 with (first | (refine wpList_load_mid rfl 24 (.tmp 23) rfl _ 1 rfl (bl 64 m) _ (B0.drm) Try.underlying24 rfl (by rw [zl]; exact Try.size24) ?_) | (go_at_call 124; with_reducible refine (l01Deg_any m _).mono ?_; rintro e W21 ⟨rfl, hW21⟩; replace B0 := B0.zw hW21; replace hb := (hb).trans (hW21.mono (hb).size)))
    by_cases hr : 1 ≤ deg m ∧ deg m ≤ 4
    · have hFL := flV_3 hom (by rw [hmB, hmo]; simp; omega)
      have hmm := hmo
      unfold monB at hmm
      simp only [decide_eq_true_eq] at hmm
      obtain ⟨d, hdg⟩ : ∃ d : Nat, deg m = (d : Int) := ⟨(deg m).toNat, by omega⟩
      have hmon : mon m d := ⟨hdg, by have := hmm.2; rwa [hdg, Int.toNat_natCast] at this⟩
      have HI := Lib.hid (fun W => l01Irreducible_any n m d W hpr lm hmon (by omega))
      clear hmm hmon hmB hdg
      cases hi : irB n m with
      | false =>
       have HV := Lib.hid (drB_1 (G := G) (D := D) (by rw [hFL, hi]))
       clear hFL hRG hRD
       go_wp2_with (first | (go_at_call 98; refine (l01In_any _ _ _ _).mono ?_; rintro e wS ⟨rfl, rfl⟩; rw [show decide ((1 : Int) ≤ deg m ∧ deg m ≤ 4) = true by simp; omega]) | (refine wpList_load_mid_g rfl 24 (.tmp 30) rfl _ 1 rfl (bl 64 m) _ (B0.drm) Try.underlying24 rfl (by rw [zl]; exact Try.size24) ?_) | (go_at_call 125; refine (HI.out _).mono ?_; rintro e W22 ⟨rfl, hW22⟩; replace B0 := B0.zw hW22; replace hb := (hb).trans (hW22.mono (hb).size); rw [hi]))
       go_ret
       exact ⟨by rw [HV.out]; rfl, hb⟩
      | true =>
       by_cases hg : deg G < deg m
       · by_cases hd : deg D < deg m
         · cases hz : eqN 64 D (fun _ => 0) with
           | true =>
            have HV := Lib.hid (drB_4 (p := (n : Int)) (m := m) (G := G) hz)
            have hgd := Try.noGuard24
            have heq := fun W => zeb (P := Try.prog) W 9998 24 5 64 D (fun _ => 0) Try.underlying24 Try.underlying5 Try.size5
            rw [hz] at heq
            clear hFL hRG hRD
            go_wp2_with (first | rw [← z64] | (go_at_call 98; refine (l01In_any _ _ _ _).mono ?_; rintro e wS ⟨rfl, rfl⟩; rw [show decide ((1 : Int) ≤ deg m ∧ deg m ≤ 4) = true by simp; omega]) | (refine wpList_load_mid_g rfl 24 (.tmp 30) rfl _ 1 rfl (bl 64 m) _ (B0.drm) Try.underlying24 rfl (by rw [zl]; exact Try.size24) ?_) | (go_at_call 125; refine (HI.out _).mono ?_; rintro e W22 ⟨rfl, hW22⟩; replace B0 := B0.zw hW22; replace hb := (hb).trans (hW22.mono (hb).size); rw [hi]) | (refine wpList_load_mid_g rfl 24 (.tmp 35) rfl _ 65 rfl (bl 64 G) _ (B0.drg) Try.underlying24 rfl (by rw [zl]; exact Try.size24) ?_) | (go_at_call 124; with_reducible refine (l01Deg_any G _).mono ?_; rintro e W23 ⟨rfl, hW23⟩; replace B0 := B0.zw hW23; replace hb := (hb).trans (hW23.mono (hb).size)) | (refine wpList_load_mid_g rfl 24 (.tmp 42) rfl _ 129 rfl (bl 64 D) _ (B0.drd) Try.underlying24 rfl (by rw [zl]; exact Try.size24) ?_) | (go_at_call 124; with_reducible refine (l01Deg_any D _).mono ?_; rintro e W24 ⟨rfl, hW24⟩; replace B0 := B0.zw hW24; replace hb := (hb).trans (hW24.mono (hb).size)) | (refine wpList_load_mid_g rfl 24 (.tmp 49) rfl _ 129 rfl (bl 64 D) _ (B0.drd) Try.underlying24 rfl (by rw [zl]; exact Try.size24) ?_))
            go_ret
            exact ⟨by rw [HV.out]; rfl, hb⟩
           | false =>
            have HV := Lib.hid (drB_5 (by rw [hFL, hi]) (by rw [hRG]; exact decide_eq_true hg) (by rw [hRD]; exact decide_eq_true hd) hz)
            have hgd := Try.noGuard24
            have heq := fun W => zeb (P := Try.prog) W 9998 24 5 64 D (fun _ => 0) Try.underlying24 Try.underlying5 Try.size5
            rw [hz] at heq
            clear hFL hRG hRD
            go_wp2_with (first | rw [← z64] | (go_at_call 98; refine (l01In_any _ _ _ _).mono ?_; rintro e wS ⟨rfl, rfl⟩; rw [show decide ((1 : Int) ≤ deg m ∧ deg m ≤ 4) = true by simp; omega]) | (refine wpList_load_mid_g rfl 24 (.tmp 30) rfl _ 1 rfl (bl 64 m) _ (B0.drm) Try.underlying24 rfl (by rw [zl]; exact Try.size24) ?_) | (go_at_call 125; refine (HI.out _).mono ?_; rintro e W22 ⟨rfl, hW22⟩; replace B0 := B0.zw hW22; replace hb := (hb).trans (hW22.mono (hb).size); rw [hi]) | (refine wpList_load_mid_g rfl 24 (.tmp 35) rfl _ 65 rfl (bl 64 G) _ (B0.drg) Try.underlying24 rfl (by rw [zl]; exact Try.size24) ?_) | (go_at_call 124; with_reducible refine (l01Deg_any G _).mono ?_; rintro e W23 ⟨rfl, hW23⟩; replace B0 := B0.zw hW23; replace hb := (hb).trans (hW23.mono (hb).size)) | (refine wpList_load_mid_g rfl 24 (.tmp 42) rfl _ 129 rfl (bl 64 D) _ (B0.drd) Try.underlying24 rfl (by rw [zl]; exact Try.size24) ?_) | (go_at_call 124; with_reducible refine (l01Deg_any D _).mono ?_; rintro e W24 ⟨rfl, hW24⟩; replace B0 := B0.zw hW24; replace hb := (hb).trans (hW24.mono (hb).size)) | (refine wpList_load_mid_g rfl 24 (.tmp 49) rfl _ 129 rfl (bl 64 D) _ (B0.drd) Try.underlying24 rfl (by rw [zl]; exact Try.size24) ?_))
            go_ret
            exact ⟨by rw [HV.out]; rfl, hb⟩
         skip
         have HV := Lib.hid (drB_3 (p := (n : Int)) (G := G) (by rw [hRD]; exact decide_eq_false hd))
         clear hFL hRG hRD
         go_wp2_with (first | (go_at_call 98; refine (l01In_any _ _ _ _).mono ?_; rintro e wS ⟨rfl, rfl⟩; rw [show decide ((1 : Int) ≤ deg m ∧ deg m ≤ 4) = true by simp; omega]) | (refine wpList_load_mid_g rfl 24 (.tmp 30) rfl _ 1 rfl (bl 64 m) _ (B0.drm) Try.underlying24 rfl (by rw [zl]; exact Try.size24) ?_) | (go_at_call 125; refine (HI.out _).mono ?_; rintro e W22 ⟨rfl, hW22⟩; replace B0 := B0.zw hW22; replace hb := (hb).trans (hW22.mono (hb).size); rw [hi]) | (refine wpList_load_mid_g rfl 24 (.tmp 35) rfl _ 65 rfl (bl 64 G) _ (B0.drg) Try.underlying24 rfl (by rw [zl]; exact Try.size24) ?_) | (go_at_call 124; with_reducible refine (l01Deg_any G _).mono ?_; rintro e W23 ⟨rfl, hW23⟩; replace B0 := B0.zw hW23; replace hb := (hb).trans (hW23.mono (hb).size)) | (refine wpList_load_mid_g rfl 24 (.tmp 42) rfl _ 129 rfl (bl 64 D) _ (B0.drd) Try.underlying24 rfl (by rw [zl]; exact Try.size24) ?_) | (go_at_call 124; with_reducible refine (l01Deg_any D _).mono ?_; rintro e W24 ⟨rfl, hW24⟩; replace B0 := B0.zw hW24; replace hb := (hb).trans (hW24.mono (hb).size)))
         go_ret
         exact ⟨by rw [HV.out]; rfl, hb⟩
       skip
       have HV := Lib.hid (drB_2 (p := (n : Int)) (D := D) (by rw [hRG]; exact decide_eq_false hg))
       clear hFL hRG hRD
       go_wp2_with (first | (go_at_call 98; refine (l01In_any _ _ _ _).mono ?_; rintro e wS ⟨rfl, rfl⟩; rw [show decide ((1 : Int) ≤ deg m ∧ deg m ≤ 4) = true by simp; omega]) | (refine wpList_load_mid_g rfl 24 (.tmp 30) rfl _ 1 rfl (bl 64 m) _ (B0.drm) Try.underlying24 rfl (by rw [zl]; exact Try.size24) ?_) | (go_at_call 125; refine (HI.out _).mono ?_; rintro e W22 ⟨rfl, hW22⟩; replace B0 := B0.zw hW22; replace hb := (hb).trans (hW22.mono (hb).size); rw [hi]) | (refine wpList_load_mid_g rfl 24 (.tmp 35) rfl _ 65 rfl (bl 64 G) _ (B0.drg) Try.underlying24 rfl (by rw [zl]; exact Try.size24) ?_) | (go_at_call 124; with_reducible refine (l01Deg_any G _).mono ?_; rintro e W23 ⟨rfl, hW23⟩; replace B0 := B0.zw hW23; replace hb := (hb).trans (hW23.mono (hb).size)))
       go_ret
       exact ⟨by rw [HV.out]; rfl, hb⟩
    have HV := Lib.hid (drB_1 (G := G) (D := D) (flV_2 (p := (n : Int)) (by rw [hmB, hmo]; simp; omega)))
    clear hmB hRG hRD
    go_wp2_with (first | (go_at_call 98; refine (l01In_any _ _ _ _).mono ?_; rintro e wS ⟨rfl, rfl⟩; rw [show decide ((1 : Int) ≤ deg m ∧ deg m ≤ 4) = false by simp; omega]))
    go_ret
    exact ⟨by rw [HV.out]; rfl, hb⟩
 have HV := Lib.hid (drB_code hc)
 go_upto_region 3 with (first | (refine wpList_load_mid rfl 24 (.tmp 8) rfl _ 1 rfl (bl 64 m) _ (B0.drm) Try.underlying24 rfl (by rw [zl]; exact Try.size24) ?_) | (refine wpList_load_mid rfl 24 (.tmp 10) rfl _ 65 rfl (bl 64 G) _ (B0.drg) Try.underlying24 rfl (by rw [zl]; exact Try.size24) ?_) | (refine wpList_load_mid rfl 24 (.tmp 12) rfl _ 129 rfl (bl 64 D) _ (B0.drd) Try.underlying24 rfl (by rw [zl]; exact Try.size24) ?_) | (refine wpList_build_polys rfl 40 _ [m, G, D] rfl 24 rfl Try.underlying40 Try.elem24 (by simp) (by simp) rfl ?_; intro wa hwa hps hba; clear hwa; replace B0 := B0.zw hba; replace hb := hb.trans (hba.mono hb.size)) | (go_at_call 122; refine (l01Code_any p [m, G, D] (by simp [hm, hG, hD]) _ _ hps (by simp)).mono ?_; rintro e W8 ⟨rfl, hbb⟩; replace B0 := B0.zw hbb; replace hb := hb.trans (hbb.mono hb.size); rw [hc]))
 go_wp2_with fail
 go_ret
 exact ⟨by rw [HV.out]; rfl, hb⟩
theorem spec_IsDrinfeld_any (p : Int) (m G D : Nat → Nat) (hm : byte m) (hG : byte G) (hD : byte D) (w : World) :
 Calls Try.prog 58 #[(.agg (drC p m G D).toArray)] w fun e w' => e = .returned (.bool (drB p m G D)) ∧ Below w.heap.size w w' := by
 have HIS := Lib.hid (fun W => l06Is_any p m G D hm hG hD W)
 go_enter Try.func58, Try.ntmps58
 go_upto_region 1 with (fail)
 obtain ⟨W1, hwo⟩ : ∃ v : World, v = (w.alloc (.cells (drC p m G D).toArray 58)) := ⟨_, rfl⟩
 have B0 : Row W1 (w.heap.size) 58 (drC p m G D).toArray := by subst hwo; have := (Row.new w 58 (drC p m G D).toArray); simpa using this
 have hb : Below w.heap.size w W1 := by subst hwo; exact ((Below.refl _ _).alloc (Nat.le_refl _) _)
 rw [← hwo]
 clear hwo
 go_wp2_with (first | (refine zlr rfl 58 (.tmp 1) rfl _ rfl 58 (drC p m G D).toArray (B0) _ Try.underlying58 rfl 193 Try.size58 (by simp [drC_len]) ?_) | (go_at_call 145; refine (HIS.out _).mono ?_; rintro e W2 ⟨rfl, hW2⟩; replace B0 := B0.zw hW2; replace hb := (hb).trans (hW2.mono (hb).size)))
 go_ret
 exact ⟨rfl, hb⟩
theorem FnExactIsDrinfeld_walk (p : Int) (m G D : Nat → Nat) (hm : byte m) (hG : byte G) (hD : byte D) (w : World) :
 Calls Try.prog 14 #[(.agg (drC p m G D).toArray)] w fun e w' => e = .returned (.bool true) ∧ Below w.heap.size w w' := by
 have HTD := Lib.hid (fun W => toDrinfeld_any p m G D hm hG hD W)
 have HS := Lib.hid (fun W => spec_IsDrinfeld_any p m G D hm hG hD W)
 have HI := Lib.hid (fun W => impl_IsDrinfeld_any p m G D hm hG hD W)
 obtain ⟨V, hV⟩ : ∃ V, V = drB p m G D := ⟨_, rfl⟩
 rw [← hV] at HS HI
 have hne : (V != V) = false := by simp
 clear hV
 go_enter Try.func14, Try.ntmps14
 go_upto_region 1 with (fail)
 obtain ⟨W1, hwo⟩ : ∃ v : World, v = (w.alloc (.cells (drC p m G D).toArray 55)) := ⟨_, rfl⟩
 have B0 : Row W1 (w.heap.size) 55 (drC p m G D).toArray := by subst hwo; have := (Row.new w 55 (drC p m G D).toArray); simpa using this
 have hb : Below w.heap.size w W1 := by subst hwo; exact ((Below.refl _ _).alloc (Nat.le_refl _) _)
 rw [← hwo]
 clear hwo
 go_upto_region 2 with (first | (refine zlr rfl 55 (.tmp 1) rfl _ rfl 55 (drC p m G D).toArray (B0) _ Try.underlying55 rfl 193 Try.size55 (by simp [drC_len]) ?_) | (go_at_call 59; refine (HTD.out _).mono ?_; rintro e W2 ⟨rfl, hW2⟩; replace B0 := B0.zw hW2; replace hb := (hb).trans (hW2.mono (hb).size)) | (go_at_call 58; refine (HS.out _).mono ?_; rintro e W3 ⟨rfl, hW3⟩; replace B0 := B0.zw hW3; replace hb := (hb).trans (hW3.mono (hb).size)))
 go_upto_region 3 with (first | (refine zlr rfl 55 (.tmp 1) rfl _ rfl 55 (drC p m G D).toArray (B0) _ Try.underlying55 rfl 193 Try.size55 (by simp [drC_len]) ?_) | (go_at_call 59; refine (HTD.out _).mono ?_; rintro e W4 ⟨rfl, hW4⟩; replace B0 := B0.zw hW4; replace hb := (hb).trans (hW4.mono (hb).size)) | (go_at_call 60; refine (HI.out _).mono ?_; rintro e W5 ⟨rfl, hW5⟩; replace B0 := B0.zw hW5; replace hb := (hb).trans (hW5.mono (hb).size)))
 go_wp2_with fail
 go_ret
 exact ⟨rfl, hb⟩
end Go.Proofs.Yteloknnooebabaa
