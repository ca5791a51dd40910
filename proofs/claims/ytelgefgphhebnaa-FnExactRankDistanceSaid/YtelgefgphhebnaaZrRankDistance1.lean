/-
  What the rows of this claim rest on: arrays of bytes, walks of the functions, plain mathematics.
-/
import Derived.Test.YtelgefgphhebnaaZr7
import Derived.WalkKit
import Derived.WalkSpells
import Derived.WalkLawsBesides
import Derived.Lib.Hide
import Derived.Laws.Rows
import Derived.Laws.CopyOwn
import Derived.Deep.QuietTactic
import Derived.Deep.WholeRow
import Derived.Deep.Draws
import Derived.Deep.MidRow
import Derived.Deep.CutRange
import Derived.Deep.DeepCutAuto
import Derived.Deep.RegionHeld3
import Derived.BigQuiet
import Derived.BigRegion
import Derived.Laws.Tables
import Derived.Laws.StructEq
import Derived.Test.YtelgefgphhebnaaRows
import Derived.Great.BuildSlice
import Derived.ScopeJumps
import Derived.Deep.CutBlock
import Derived.OwnWalk
import Derived.RangeFuncNested
import Derived.RangeFuncBound
import Derived.RangeFuncCalls
import Derived.RangeFuncLeaves
import Derived.Shelf.Abstract
import Derived.Shelf.RegionOpen
import Derived.OwnWalkIn
import Derived.TacticsInMore
import Derived.LoopNIn
import Derived.LoopIn
import Derived.Maps.OwnOps
import Derived.DeepKeys4
import Derived.Carry
import Derived.Test.YtelgefgphhebnaaProg
import Derived.Deep.Slices
import Derived.OpenShut
import Derived.ProofKit
import Derived.Handy
import Derived.Laws.MakeOwn
section
namespace Go.Proofs.Ytelgefgphhebnaa
open Go Go.RowKit
set_option linter.unusedVariables false
theorem updR_twice (F : Nat → Nat → Nat) (i : Nat) (g : Nat → Nat) : updR (updR F i g) i g = updR F i g := by
 funext r; unfold updR; split <;> rfl
end Go.Proofs.Ytelgefgphhebnaa
end
section
namespace Go.Proofs.Ytelgefgphhebnaa
open Go Go.RowKit
set_option linter.unusedVariables false
set_option linter.unusedSimpArgs false
attribute [local irreducible] deg clr mkP sclP clrA cln ptL puW addK invN
theorem cwV_b (p : Int) (m : Nat → Nat) (Ls : List (List (Nat → Nat))) : cwV p m Ls = 0 ∨ cwV p m Ls = 1 ∨ cwV p m Ls = 2 := by
 unfold cwV; split
 · split <;> simp
 · simp
end Go.Proofs.Ytelgefgphhebnaa
end
section
namespace Go.Proofs.Ytelgefgphhebnaa
open Go Go.RowKit
set_option linter.unusedVariables false
set_option linter.unusedSimpArgs false
section
variable {P : Program}
theorem wpList_build_two {ops : Array Oper} {rest : List Oper} {o : Oper} {a : Act} {w : World} {Q : Exit → Act → World → Prop} (hg : o.guard = none) (t : TypeId) (parts : Array (Nat × Operand)) (v u : Value) (hv : v.cells = #[v]) (hu' : u.cells = #[u])
 (ho : o.op = .buildSlice t 2 parts) (e : TypeId) (hu : P.underlying t = some (.slice e)) (hie : (P.info? e).map (fun i => (i.size, i.zero.isSome)) = some (1, true))
 (hp : (parts.toList.map fun x => (x.1, a.eval x.2)) = [(0, v), (1, u)])
 (h : ∀ w', Row w' w.heap.size e [v, u].toArray → Below w.heap.size w w' → wpList P ops Q rest (a.put o.dst (.slice (some ⟨w.heap.size, 0, none⟩) 2 2)) w') : wpList P ops Q (o :: rest) a w := by
 cases hi : P.info? e with
 | none => simp [hi] at hie
 | some ie =>
  simp only [hi, Option.map_some, Option.some.injEq, Prod.mk.injEq] at hie
  obtain ⟨hs, hz⟩ := hie
  obtain ⟨z, hzz⟩ := Option.isSome_iff_exists.1 hz
  refine wpList_buildSlice hg t e 2 parts ho [v, u].toArray ie z hu hi hzz (by rw [hs]; omega) (by rw [hs]; omega) ?_ (h _ (Row.new w e [v, u].toArray) (zal _ _))
  rw [Array.toList_map, hp, hs]
  have e1 : (Array.range (2 * 1)).map (z.cells[· % z.cells.size]!) = #[z.cells[0 % z.cells.size]!, z.cells[1 % z.cells.size]!] := by
   apply Array.toList_inj.1
   rw [Array.toList_map, Array.toList_range]
   rfl
  rw [e1]
  simp [Instr.fill, hv, hu']
end
attribute [local irreducible] deg flV
end Go.Proofs.Ytelgefgphhebnaa
end
section
namespace Go.Proofs.Ytelgefgphhebnaa
open Go Go.RowKit
set_option linter.unusedVariables false
set_option linter.unusedSimpArgs false
/-- the differences -/
def dfD (p : Nat) (V U : List (Nat → Nat)) : Nat → Nat → Nat := fun i => addK p (V.getD i fun _ => 0) (U.getD i fun _ => 0) (-1)
def dfL (p : Nat) (V U : List (Nat → Nat)) (j : Nat) : List (Nat → Nat) := (List.range j).map (dfD p V U)
theorem dfL_len (p : Nat) (V U : List (Nat → Nat)) (j : Nat) : (dfL p V U j).length = j := by unfold dfL; rw [List.length_map, List.length_range]
theorem dfL_z (p : Nat) (V U : List (Nat → Nat)) : dfL p V U 0 = [] := rfl
theorem dfL_s (p : Nat) (V U : List (Nat → Nat)) (j : Nat) : dfL p V U (j + 1) = dfL p V U j ++ [dfD p V U j] := by unfold dfL; rw [List.range_succ, List.map_append]; rfl
theorem dfD_at {p : Nat} {V U : List (Nat → Nat)} {i : Nat} {x y : Nat → Nat} (h1 : V[i]? = some x) (h2 : U[i]? = some y) : dfD p V U i = addK p x y (-1) := by
 unfold dfD; rw [List.getD_eq_getElem?_getD, List.getD_eq_getElem?_getD, h1, h2]; rfl
theorem sub_add {p : Nat} {x y : Nat → Nat} (hp : 0 < p) (ly : ∀ k, k < 64 → y k < p) : ∀ k, k < 64 → (x k + p - y k) % p = addK p x y (-1) k := fun k hk => by
 have e : (((x k + p - y k) % p : Nat) : Int) = ((addK p x y (-1) k : Nat) : Int) := by
  have h1 := ly k hk
  unfold addK
  rw [Int.toNat_of_nonneg (Int.emod_nonneg _ (by omega)), Int.natCast_emod, Int.ofNat_sub (by omega), Int.natCast_add]
  rw [show ((x k : Int) + (p : Int) - (y k : Int)) = ((x k : Int) + -1 * (y k : Int)) + (p : Int) by omega, Int.add_emod_right]
 exact Int.ofNat.inj e
theorem df_good {p d : Nat} {V U : List (Nat → Nat)} (hp : 0 < p) (hd : 1 ≤ d) (hV : ∀ z, z ∈ V → (∀ k, k < 64 → z k < p) ∧ deg z < (d : Int)) (hUs : ∀ z, z ∈ U → (∀ k, k < 64 → z k < p) ∧ deg z < (d : Int)) (j : Nat) (h1 : j ≤ V.length) (h2 : j ≤ U.length) :
 ∀ z, z ∈ dfL p V U j → (∀ k, k < 64 → z k < p) ∧ deg z < (d : Int) := fun z hz => by
 unfold dfL at hz
 obtain ⟨i, hi, rfl⟩ := List.mem_map.1 hz
 have hij := List.mem_range.1 hi
 have ev : V[i]? = some V[i] := List.getElem?_eq_getElem (by omega)
 have eu : U[i]? = some U[i] := List.getElem?_eq_getElem (by omega)
 rw [dfD_at ev eu]
 exact ⟨fun k _ => addK_lt hp k, deg_addK hp (by omega) (hV _ (List.mem_of_getElem? ev)).2 (hUs _ (List.mem_of_getElem? eu)).2⟩
attribute [irreducible] dfD dfL
theorem ckR_pair {p : Int} {m : Nat → Nat} {V U : List (Nat → Nat)} (h1 : ckR p m [V] = 0) (h2 : ckR p m [U] = 0) : ckR p m [V, U] = 0 := ckR_yes (ckR_zero h1).1 (fun i L hL => by
 have hi := (List.getElem?_eq_some_iff.1 hL).1
 have h3 : i = 0 ∨ i = 1 := by simp at hi; omega
 rcases h3 with rfl | rfl
 · have e : V = L := by simpa using hL
   subst e; exact (ckR_zero h1).2 V (by simp)
 · have e : U = L := by simpa using hL
   subst e; exact (ckR_zero h2).2 U (by simp))
theorem ckR_left {p : Int} {m : Nat → Nat} {V U : List (Nat → Nat)} (h1 : ckR p m [V] = 1) : ckR p m [V, U] = 1 := by
 rcases ckR_two p m [V, U] with h | h
 · exfalso
   obtain ⟨h2, h3⟩ := ckR_zero h
   have := ckR_yes (Ls := [V]) h2 (fun i L hL => h3 L (by have := List.mem_of_getElem? hL; simp at this; simp [this]))
   omega
 · exact h
theorem ckR_right {p : Int} {m : Nat → Nat} {V U : List (Nat → Nat)} (h1 : ckR p m [U] = 1) : ckR p m [V, U] = 1 := by
 rcases ckR_two p m [V, U] with h | h
 · exfalso
   obtain ⟨h2, h3⟩ := ckR_zero h
   have := ckR_yes (Ls := [U]) h2 (fun i L hL => h3 L (by have := List.mem_of_getElem? hL; simp at this; simp [this]))
   omega
 · exact h
/-- a distance with its code -/
noncomputable def rdV (p : Int) (m : Nat → Nat) (V U : List (Nat → Nat)) : Int × Int :=
 if ckR p m [V, U] = 0 then (if V.length ≤ 4 ∧ U.length = V.length then (((spnV p.toNat (dfL p.toNat V U V.length)).length : Int), 0) else (0, 2)) else (0, 1)
theorem rdV_1 {p : Int} {m : Nat → Nat} {V U : List (Nat → Nat)} (h : ckR p m [V, U] = 1) : rdV p m V U = (0, 1) := by unfold rdV; rw [if_neg (by omega)]
theorem rdV_2 {p : Int} {m : Nat → Nat} {V U : List (Nat → Nat)} (h : ckR p m [V, U] = 0) (h2 : ¬ (V.length ≤ 4 ∧ U.length = V.length)) : rdV p m V U = (0, 2) := by unfold rdV; rw [if_pos h, if_neg h2]
theorem rdV_0 {n : Nat} {m : Nat → Nat} {V U : List (Nat → Nat)} (h : ckR (n : Int) m [V, U] = 0) (h2 : V.length ≤ 4 ∧ U.length = V.length) : rdV (n : Int) m V U = (((spnV n (dfL n V U V.length)).length : Int), 0) := by unfold rdV; rw [if_pos h, if_pos h2, Int.toNat_natCast]
attribute [irreducible] rdV
attribute [local irreducible] deg flV addK upX
set_option maxRecDepth 100000 in
set_option maxHeartbeats 3200000 in
theorem l09Distance_any (p d : Nat) (Vs Us : List (Nat → Nat)) (aV aU : Option Addr) (cV cU baseV baseU : Nat) (w : World) (hpr : p = 2 ∨ p = 3 ∨ p = 5 ∨ p = 7) (hd1 : 1 ≤ d) (hd4 : d ≤ 4) (hgV : ∀ z, z ∈ Vs → (∀ k, k < 64 → z k < p) ∧ deg z < (d : Int)) (hgU : ∀ z, z ∈ Us → (∀ k, k < 64 → z k < p) ∧ deg z < (d : Int)) (hn4 : Vs.length ≤ 4) (hnn : Us.length = Vs.length) (hV : SlL w baseV 28 64 (.slice aV Vs.length cV) (plR Vs)) (hUs : SlL w baseU 28 64 (.slice aU Us.length cU) (plR Us)) :
 Calls Try.prog 58 #[.int .i64 (p : Int), .slice aV Vs.length cV, .slice aU Us.length cU] w fun e w' => e = .returned (.int .i64 ((spnV p (dfL p Vs Us Vs.length)).length : Int)) ∧ Below w.heap.size w w' := by
 have HSP := Lib.hid (fun W a c b h => l09Span_any p d (dfL p Vs Us Vs.length) a c b W hpr hd4 (df_good (by omega) hd1 hgV hgU Vs.length (Nat.le_refl _) (by omega)) (by rw [dfL_len]; omega) h)
 have HGV := Lib.hid hgV
 have HGU := Lib.hid hgU
 have HAD := Lib.hid (fun f g W a b => l01Add_any p f g (-1) W (by omega) (by omega) (by decide) (by decide) a b)
 have hnI : (Vs.length : Int) ≤ 4 := by omega
 rw [hnn] at hUs ⊢
 have HNN := Lib.hid hnn
 clear hgV hgU hnn
 go_enter Try.func58, Try.ntmps58
 have hb1 : Below w.heap.size w (w.alloc (.cells #[] 28)) := (Below.refl _ _).alloc (Nat.le_refl _) _
 have hS0 : SlL (w.alloc (.cells #[] 28)) w.heap.size 28 64 (.slice (some ⟨w.heap.size, 0, none⟩) 0 0) (plR (dfL p Vs Us 0)) := by rw [dfL_z, plR_nil]; exact slL_empty w 28 64 (Nat.le_refl _)
 go_wp2_with fail
 go_loopw [7, 8] (fun s c wr => ∃ (j : Nat) (lst : Value), lst = s ∧ c = .int .i64 (j : Int) ∧ j ≤ Vs.length ∧ Below w.heap.size w wr ∧ SlL wr w.heap.size 28 64 lst (plR (dfL p Vs Us j))) (fun _ c _ => Vs.length - (intOf c).toNat)
 case atStart => exact ⟨0, _, rfl, rfl, Nat.zero_le _, hb1, hS0⟩
 case round =>
  clear hb1 hS0
  obtain ⟨j, lst, rfl, rfl, hjn, hb, hSl⟩ := hrel
  by_cases hj : j < Vs.length
  · have hjI : (j : Int) < (Vs.length : Int) := by omega
    obtain ⟨x, hx⟩ : ∃ x, Vs[j]? = some x := ⟨_, List.getElem?_eq_getElem hj⟩
    obtain ⟨y, hy⟩ : ∃ y, Us[j]? = some y := ⟨_, List.getElem?_eq_getElem (by rw [HNN.out]; exact hj)⟩
    obtain ⟨g, rfl⟩ := hV.some (by rw [plR_len]; omega)
    obtain ⟨g2, rfl⟩ := hUs.some (by rw [plR_len, HNN.out]; omega)
    have hrow := plR_at hx
    have hrow2 := plR_at hy
    have HAC := Lib.hid (fun W => HAD.out x y W (HGV.out x (List.mem_of_getElem? hx)).1 (HGU.out y (List.mem_of_getElem? hy)).1)
    rw [← dfD_at hx hy] at HAC
    have hDS := dfL_s p Vs Us j
    have hdl : (dfL p Vs Us j).length ≤ 4 := by rw [dfL_len]; omega
    have HDS := Lib.hid hDS
    clear hx hy hDS
    obtain ⟨D, hD⟩ : ∃ D, D = dfL p Vs Us j := ⟨_, rfl⟩
    rw [← hD] at hSl HDS hdl
    have hbw : w.heap.size ≤ w.heap.size := Nat.le_refl _
    clear hD
    go_upto_region 5 with (fail)
    have hbase := hb.size
    refine wp_region_stepsU Try.mixed (by kernel_rfl) (by kernel_rfl) (fun v => by (simp only [frL, Act.put, pA, pB, pC, Nat.reduceAdd, Nat.zero_add]; exact rfl))
     (fun L v wx => Below w.heap.size w wx ∧ wr.heap.size ≤ wx.heap.size ∧ (L 12 = false → SlL wx w.heap.size 28 64 lst (plR D)) ∧ (L 0 = true → v 0 = lst) ∧ (L 1 = true → v 1 = (.int .i64 (p : Int))) ∧ (L 2 = true → v 2 = (.slice (some ⟨g, 0, none⟩) Vs.length cV)) ∧ (L 3 = true → v 3 = (.int .i64 (j : Int))) ∧ (L 4 = true → v 4 = (.pointer (some ⟨g, j * 64, none⟩))) ∧ (L 5 = true → v 5 = (.agg (bl 64 x).toArray)) ∧ (L 6 = true → v 6 = (.slice (some ⟨g2, 0, none⟩) Vs.length cU)) ∧ (L 7 = true → v 7 = (.int .i64 (j : Int))) ∧ (L 8 = true → v 8 = (.pointer (some ⟨g2, j * 64, none⟩))) ∧ (L 9 = true → v 9 = (.agg (bl 64 y).toArray)) ∧ (L 10 = true → v 10 = (.agg (zb 64 (dfD p Vs Us j)))) ∧ (L 13 = false → v 13 = lst) ∧ (L 12 = false → L 11 = true → ∃ b, v 11 = .slice (some ⟨b, 0, none⟩) 1 1 ∧ wr.heap.size ≤ b ∧ Row wx b 28 (bl 64 (dfD p Vs Us j)).toArray) ∧ (L 12 = true → SlL wx w.heap.size 28 64 (v 12) (plR (D ++ [dfD p Vs Us j]))) ∧ (L 13 = true → v 13 = v 12)) ?_ ?_ ?_
    · exact ⟨hb.drew, Nat.le_refl _, (fun _ => SlL.drew hSl), (fun h => by cases h), (fun h => by cases h), (fun h => by cases h), (fun h => by cases h), (fun h => by cases h), (fun h => by cases h), (fun h => by cases h), (fun h => by cases h), (fun h => by cases h), (fun h => by cases h), (fun h => by cases h), (fun _ => rfl), (fun _ h => by cases h), (fun h => by cases h), (fun h => by cases h)⟩
    · refine (.cons rfl ?_ (.cons rfl ?_ (.cons rfl ?_ (.cons rfl ?_ (.cons rfl ?_ (.cons rfl ?_ (.cons rfl ?_ (.cons rfl ?_ (.cons rfl ?_ (.cons rfl ?_ (.cons rfl ?_ (.cons rfl ?_ (.cons rfl ?_ (.cons rfl ?_ (.nil _)))))))))))))))
      · intro L v wx hd hn hU ⟨hB, hz, sl, h0, h1, h2, h3, h4, h5, h6, h7, h8, h9, h10, hI, hb_, hA_, hC_⟩ K hK
        have eI := hI (by cases hl : L 13 with | false => rfl | true => exact absurd rfl (hn 13 _ rfl hl ⟨0, .phase⟩ (by simp) rfl))
        go_wp2_with fail
        exact hK _ lst _ (by simp only [Act.put, pA, pB, pC, eI]) ⟨hB, hz, sl, (fun _ => rfl), h1, h2, h3, h4, h5, h6, h7, h8, h9, h10, hI, hb_, hA_, hC_⟩
      · intro L v wx hd hn hU ⟨hB, hz, sl, h0, h1, h2, h3, h4, h5, h6, h7, h8, h9, h10, hI, hb_, hA_, hC_⟩ K hK
        go_wp2_with fail
        exact hK _ (.int .i64 (p : Int)) _ (by simp only [Act.put, pA, pB, pC]) ⟨hB, hz, sl, h0, (fun _ => rfl), h2, h3, h4, h5, h6, h7, h8, h9, h10, hI, hb_, hA_, hC_⟩
      · intro L v wx hd hn hU ⟨hB, hz, sl, h0, h1, h2, h3, h4, h5, h6, h7, h8, h9, h10, hI, hb_, hA_, hC_⟩ K hK
        go_wp2_with fail
        exact hK _ (.slice (some ⟨g, 0, none⟩) Vs.length cV) _ (by simp only [Act.put, pA, pB, pC]) ⟨hB, hz, sl, h0, h1, (fun _ => rfl), h3, h4, h5, h6, h7, h8, h9, h10, hI, hb_, hA_, hC_⟩
      · intro L v wx hd hn hU ⟨hB, hz, sl, h0, h1, h2, h3, h4, h5, h6, h7, h8, h9, h10, hI, hb_, hA_, hC_⟩ K hK
        go_wp2_with fail
        exact hK _ (.int .i64 (j : Int)) _ (by simp only [Act.put, pA, pB, pC]) ⟨hB, hz, sl, h0, h1, h2, (fun _ => rfl), h4, h5, h6, h7, h8, h9, h10, hI, hb_, hA_, hC_⟩
      · intro L v wx hd hn hU ⟨hB, hz, sl, h0, h1, h2, h3, h4, h5, h6, h7, h8, h9, h10, hI, hb_, hA_, hC_⟩ K hK
        have e2 := h2 (zdq hd 2 rfl)
        have e3 := h3 (zdq hd 3 rfl)
        go_wp2_with fail
        exact hK _ (.pointer (some ⟨g, j * 64, none⟩)) _ (by simp only [Act.put, pA, pB, pC, e2, e3]) ⟨hB, hz, sl, h0, h1, h2, h3, (fun _ => rfl), h5, h6, h7, h8, h9, h10, hI, hb_, hA_, hC_⟩
      · intro L v wx hd hn hU ⟨hB, hz, sl, h0, h1, h2, h3, h4, h5, h6, h7, h8, h9, h10, hI, hb_, hA_, hC_⟩ K hK
        have e4 := h4 (zdq hd 4 rfl)
        refine wp_load_mid 28 _ rfl _ (j * 64) e4 _ _ ((hV.zw hB).range hrow) Try.underlying28 rfl (by rw [zl]; exact Try.size28) ?_
        exact hK _ _ _ rfl ⟨hB, hz, sl, h0, h1, h2, h3, h4, (fun _ => rfl), h6, h7, h8, h9, h10, hI, hb_, hA_, hC_⟩
      · intro L v wx hd hn hU ⟨hB, hz, sl, h0, h1, h2, h3, h4, h5, h6, h7, h8, h9, h10, hI, hb_, hA_, hC_⟩ K hK
        go_wp2_with fail
        exact hK _ (.slice (some ⟨g2, 0, none⟩) Vs.length cU) _ (by simp only [Act.put, pA, pB, pC]) ⟨hB, hz, sl, h0, h1, h2, h3, h4, h5, (fun _ => rfl), h7, h8, h9, h10, hI, hb_, hA_, hC_⟩
      · intro L v wx hd hn hU ⟨hB, hz, sl, h0, h1, h2, h3, h4, h5, h6, h7, h8, h9, h10, hI, hb_, hA_, hC_⟩ K hK
        go_wp2_with fail
        exact hK _ (.int .i64 (j : Int)) _ (by simp only [Act.put, pA, pB, pC]) ⟨hB, hz, sl, h0, h1, h2, h3, h4, h5, h6, (fun _ => rfl), h8, h9, h10, hI, hb_, hA_, hC_⟩
      · intro L v wx hd hn hU ⟨hB, hz, sl, h0, h1, h2, h3, h4, h5, h6, h7, h8, h9, h10, hI, hb_, hA_, hC_⟩ K hK
        have e6 := h6 (zdq hd 6 rfl)
        have e7 := h7 (zdq hd 7 rfl)
        go_wp2_with fail
        exact hK _ (.pointer (some ⟨g2, j * 64, none⟩)) _ (by simp only [Act.put, pA, pB, pC, e6, e7]) ⟨hB, hz, sl, h0, h1, h2, h3, h4, h5, h6, h7, (fun _ => rfl), h9, h10, hI, hb_, hA_, hC_⟩
      · intro L v wx hd hn hU ⟨hB, hz, sl, h0, h1, h2, h3, h4, h5, h6, h7, h8, h9, h10, hI, hb_, hA_, hC_⟩ K hK
        have e8 := h8 (zdq hd 8 rfl)
        refine wp_load_mid 28 _ rfl _ (j * 64) e8 _ _ ((hUs.zw hB).range hrow2) Try.underlying28 rfl (by rw [zl]; exact Try.size28) ?_
        exact hK _ _ _ rfl ⟨hB, hz, sl, h0, h1, h2, h3, h4, h5, h6, h7, h8, (fun _ => rfl), h10, hI, hb_, hA_, hC_⟩
      · intro L v wx hd hn hU ⟨hB, hz, sl, h0, h1, h2, h3, h4, h5, h6, h7, h8, h9, h10, hI, hb_, hA_, hC_⟩ K hK
        have e1 := h1 (zdq hd 1 rfl)
        have e5 := h5 (zdq hd 5 rfl)
        have e9 := h9 (zdq hd 9 rfl)
        go_wp2_with (go_at_call 80; refine (HAC.out _).mono ?_; rintro e wy ⟨rfl, hy⟩)
        exact hK _ (.agg (zb 64 (dfD p Vs Us j))) _ (by simp only [Act.put, pA, pB, pC, e1, e5, e9]) ⟨hB.trans (hy.mono hB.size), Nat.le_trans hz hy.size, (fun h => (sl h).below hy (sl h).lt), h0, h1, h2, h3, h4, h5, h6, h7, h8, h9, (fun _ => rfl), hI, (fun h g => let ⟨b, a1, a2, a3⟩ := hb_ h g; ⟨b, a1, a2, a3.zw hy⟩), (fun h => (hA_ h).below hy (hA_ h).lt), hC_⟩
      · intro L v wx hd hn hU ⟨hB, hz, sl, h0, h1, h2, h3, h4, h5, h6, h7, h8, h9, h10, hI, hb_, hA_, hC_⟩ K hK
        have e10 := h10 (zdq hd 10 rfl)
        refine wp_build1 30 _ (bl 64 (dfD p Vs Us j)) 64 rfl 28 Try.underlying30 Try.elem28 (by decide) (by decide) (zl _ _) (by simp [Act.eval, e10, zb]) ?_
        intro w2 hrow hy
        exact hK _ _ _ rfl ⟨hB.trans (hy.mono hB.size), Nat.le_trans hz hy.size, (fun h => (sl h).below hy (sl h).lt), h0, h1, h2, h3, h4, h5, h6, h7, h8, h9, h10, hI, (fun _ _ => ⟨_, rfl, hz, hrow⟩), (fun h => (hA_ h).below hy (hA_ h).lt), hC_⟩
      · intro L v wx hd hn hU ⟨hB, hz, sl, h0, h1, h2, h3, h4, h5, h6, h7, h8, h9, h10, hI, hb_, hA_, hC_⟩ K hK
        have e0 := h0 (zdq hd 0 rfl)
        obtain ⟨b, eb, hbW, hrow⟩ := hb_ hU (zdq hd 11 rfl)
        have hSL := sl hU
        refine wp_append_sl (.tmp 16) (.tmp 27) 30 rfl w.heap.size 28 (.agg (zb 64 fun _ => 0)) 64 64 Try.underlying30 Try.infoPoly (by simp [Value.cells, bl]) (by decide) lst (plR D) e0 hSL b (bl 64 (dfD p Vs Us j)) eb (zl _ _) hrow.range (bl_one65 _) (by rw [plR_len]; unfold maxLen; omega) (by rw [plR_len]; omega) ?_
        intro vp wp hSp hg
        exact hK _ vp _ rfl ⟨hB.grown hg hB.size (fun r e => Nat.le_trans hbw (hSL.own r e)), Nat.le_trans hz hg.size, (fun h => absurd h (by simp [setL])), h0, h1, h2, h3, h4, h5, h6, h7, h8, h9, h10, hI, (fun h => absurd h (by simp [setL])), (fun _ => by rw [plR_snoc]; exact hSp), (fun h => absurd rfl (hn 13 _ rfl h ⟨12, .data⟩ (by simp) rfl))⟩
      · intro L v wx hd hn hU ⟨hB, hz, sl, h0, h1, h2, h3, h4, h5, h6, h7, h8, h9, h10, hI, hb_, hA_, hC_⟩ K hK
        have hSA := hA_ (zdq hd 12 rfl)
        go_wp2_with fail
        exact hK _ (v 12) _ (by simp only [Act.put, pA, pB, pC]) ⟨hB, hz, sl, h0, h1, h2, h3, h4, h5, h6, h7, h8, h9, h10, (fun h => absurd h (by simp [setL])), hb_, hA_, (fun _ => rfl)⟩
    · intro L v wx hL ⟨hB, hz, sl, h0, h1, h2, h3, h4, h5, h6, h7, h8, h9, h10, hI, hb_, hA_, hC_⟩
      have hSN := hA_ (hL 12 (by decide))
      have eC := hC_ (hL 13 (by decide))
      have hbN := hB
      clear hI
      obtain ⟨vN, eN⟩ : ∃ x, x = v 12 := ⟨_, rfl⟩
      rw [← eN] at hSN eC
      clear hL sl h0 h1 h2 h3 h4 h5 h6 h7 h8 h9 h10 hb_ hA_ hC_ hB hSl hb eN
      have hb := hbN
      clear hbN
      simp only [eC]
      go_wp2_with fail
      go_roundw
      case rel => exact ⟨j + 1, vN, rfl, by go_num, by omega, hb, by rw [HDS.out]; exact hSN⟩
      case measure => simp [intOf] <;> omega
  · have hjI : ¬ (j : Int) < (Vs.length : Int) := by omega
    obtain rfl : j = Vs.length := by omega
    obtain ⟨a1, c1, rfl⟩ := hSl.form
    rw [plR_len] at hSl ⊢
    go_wp2_with (first | (go_at_call 54; refine (HSP.out _ a1 c1 _ hSl).mono ?_; rintro e W7 ⟨a2, c2, rfl, hS7, h7⟩))
    go_ret
    exact ⟨rfl, hb.trans (h7.mono hb.size)⟩
set_option maxRecDepth 100000 in
set_option maxHeartbeats 3200000 in
theorem spec_RankDistance_any (p : Int) (m : Nat → Nat) (Vs Us : List (Nat → Nat)) (aV aU : Option Addr) (cV cU baseV baseU : Nat) (w : World) (hm : byte m) (hVb : ∀ x, x ∈ Vs → byte x) (hVl : (Vs.length : Int) ≤ 1048576) (hUb : ∀ x, x ∈ Us → byte x) (hUl : (Us.length : Int) ≤ 1048576) (hV : SlL w baseV 28 64 (.slice aV Vs.length cV) (plR Vs)) (hUs : SlL w baseU 28 64 (.slice aU Us.length cU) (plR Us)) :
 Calls Try.prog 29 #[.int .i64 p, .agg (zb 64 m), .slice aV Vs.length cV, .slice aU Us.length cU] w fun e w' => e = .returned (.tuple #[.int .i64 (rdV p m Vs Us).1, .int .i64 (rdV p m Vs Us).2]) ∧ Below w.heap.size w w' := by
 have HCV := Lib.hid (fun W (hW : Below w.heap.size w W) => l03Residues_any p m hm Vs aV cV baseV W hVb hVl (hV.zw hW))
 have HCU := Lib.hid (fun W (hW : Below w.heap.size w W) => l03Residues_any p m hm Us aU cU baseU W hUb hUl (hUs.zw hW))
 go_enter Try.func29, Try.ntmps29
 go_upto_region 1 with (fail)
 obtain ⟨W1, hwo⟩ : ∃ v : World, v = (w.alloc (.cells (zb 64 (m)) 28)) := ⟨_, rfl⟩
 have B0 : Blk W1 (w.heap.size) 64 28 (m) := by subst hwo; have := (Blk.new w 64 28 (m)); simpa using this
 have hb : Below w.heap.size w W1 := by subst hwo; exact ((Below.refl _ _).alloc (Nat.le_refl _) _)
 rw [← hwo]
 clear hwo
 go_wp2_with fail
 go_loopw [10] (fun c wr => ∃ i : Nat, c = .int .i64 (i : Int) ∧ i ≤ 2 ∧ Hid (1 ≤ i → ckR p m [Vs] = 0) ∧ Hid (2 ≤ i → ckR p m [Us] = 0) ∧ Below w.heap.size w wr ∧ Blk wr (w.heap.size) 64 28 (m)) (fun c _ => 2 - (intOf c).toNat)
 case atStart => exact ⟨0, rfl, by omega, Lib.hid (fun h => by omega), Lib.hid (fun h => by omega), hb, B0⟩
 case round =>
  clear hb B0
  obtain ⟨i, rfl, hi2, hq1, hq2, hb, B0⟩ := hrel
  have hi3 : i = 0 ∨ i = 1 ∨ i = 2 := by omega
  clear hi2
  rcases hi3 with rfl | rfl | rfl
  · rcases ckR_two p m [Vs] with hc | hc
    · go_wp2_with (first | (refine zla (.tmp 5) B0 Try.underlying28 Try.size28 ?_) | (go_at_call 53; refine (HCV.out _ hb).mono ?_; rintro e W5 ⟨rfl, h5⟩; replace B0 := B0.zw h5; replace hb := hb.trans (h5.mono hb.size); rw [hc]))
      go_roundw
      case rel => exact ⟨1, by go_num, by omega, Lib.hid (fun _ => hc), Lib.hid (fun h => by omega), hb, B0⟩
      case measure => simp [intOf]
    · have HV := Lib.hid (rdV_1 (ckR_left (U := Us) hc))
      go_wp2_with (first | (refine zla (.tmp 5) B0 Try.underlying28 Try.size28 ?_) | (go_at_call 53; refine (HCV.out _ hb).mono ?_; rintro e W5 ⟨rfl, h5⟩; replace B0 := B0.zw h5; replace hb := hb.trans (h5.mono hb.size); rw [hc]))
      go_ret2
      exact ⟨by rw [HV.out]; rfl, hb⟩
  · rcases ckR_two p m [Us] with hc | hc
    · go_wp2_with (first | (refine zla (.tmp 5) B0 Try.underlying28 Try.size28 ?_) | (go_at_call 53; refine (HCU.out _ hb).mono ?_; rintro e W5 ⟨rfl, h5⟩; replace B0 := B0.zw h5; replace hb := hb.trans (h5.mono hb.size); rw [hc]))
      go_roundw
      case rel => exact ⟨2, by go_num, by omega, Lib.hid (fun _ => hq1.out (by omega)), Lib.hid (fun _ => hc), hb, B0⟩
      case measure => simp [intOf]
    · have HV := Lib.hid (rdV_1 (ckR_right (V := Vs) hc))
      go_wp2_with (first | (refine zla (.tmp 5) B0 Try.underlying28 Try.size28 ?_) | (go_at_call 53; refine (HCU.out _ hb).mono ?_; rintro e W5 ⟨rfl, h5⟩; replace B0 := B0.zw h5; replace hb := hb.trans (h5.mono hb.size); rw [hc]))
      go_ret2
      exact ⟨by rw [HV.out]; rfl, hb⟩
  · have hck := ckR_pair (hq1.out (by omega)) (hq2.out (by omega))
    by_cases hin : Vs.length ≤ 4 ∧ Us.length = Vs.length
    · obtain ⟨n, d, rfl, hpr, _, _, d1, d4, _, hg⟩ := ck_fld hck
      have HV := Lib.hid (rdV_0 hck hin)
      obtain ⟨i1, i2⟩ := hin
      have HDS := Lib.hid (fun W (hW : Below w.heap.size w W) => l09Distance_any n d Vs Us aV aU cV cU baseV baseU W hpr d1 d4 (hg Vs (by simp)) (hg Us (by simp)) i1 i2 (hV.zw hW) (hUs.zw hW))
      have j1 : ¬ (Vs.length : Int) > 4 := by omega
      have j2 : ((Us.length : Int) != (Vs.length : Int)) = false := by simp; omega
      clear hck hg hq1 hq2 HCV HCU i1 i2
      go_wp2_with (first | (go_at_call 58; refine (HDS.out _ hb).mono ?_; rintro e W7 ⟨rfl, h7⟩))
      go_ret2
      exact ⟨by rw [HV.out]; rfl, hb.trans (h7.mono hb.size)⟩
    · have HV := Lib.hid (rdV_2 hck hin)
      clear hck hq1 hq2 HCV HCU
      by_cases j1 : (Vs.length : Int) > 4
      · clear hin
        go_wp2_with fail
        go_ret2
        exact ⟨by rw [HV.out]; rfl, hb⟩
      · have j2 : ((Us.length : Int) != (Vs.length : Int)) = true := by simp; omega
        clear hin
        go_wp2_with fail
        go_ret2
        exact ⟨by rw [HV.out]; rfl, hb⟩
set_option maxRecDepth 100000 in
set_option maxHeartbeats 3200000 in
theorem impl_RankDistance_any (p : Int) (m : Nat → Nat) (Vs Us : List (Nat → Nat)) (aV aU : Option Addr) (cV cU baseV baseU : Nat) (w : World) (hm : byte m) (hVb : ∀ x, x ∈ Vs → byte x) (hVl : (Vs.length : Int) ≤ 1048576) (hUb : ∀ x, x ∈ Us → byte x) (hUl : (Us.length : Int) ≤ 1048576) (hV : SlL w baseV 28 64 (.slice aV Vs.length cV) (plR Vs)) (hUs : SlL w baseU 28 64 (.slice aU Us.length cU) (plR Us)) :
 Calls Try.prog 30 #[.int .i64 p, .agg (zb 64 m), .slice aV Vs.length cV, .slice aU Us.length cU] w fun e w' => e = .returned (.tuple #[.int .i64 (rdV p m Vs Us).1, .int .i64 (rdV p m Vs Us).2]) ∧ Below w.heap.size w w' := by
 have HCK := Lib.hid (fun W W2 b (hW : Below w.heap.size w W) (hy : Below W.heap.size W W2) (hR : Row W2 b 30 [Value.slice aV Vs.length cV, Value.slice aU Us.length cU].toArray) => checkWords_any p m hm [Vs, Us] [.slice aV Vs.length cV, .slice aU Us.length cU] (.slice (some ⟨b, 0, none⟩) 2 2) W2 (fun L h => by
  simp only [List.mem_cons, List.not_mem_nil, or_false] at h
  rcases h with rfl | rfl
  · exact ⟨hVb, hVl⟩
  · exact ⟨hUb, hUl⟩) (by simp) (LsV.two ((hV.zw hW).below hy (hV.zw hW).lt) ((hUs.zw hW).below hy (hUs.zw hW).lt)) (LsS.row (vs := [Value.slice aV Vs.length cV, Value.slice aU Us.length cU]) hR))
 have hCb := cwV_b p m [Vs, Us]
 have hC2 : ∀ h : cwV p m [Vs, Us] = 2, ckR p m [Vs, Us] = 0 ∧ ¬ (Vs.length ≤ 4 ∧ Us.length ≤ 4) := fun h => by
  rcases ckR_two p m [Vs, Us] with hc | hc
  · refine ⟨hc, fun h4 => ?_⟩
    have := cwV_0 hc (fun i L hL => by
     have := List.mem_of_getElem? hL
     simp only [List.mem_cons, List.not_mem_nil, or_false] at this
     rcases this with rfl | rfl
     · exact h4.1
     · exact h4.2)
    omega
  · have := cwV_1 hc
    omega
 have hC1 : ∀ h : cwV p m [Vs, Us] = 1, ckR p m [Vs, Us] = 1 := fun h => by
  rcases ckR_two p m [Vs, Us] with hc | hc
  · exfalso
    unfold cwV at h
    rw [if_pos hc] at h
    split at h <;> omega
  · exact hc
 obtain ⟨C, hC⟩ : ∃ C, cwV p m [Vs, Us] = C := ⟨_, rfl⟩
 go_enter Try.func30, Try.ntmps30
 go_upto_region 1 with (fail)
 obtain ⟨W1, hwo⟩ : ∃ v : World, v = (w.alloc (.cells (zb 64 (m)) 28)) := ⟨_, rfl⟩
 have B0 : Blk W1 (w.heap.size) 64 28 (m) := by subst hwo; have := (Blk.new w 64 28 (m)); simpa using this
 have hb : Below w.heap.size w W1 := by subst hwo; exact ((Below.refl _ _).alloc (Nat.le_refl _) _)
 rw [← hwo]
 clear hwo
 go_upto_region 2 with (first | (refine zla (.tmp 5) B0 Try.underlying28 Try.size28 ?_) | (refine wpList_build_two rfl 25 _ (.slice aV Vs.length cV) (.slice aU Us.length cU) rfl rfl rfl 30 Try.underlying25 Try.elemSl rfl ?_; intro wa hrw hba) | (go_at_call 51; refine (HCK.out _ _ _ hb hba hrw).mono ?_; rintro e W5 ⟨rfl, h5⟩; replace B0 := (B0.zw hba).below h5 (B0.zw hba).lt; replace hb := (hb.trans (hba.mono hb.size)).trans (h5.mono (hb.trans (hba.mono hb.size)).size); rw [hC]))
 rw [hC] at hCb
 clear HCK
 rcases hCb with h0 | h0 | h0
 · subst h0
   obtain ⟨hck, hl⟩ := cwV_zero hC
   have hl1 := hl Vs (by simp)
   clear hC hC1 hC2 hl
   by_cases hnn : Us.length = Vs.length
   · have HV := Lib.hid (fun (n : Nat) (hp : p = (n : Int)) => rdV_0 (n := n) (hp ▸ hck) ⟨hl1, hnn⟩)
     obtain ⟨n, d, rfl, hpr, _, _, d1, d4, _, hg⟩ := ck_fld hck
     have hgV := hg Vs (by simp)
     have hgU := hg Us (by simp)
     have j2 : ((Vs.length : Int) != (Us.length : Int)) = false := by simp; omega
     have hM5 : (Vs.length : Int) ≤ 1048576 := hVl
     have hDG := df_good (p := n) (by omega) d1 hgV hgU Vs.length (Nat.le_refl _) (by omega)
     have HRA := Lib.hid (fun W a1 c1 b1 h => rank_any n d m (dfL n Vs Us Vs.length) a1 c1 b1 W hpr d4 hDG (by rw [dfL_len]; exact hM5) h)
     have HGV := Lib.hid hgV
     have HGU := Lib.hid hgU
     have hnI : (Vs.length : Int) ≤ 4 := by omega
     have HNN := Lib.hid hnn
     have HDF := Lib.hid (fun (f g : Nat → Nat) W a c => difference_any n f g W (by omega) (by omega) a c)
     have n0 : 0 < n := by omega
     have HX : Hid (∀ X : Nat → Nat → Nat, (List.range Vs.length).map (upX X Vs.length) = (List.range Vs.length).map X) := Lib.hid (fun X => upX_n)
     clear hck hg hgV hgU hDG
     go_upto_region 6 with (fail)
     go_upto_region 7 with (refine wpList_make_rowsB _ rfl 30 (.tmp 28) (.tmp 28) rfl 28 Try.underlying30 Try.made28 Vs.length hM5 rfl rfl ?_)
     have lt_B0 := B0.lt
     have lhb := hb.size
     obtain ⟨W2, hwo, hzQ⟩ : ∃ v : World, v = (W5.alloc (.cells (zb (Vs.length * 64) (fl 64 (fun _ _ => 0))) 28)) ∧ Blk v (w.heap.size) 64 28 (m) ∧ Blk v (W5.heap.size) (Vs.length * 64) 28 (fl 64 (fun _ _ => 0)) ∧ Below w.heap.size w v := ⟨_, rfl, (B0.alloc (.cells (zb (Vs.length * 64) (fl 64 (fun _ _ => 0))) 28)), (Blk.new W5 (Vs.length * 64) 28 (fl 64 (fun _ _ => 0))), (hb.alloc (by have := hb.size; simp; omega) (.cells (zb (Vs.length * 64) (fl 64 (fun _ _ => 0))) 28))⟩
     rw [← hwo]
     clear hwo B0 hb
     obtain ⟨B0, B1, hb⟩ := hzQ
     obtain ⟨N1, hNN⟩ : ∃ n : Nat, n = W5.heap.size := ⟨_, rfl⟩
     rw [← hNN] at lt_B0 lhb B1 ⊢
     clear hNN
     have zN1_0 := lt_B0
     have zN1 := lhb
     clear lt_B0 lhb
     try simp only [Act.put, pA, pB, pC]
     have hU0 : Blk W2 (N1) (Vs.length * 64) 28 (fl 64 (upX (dfD n Vs Us) 0)) := by rw [upX_z]; exact B1
     have hcw : w.heap.size ≤ N1 := by omega
     go_wp2_with fail
     go_loopw [32] (fun c wr => ∃ j : Nat, c = .int .i64 (j : Int) ∧ j ≤ Vs.length ∧ Below w.heap.size w wr ∧ Blk wr (w.heap.size) 64 28 (m) ∧ Blk wr (N1) (Vs.length * 64) 28 (fl 64 (upX (dfD n Vs Us) j))) (fun c _ => Vs.length - (intOf c).toNat)
     case atStart => exact ⟨0, rfl, Nat.zero_le _, hb, B0, hU0⟩
     case round =>
      clear hb B0 hU0 B1
      obtain ⟨j, rfl, hjn, hb, B0, B1⟩ := hrel
      by_cases hj : j < Vs.length
      · have hjI : (j : Int) < (Vs.length : Int) := by omega
        obtain ⟨x, hx⟩ : ∃ x, Vs[j]? = some x := ⟨_, List.getElem?_eq_getElem hj⟩
        obtain ⟨y, hy⟩ : ∃ y, Us[j]? = some y := ⟨_, List.getElem?_eq_getElem (by rw [HNN.out]; exact hj)⟩
        rw [HNN.out] at hUs
        try rw [HNN.out]
        obtain ⟨g, rfl⟩ := hV.some (by rw [plR_len]; omega)
        obtain ⟨g2, rfl⟩ := hUs.some (by rw [plR_len, HNN.out]; omega)
        have hrow := plR_at hx
        have hrow2 := plR_at hy
        have hy1 := (HGU.out y (List.mem_of_getElem? hy)).1
        have HAC := Lib.hid (show ∀ W, Calls Try.prog 59 #[.int .i64 (n : Int), .agg (zb 64 x), .agg (zb 64 y)] W (fun e w' => e = .returned (.agg (zb 64 (dfD n Vs Us j))) ∧ Below W.heap.size W w') from fun W => by
         have := HDF.out x y W (HGV.out x (List.mem_of_getElem? hx)).1 hy1
         rw [zbc (sub_add (x := x) n0 hy1), ← dfD_at hx hy] at this
         exact this)
        clear hx hy hy1
        go_upto_region 9 with (fail)
        go_upto_region 10 with (fail)
        have lt_B0 : (w.heap.size) < wr.heap.size := B0.lt
        have lt_B1 : (N1) < wr.heap.size := B1.lt
        have hbase : w.heap.size ≤ wr.heap.size := hb.size
        refine zq Try.mixed (by kernel_rfl) (by kernel_rfl) (fun v => by (simp only [frL, Act.put, pA, pB, pC, Nat.reduceAdd, Nat.zero_add]; exact rfl))
         (fun L v W3 => Below w.heap.size w W3 ∧ Kx [N1] wr W3 ∧ (∃ g, Blk W3 (N1) (Vs.length * 64) 28 (g)) ∧ (L 13 = false → Blk W3 (N1) (Vs.length * 64) 28 (fl 64 (upX (dfD n Vs Us) j))) ∧ (L 13 = true → Blk W3 (N1) (Vs.length * 64) 28 (fl 64 (updR (upX (dfD n Vs Us) j) j (dfD n Vs Us j)))) ∧ VF L v [some (.slice (some ⟨N1, 0, none⟩) Vs.length Vs.length), some (.int .i64 (j : Int)), some (.int .i64 (n : Int)), some (.slice (some ⟨g, 0, none⟩) Vs.length cV), some (.int .i64 (j : Int)), some (.pointer (some ⟨g, j * 64, none⟩)), some (.agg (zb 64 (x))), some (.slice (some ⟨g2, 0, none⟩) Vs.length cU), some (.int .i64 (j : Int)), some (.pointer (some ⟨g2, j * 64, none⟩)), some (.agg (zb 64 (y))), some (.agg (zb 64 (dfD n Vs Us j))), some (.pointer (some ⟨N1, j * 64, none⟩)), none]) ?_ ?_ ?_
        · intro v hv0
          exact ⟨hb.drew, Kx.start _ _, ⟨_, B1.drew⟩, (fun _ => B1.drew), (fun h => by cases h), VF.start⟩
        · refine (.cons rfl ?_ (.cons rfl ?_ (.cons rfl ?_ (.cons rfl ?_ (.cons rfl ?_ (.cons rfl ?_ (.cons rfl ?_ (.cons rfl ?_ (.cons rfl ?_ (.cons rfl ?_ (.cons rfl ?_ (.cons rfl ?_ (.cons rfl ?_ (.cons rfl ?_ (.nil _)))))))))))))))
          all_goals intro L v W3 hd hn ⟨hB, hX, x1, q1, n1, V⟩ K hK
          · go_wp2_with fail
            exact hK _ (.slice (some ⟨N1, 0, none⟩) Vs.length Vs.length) _ (by simp only [Act.put, pA, pB, pC ]) ⟨hB, hX, x1, q1, n1, V.step 0 rfl⟩
          · go_wp2_with fail
            exact hK _ (.int .i64 (j : Int)) _ (by simp only [Act.put, pA, pB, pC ]) ⟨hB, hX, x1, q1, n1, V.step 1 rfl⟩
          · go_wp2_with fail
            exact hK _ (.int .i64 (n : Int)) _ (by simp only [Act.put, pA, pB, pC ]) ⟨hB, hX, x1, q1, n1, V.step 2 rfl⟩
          · go_wp2_with fail
            exact hK _ (.slice (some ⟨g, 0, none⟩) Vs.length cV) _ (by simp only [Act.put, pA, pB, pC ]) ⟨hB, hX, x1, q1, n1, V.step 3 rfl⟩
          · go_wp2_with fail
            exact hK _ (.int .i64 (j : Int)) _ (by simp only [Act.put, pA, pB, pC ]) ⟨hB, hX, x1, q1, n1, V.step 4 rfl⟩
          · have e3 := V.at (zdq hd 3 rfl) rfl
            have e4 := V.at (zdq hd 4 rfl) rfl
            go_wp2_with fail
            exact hK _ (.pointer (some ⟨g, j * 64, none⟩)) _ (by simp only [Act.put, pA, pB, pC, e3, e4]) ⟨hB, hX, x1, q1, n1, V.step 5 rfl⟩
          · have e5 := V.at (zdq hd 5 rfl) rfl
            refine wp_load_mid 28 _ rfl _ (j * 64) e5 _ _ ((hV.below (by first | exact hB | exact hb.trans (hY.mono hb.size)) hV.lt).range hrow) Try.underlying28 rfl (by rw [zl]; exact Try.size28) ?_
            exact hK _ _ _ rfl ⟨hB, hX, x1, q1, n1, V.step 6 rfl⟩
          · go_wp2_with fail
            exact hK _ (.slice (some ⟨g2, 0, none⟩) Vs.length cU) _ (by simp only [Act.put, pA, pB, pC ]) ⟨hB, hX, x1, q1, n1, V.step 7 rfl⟩
          · go_wp2_with fail
            exact hK _ (.int .i64 (j : Int)) _ (by simp only [Act.put, pA, pB, pC ]) ⟨hB, hX, x1, q1, n1, V.step 8 rfl⟩
          · have e7 := V.at (zdq hd 7 rfl) rfl
            have e8 := V.at (zdq hd 8 rfl) rfl
            go_wp2_with fail
            exact hK _ (.pointer (some ⟨g2, j * 64, none⟩)) _ (by simp only [Act.put, pA, pB, pC, e7, e8]) ⟨hB, hX, x1, q1, n1, V.step 9 rfl⟩
          · have e9 := V.at (zdq hd 9 rfl) rfl
            refine wp_load_mid 28 _ rfl _ (j * 64) e9 _ _ ((hUs.below (by first | exact hB | exact hb.trans (hY.mono hb.size)) hUs.lt).range hrow2) Try.underlying28 rfl (by rw [zl]; exact Try.size28) ?_
            exact hK _ _ _ rfl ⟨hB, hX, x1, q1, n1, V.step 10 rfl⟩
          · have e2 := V.at (zdq hd 2 rfl) rfl
            have e6 := V.at (zdq hd 6 rfl) rfl
            have e10 := V.at (zdq hd 10 rfl) rfl
            go_wp2_with (go_at_call 59; refine (HAC.out _).mono ?_; rintro e wy ⟨rfl, hy⟩)
            exact hK _ (.agg (zb 64 (dfD n Vs Us j))) _ (by simp only [Act.put, pA, pB, pC, e2, e6, e10]) ⟨hB.trans (hy.mono hB.size), hX.below hy, (let ⟨g, h⟩ := x1; ⟨g, h.zw hy⟩), (fun h => (q1 h).below hy (q1 h).lt), (fun h => (n1 h).below hy (n1 h).lt), V.step 11 rfl⟩
          · have e0 := V.at (zdq hd 0 rfl) rfl
            have e1 := V.at (zdq hd 1 rfl) rfl
            go_wp2_with fail
            exact hK _ (.pointer (some ⟨N1, j * 64, none⟩)) _ (by simp only [Act.put, pA, pB, pC, e0, e1]) ⟨hB, hX, x1, q1, n1, V.step 12 rfl⟩
          · have e12 := V.at (zdq hd 12 rfl) rfl
            have e11 := V.at (zdq hd 11 rfl) rfl
            obtain ⟨gz, hk, hg⟩ : ∃ gz, Blk W3 (N1) (Vs.length * 64) 28 (fl 64 gz) ∧ updR gz (j) (dfD n Vs Us j) = updR (upX (dfD n Vs Us) j) (j) (dfD n Vs Us j) := by
             cases hL : L 13 with
             | false => exact ⟨_, q1 hL, rfl⟩
             | true => exact ⟨_, n1 hL, updR_twice _ _ _⟩
            refine wp_store_rowF 28 _ _ rfl _ (j) 64 Vs.length (dfD n Vs Us j) e12 e11 28 gz hk (by omega) (by decide) Try.size28 ?_
            rw [hg]
            exact hK _ undef _ rfl ⟨zr hB (by omega) _, hX.row (by simp) _, ⟨_, hk.row _⟩, (fun h => absurd h (by simp [setL])), (fun _ => hk.row _), V.skip 13 rfl⟩
        · intro L v W3 hL ⟨hB, hX, x1, q1, n1, V⟩
          have r1 := n1 (hL 13 (by decide))
          have e0 := V.at (hL 0 (by decide)) rfl
          have e1 := V.at (hL 1 (by decide)) rfl
          have e2 := V.at (hL 2 (by decide)) rfl
          have e3 := V.at (hL 3 (by decide)) rfl
          have e4 := V.at (hL 4 (by decide)) rfl
          have e5 := V.at (hL 5 (by decide)) rfl
          have e6 := V.at (hL 6 (by decide)) rfl
          have e7 := V.at (hL 7 (by decide)) rfl
          have e8 := V.at (hL 8 (by decide)) rfl
          have e9 := V.at (hL 9 (by decide)) rfl
          have e10 := V.at (hL 10 (by decide)) rfl
          have e11 := V.at (hL 11 (by decide)) rfl
          have e12 := V.at (hL 12 (by decide)) rfl
          clear hL x1 q1 n1 V
          replace B0 := B0.kx hX (by simp <;> omega)
          clear hX
          simp only [Exit.then, e0, e1, e2, e3, e4, e5, e6, e7, e8, e9, e10, e11, e12]
          clear e0 e1 e2 e3 e4 e5 e6 e7 e8 e9 e10 e11 e12
          replace B1 := r1
          clear r1
          replace hb := hB
          clear hB
          clear hbase lt_B0 lt_B1
          have hR9 := B1
          rw [upX_s] at hR9
          go_wp2_with fail
          go_roundw
          case rel => exact ⟨j + 1, by go_num, by omega, hb, B0, hR9⟩
          case measure => simp [intOf] <;> omega
      · have hjI : ¬ (j : Int) < (Vs.length : Int) := by omega
        obtain rfl : j = Vs.length := by omega
        have hS9 : SlL wr w.heap.size 28 64 (.slice (some ⟨N1, 0, none⟩) Vs.length Vs.length) (plR (dfL n Vs Us Vs.length)) := by
         have := slL_ofBlk B1 hcw (by unfold maxLen; omega)
         rw [HX.out] at this
         unfold dfL
         exact this
        have HRB := Lib.hid (fun W h => HRA.out W (some ⟨N1, 0, none⟩) Vs.length w.heap.size h)
        rw [dfL_len] at HRB
        have HV2 := Lib.hid (HV.out n rfl)
        clear B1 HRA
        go_wp2_with (first | (refine zla (.tmp 5) B0 Try.underlying28 Try.size28 ?_) | (refine zbo rfl 70 _ rfl (fdC (n : Int) m).toArray (by rw [Array.toList_map]; exact built_fd (n : Int) m) ?_) | (go_at_call 57; refine (HRB.out _ hS9).mono ?_; rintro e W7 ⟨rfl, h7⟩))
        go_ret2
        exact ⟨by rw [HV2.out]; rfl, hb.trans (h7.mono hb.size)⟩
   · have HV := Lib.hid (rdV_2 hck (fun x => hnn x.2))
     have j2 : ((Vs.length : Int) != (Us.length : Int)) = true := by simp; omega
     clear hck hnn
     go_wp2_with fail
     go_ret2
     exact ⟨by rw [HV.out]; rfl, hb⟩
 · subst h0
   have HV := Lib.hid (rdV_1 (hC1 hC))
   clear hC hC1 hC2
   go_wp2_with fail
   go_ret2
   exact ⟨by rw [HV.out]; rfl, hb⟩
 · subst h0
   obtain ⟨hck, h4⟩ := hC2 hC
   have HV := Lib.hid (rdV_2 hck (fun x => h4 ⟨x.1, by omega⟩))
   clear hC hC1 hC2 hck h4
   go_wp2_with fail
   go_ret2
   exact ⟨by rw [HV.out]; rfl, hb⟩
end Go.Proofs.Ytelgefgphhebnaa
end
section
namespace Go.Proofs.Ytelgefgphhebnaa
open Go Go.RowKit
set_option linter.unusedVariables false
set_option linter.unusedSimpArgs false
set_option maxRecDepth 100000 in
set_option maxHeartbeats 3200000 in
theorem FnExactRankDistance_walkA (w : World) (p : Int) (m : Nat → Nat) (hm : byte m) (aV : Option Addr) (nV cV : Nat) (XV : Nat → Nat → Nat) (xV : ∀ i, byte (XV i)) (wV : nV ≤ maxLen) (aW2 : Option Addr) (nW2 cW2 : Nat) (XW2 : Nat → Nat → Nat) (xW2 : ∀ i, byte (XW2 i)) (wW2 : nW2 ≤ maxLen) (lV : Lst w aV nV XV) (lW2 : Lst w aW2 nW2 XW2) :
 Calls Try.prog 6 #[.int .i64 p, .agg (zb 64 m), .slice aV nV cV, .slice aW2 nW2 cW2] w fun e w' => e = .returned (.bool true) ∧ Below w.heap.size w w' := by
 go_enter Try.func6, Try.ntmps6
 go_upto_region 1 with (fail)
 obtain ⟨W1, hwo⟩ : ∃ v : World, v = (w.alloc (.cells (zb 64 (m)) 22)) := ⟨_, rfl⟩
 have B0 : Blk W1 (w.heap.size) 64 22 (m) := by subst hwo; have := (Blk.new w 64 22 (m)); simpa using this
 have hb : Below w.heap.size w W1 := by subst hwo; exact ((Below.refl _ _).alloc (Nat.le_refl _) _)
 rw [← hwo]
 clear hwo
 by_cases hs0 : (nV : Int) ≤ 1048576
 · have hneg0 : ¬ (1048576 - (nV : Int) < 0) := by omega
   go_upto_region 5 with (first | (go_at_call 14; refine (szPolyS_at aV nV cV (1048576) _ wV (by omega) (by omega)).mono ?_; rintro e wS ⟨rfl, rfl⟩; rw [if_pos hs0]))
   obtain ⟨lf0, hlf0⟩ : ∃ z : Int, z = 1048576 - (nV : Int) := ⟨_, rfl⟩
   rw [← hlf0]
   have hlb0 : 0 ≤ lf0 := by omega
   have hlc0 : lf0 ≤ 1048576 := by omega
   have HLF0 := Lib.hid hlf0
   clear hlf0 hneg0
   by_cases hs1 : (nW2 : Int) ≤ lf0
   · have hneg1 : ¬ (lf0 - (nW2 : Int) < 0) := by omega
     go_upto_region 8 with (first | (go_at_call 14; refine (szPolyS_at aW2 nW2 cW2 (lf0) _ wW2 (by omega) (by omega)).mono ?_; rintro e wS ⟨rfl, rfl⟩; rw [if_pos hs1]))
     have hm0 : (nV : Int) ≤ 1048576 := by omega
     have hm1 : (nW2 : Int) ≤ 1048576 := by omega
     obtain ⟨LV, hLV⟩ : ∃ L : List (Nat → Nat), L = (List.range nV).map XV := ⟨_, rfl⟩
     have hlV : LV.length = nV := by rw [hLV]; simp
     have hbyV : ∀ z, z ∈ LV → byte z := fun z hz => by rw [hLV] at hz; obtain ⟨i, _, rfl⟩ := List.mem_map.1 hz; exact xV i
     have hlenV : (LV.length : Int) ≤ 1048576 := by omega
     have HTOV := Lib.hid (fun W (hW : Below w.heap.size w W) => hLV ▸ toPolyS_any aV nV cV XV xV W (lV.below hW) hm0)
     have HEQV := Lib.hid (fun b b2 q q2 W h1 h2 => show Calls Try.prog 20 #[.slice (some ⟨b, 0, none⟩) nV nV, .slice (some ⟨b2, 0, none⟩) nV nV] W _ from hlV ▸ eqPolyS_big LV (some ⟨b, 0, none⟩) (some ⟨b2, 0, none⟩) LV.length LV.length q q2 W (hlV ▸ h1) (hlV ▸ h2) (by omega))
     clear hLV
     obtain ⟨LW2, hLW2⟩ : ∃ L : List (Nat → Nat), L = (List.range nW2).map XW2 := ⟨_, rfl⟩
     have hlW2 : LW2.length = nW2 := by rw [hLW2]; simp
     have hbyW2 : ∀ z, z ∈ LW2 → byte z := fun z hz => by rw [hLW2] at hz; obtain ⟨i, _, rfl⟩ := List.mem_map.1 hz; exact xW2 i
     have hlenW2 : (LW2.length : Int) ≤ 1048576 := by omega
     have HTOW2 := Lib.hid (fun W (hW : Below w.heap.size w W) => hLW2 ▸ toPolyS_any aW2 nW2 cW2 XW2 xW2 W (lW2.below hW) hm1)
     have HEQW2 := Lib.hid (fun b b2 q q2 W h1 h2 => show Calls Try.prog 20 #[.slice (some ⟨b, 0, none⟩) nW2 nW2, .slice (some ⟨b2, 0, none⟩) nW2 nW2] W _ from hlW2 ▸ eqPolyS_big LW2 (some ⟨b, 0, none⟩) (some ⟨b2, 0, none⟩) LW2.length LW2.length q q2 W (hlW2 ▸ h1) (hlW2 ▸ h2) (by omega))
     clear hLW2
     have HSP := Lib.hid (fun (W : World) (bV : Nat) (qV : Nat) (sV : SlL W qV 28 64 (.slice (some ⟨bV, 0, none⟩) nV nV) (plR LV)) (bW2 : Nat) (qW2 : Nat) (sW2 : SlL W qW2 28 64 (.slice (some ⟨bW2, 0, none⟩) nW2 nW2) (plR LW2)) => show Calls Try.prog 29 #[.int .i64 p, .agg (zb 64 m), .slice (some ⟨bV, 0, none⟩) nV nV, .slice (some ⟨bW2, 0, none⟩) nW2 nW2] W _ from by
      have := spec_RankDistance_any p m LV LW2 (some ⟨bV, 0, none⟩) (some ⟨bW2, 0, none⟩) LV.length LW2.length qV qW2 W hm hbyV hlenV hbyW2 hlenW2 (hlV ▸ sV) (hlW2 ▸ sW2)
      rw [hlV, hlW2] at this
      exact this)
     have HIM := Lib.hid (fun (W : World) (bV : Nat) (qV : Nat) (sV : SlL W qV 28 64 (.slice (some ⟨bV, 0, none⟩) nV nV) (plR LV)) (bW2 : Nat) (qW2 : Nat) (sW2 : SlL W qW2 28 64 (.slice (some ⟨bW2, 0, none⟩) nW2 nW2) (plR LW2)) => show Calls Try.prog 30 #[.int .i64 p, .agg (zb 64 m), .slice (some ⟨bV, 0, none⟩) nV nV, .slice (some ⟨bW2, 0, none⟩) nW2 nW2] W _ from by
      have := impl_RankDistance_any p m LV LW2 (some ⟨bV, 0, none⟩) (some ⟨bW2, 0, none⟩) LV.length LW2.length qV qW2 W hm hbyV hlenV hbyW2 hlenW2 (hlV ▸ sV) (hlW2 ▸ sW2)
      rw [hlV, hlW2] at this
      exact this)
     clear hbyV hbyW2
     have hne0 : (((rdV p m LV LW2).1) != ((rdV p m LV LW2).1)) = false := by simp
     have hne1 : (((rdV p m LV LW2).2) != ((rdV p m LV LW2).2)) = false := by simp
     go_upto_region 9 with (first | (refine zla (.tmp 5) B0 Try.underlying22 Try.size22 ?_) | (go_at_call 16; refine (toPoly_any m hm _).mono ?_; rintro e W1 ⟨rfl, h2⟩; replace B0 := B0.zw h2; replace hb := hb.trans (h2.mono hb.size)) | (go_at_call 17; with_reducible refine (HTOV.out _ hb).mono ?_; rintro e W2 ⟨bV, rfl, hsV, _, h2⟩; replace B0 := B0.zw h2; replace hb := hb.trans (h2.mono hb.size)) | (go_at_call 17; with_reducible refine (HTOW2.out _ hb).mono ?_; rintro e W2 ⟨bW2, rfl, hsW2, _, h2⟩; (try (replace hsV := hsV.zw h2)); replace B0 := B0.zw h2; replace hb := hb.trans (h2.mono hb.size)) | (go_at_call 29; refine (HSP.out _ _ _ hsV _ _ hsW2).mono ?_; rintro e W3 ⟨rfl, h2⟩; replace B0 := B0.zw h2; replace hb := hb.trans (h2.mono hb.size)))
     clear hsV hsW2 HSP
     go_upto_region 10 with (first | (go_at_call 17; with_reducible refine (HTOV.out _ hb).mono ?_; rintro e W2 ⟨bV, rfl, hsV, _, h2⟩; replace B0 := B0.zw h2; replace hb := hb.trans (h2.mono hb.size)))
     go_upto_region 11 with (first | (go_at_call 17; with_reducible refine (HTOW2.out _ hb).mono ?_; rintro e W2 ⟨bW2, rfl, hsW2, _, h2⟩; (try (replace hsV := hsV.zw h2)); replace B0 := B0.zw h2; replace hb := hb.trans (h2.mono hb.size)))
     go_upto_region 12 with (first | (refine zla (.tmp 5) B0 Try.underlying22 Try.size22 ?_) | (go_at_call 16; refine (toPoly_any m hm _).mono ?_; rintro e W1 ⟨rfl, h2⟩; (try (replace hsV := hsV.zw h2)); (try (replace hsW2 := hsW2.zw h2)); replace B0 := B0.zw h2; replace hb := hb.trans (h2.mono hb.size)) | (go_at_call 30; refine (HIM.out _ _ _ hsV _ _ hsW2).mono ?_; rintro e W3 ⟨rfl, h2⟩; (try (replace hsV := hsV.zw h2)); (try (replace hsW2 := hsW2.zw h2)); replace B0 := B0.zw h2; replace hb := hb.trans (h2.mono hb.size)))
     clear HIM
     go_upto_region 14 with (fail)
     go_upto_region 16 with (first | (go_at_call 17; with_reducible refine (HTOV.out _ hb).mono ?_; rintro e W2 ⟨yV, rfl, zV, _, h2⟩; (try (replace hsV := hsV.zw h2)); (try (replace hsW2 := hsW2.zw h2)); replace B0 := B0.zw h2; replace hb := hb.trans (h2.mono hb.size)) | (go_at_call 20; refine (HEQV.out _ _ _ _ _ hsV zV).mono ?_; rintro e W4 ⟨rfl, h2⟩; (try (replace hsW2 := hsW2.zw h2)); replace B0 := B0.zw h2; replace hb := hb.trans (h2.mono hb.size)))
     go_wp2_with (first | (go_at_call 17; with_reducible refine (HTOW2.out _ hb).mono ?_; rintro e W2 ⟨yW2, rfl, zW2, _, h2⟩; (try (replace hsV := hsV.zw h2)); (try (replace hsW2 := hsW2.zw h2)); replace B0 := B0.zw h2; replace hb := hb.trans (h2.mono hb.size)) | (go_at_call 20; refine (HEQW2.out _ _ _ _ _ hsW2 zW2).mono ?_; rintro e W4 ⟨rfl, h2⟩; (try (replace hsV := hsV.zw h2)); replace B0 := B0.zw h2; replace hb := hb.trans (h2.mono hb.size)))
     go_ret
     exact ⟨rfl, hb⟩
   · go_wp2_with (first | (go_at_call 14; refine (szPolyS_at aW2 nW2 cW2 (lf0) _ wW2 (by omega) (by omega)).mono ?_; rintro e wS ⟨rfl, rfl⟩; rw [if_neg hs1]))
     go_ret
     exact ⟨rfl, hb⟩
 · go_wp2_with (first | (go_at_call 14; refine (szPolyS_at aV nV cV (1048576) _ wV (by omega) (by omega)).mono ?_; rintro e wS ⟨rfl, rfl⟩; rw [if_neg hs0]))
   go_ret
   exact ⟨rfl, hb⟩
theorem FnExactRankDistance_walk {w : World} (p : Int) (m : Nat → Nat) (hm : byte m) (aV : Option Addr) (nV cV : Nat) (XV : Nat → Nat → Nat) (xV : ∀ i, byte (XV i)) (wV : nV ≤ maxLen) (lV : Lst w aV nV XV) (aW2 : Option Addr) (nW2 cW2 : Nat) (XW2 : Nat → Nat → Nat) (xW2 : ∀ i, byte (XW2 i)) (wW2 : nW2 ≤ maxLen) (lW2 : Lst w aW2 nW2 XW2) (w' : World) (hw : w' = w) :
 Calls Try.prog 6 #[.int .i64 p, .agg (zb 64 m), .slice aV nV cV, .slice aW2 nW2 cW2] w fun e w' => e = .returned (.bool true) ∧ Below w.heap.size w w' :=
 FnExactRankDistance_walkA w p m hm aV nV cV XV xV wV aW2 nW2 cW2 XW2 xW2 wW2 lV lW2
end Go.Proofs.Ytelgefgphhebnaa
end
