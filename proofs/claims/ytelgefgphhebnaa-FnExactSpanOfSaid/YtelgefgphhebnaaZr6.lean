/-
  What the rows of this claim rest on: arrays of bytes, walks of the functions, plain mathematics.
-/
import Derived.Test.YtelgefgphhebnaaZr5
import Derived.Handy
import Derived.Laws.MakeOwn
import Derived.OpenShut
import Derived.ProofKit
import Derived.Deep.Slices
import Derived.Carry
section
namespace Go.Proofs.Ytelgefgphhebnaa
open Go Go.RowKit
set_option linter.unusedVariables false
section
variable {P : Program}
theorem wp_load_rowc {o : Oper} {a : Act} {w : World} {K : Act → World → Prop} {Q : Exit → Act → World → Prop} (ty : TypeId) (x : Operand) (ho : o.op = .load ty x)
 (b i : Nat) (hx : a.eval x = .pointer (some ⟨b, i, none⟩)) (t : TypeId) (cs : Array Value) (hb : Row w b t cs) (v : Value) (hi : cs[i]? = some v) (d : TypeDesc)
 (hu : P.underlying ty = some d) (hd : (match d with | .struct _ | .array _ _ => true | _ => false) = false) (h : K (a.put o.dst v) w) : o.wp P a w K Q := by
 have hc := hb.cell hi
 have hagg : (isAgg ty).run P w = .ok false w := by
  unfold isAgg
  rw [Sem.run_bind, run_underlying hu w]
  cases d <;> simp_all
 unfold Oper.wp execOp
 simp only [ho, hx, Instr.loadAt, Instr.sureAddr, Sem.run_bind, Sem.run_pure, Result.andThen_ok, loadVar, hagg, Bool.false_eq_true, if_false, Sem.run_ite, run_load, hc]
 exact h
theorem wpList_load_rowc {ops : Array Oper} {rest : List Oper} {o : Oper} {a : Act} {w : World} {Q : Exit → Act → World → Prop} (hgd : o.guard = none) (ty : TypeId) (x : Operand) (ho : o.op = .load ty x)
 (b i : Nat) (hx : a.eval x = .pointer (some ⟨b, i, none⟩)) (t : TypeId) (cs : Array Value) (hb : Row w b t cs) (v : Value) (hi : cs[i]? = some v) (d : TypeDesc)
 (hu : P.underlying ty = some d) (hd : (match d with | .struct _ | .array _ _ => true | _ => false) = false) (h : wpList P ops Q rest (a.put o.dst v) w) : wpList P ops Q (o :: rest) a w :=
 wpList_plain hgd fun _ hK => wp_load_rowc ty x ho b i hx t cs hb v hi d hu hd (hK _ _ h)
end
end Go.Proofs.Ytelgefgphhebnaa
end
section
namespace Go.Proofs.Ytelgefgphhebnaa
open Go Go.RowKit
set_option linter.unusedVariables false
section
variable {P : Program} {ops : Array Oper} {Q : Exit → Act → World → Prop}
/-- what is asked of operation i -/
def StepOkU (P : Program) (ops : Array Oper) (Q : Exit → Act → World → Prop) (a0 : Act) (Ψ : (Nat → Bool) → (Nat → Value) → World → Prop) (i : Nat) (o : Oper) : Prop :=
 ∀ (L : Nat → Bool) (v : Nat → Value) (w : World), (∀ e, e ∈ o.after → Region.binds .any e = true → L e.on = true) →
  (∀ j p, ops[j]? = some p → L j = true → ∀ e, e ∈ p.after → Region.binds .any e = true → e.on ≠ i) → L i = false → Ψ L v w →
  ∀ K : Act → World → Prop, (∀ a' y w', a' = (fr a0 ops v).put o.dst y → Ψ (setL L i) (updV v i y) w' → K a' w') →
   if Region.wanted o (yielded ops (fr a0 ops v).tmps) = true then Oper.wp P o (fr a0 ops v) w K Q else K ((fr a0 ops v).put o.dst undef) w

theorem wpAny_invU {a0 : Act} {Ψ : (Nat → Bool) → (Nat → Value) → World → Prop} (hd : dstsOkL ops.toList = true) (he : edgesOk ops = true)
 (hstep : ∀ i o, ops[i]? = some o → StepOkU P ops Q a0 Ψ i o)
 (hend : ∀ L v w, (∀ i, i < ops.size → L i = true) → Ψ L v w → Q .normal (fr a0 ops v) w) :
 ∀ (fuel : Nat) (listed : Array Bool) (v : Nat → Value) (w : World), listed.size = ops.size → (listed.toList.filter (!·)).length = fuel → Ψ (fun j => listed.getD j false) v w →
  (∀ j p, ops[j]? = some p → listed.getD j false = true → ∀ e, e ∈ p.after → Region.binds .any e = true → listed.getD e.on false = true) →
  wpAny P .any ops Q fuel listed (fr a0 ops v) w := by
 have hall : ∀ listed : Array Bool, listed.size = ops.size → Region.ready .any ops listed = [] → ∀ i, i < ops.size → listed.getD i false = true := by
  intro listed hs hr i
  induction i using Nat.strongRecOn with
  | _ i ih =>
   intro hi
   cases hb : listed.getD i false with
   | true => rfl
   | false =>
    exfalso
    have hmem : i ∈ Region.ready .any ops listed := by
     unfold Region.ready
     simp only [List.mem_filter, List.mem_range, hi, true_and, Bool.and_eq_true]
     have ho : ops[i]? = some ops[i] := Array.getElem?_eq_getElem hi
     constructor
     · have : listed.getD i true = false := by
        have h2 : i < listed.size := by omega
        simpa [Array.getD, h2] using hb
       simp [this]
     · rw [ho]
       simp only [Option.map_some, Option.getD_some, Array.all_eq_true_iff_forall_mem]
       intro e hem
       have hE := he
       unfold edgesOk at hE
       rw [List.all_eq_true] at hE
       have := hE i (by simpa using hi)
       rw [ho] at this
       simp only [Option.map_some, Option.getD_some, Array.all_eq_true_iff_forall_mem] at this
       have h3 := this e hem
       cases hbd : Region.binds .any e with
       | false => simp
       | true =>
        simp only [hbd, Bool.not_true, Bool.false_or, decide_eq_true_eq] at h3
        simp [ih e.on h3 (by omega)]
    rw [hr] at hmem
    cases hmem
 intro fuel
 induction fuel with
 | zero =>
  intro listed v w hs hc hI _
  have hl : ∀ i, i < ops.size → listed.getD i false = true := by
   intro i hi
   have h2 : i < listed.size := by omega
   cases hb : listed[i] with
   | true => simp [Array.getD, h2, hb]
   | false =>
    exfalso
    have : false ∈ listed.toList.filter (!·) := by
     rw [List.mem_filter]
     exact ⟨by rw [← hb]; simp, rfl⟩
    rw [List.length_eq_zero_iff.1 hc] at this
    cases this
  refine ⟨?_, hend _ v w hl hI⟩
  unfold Region.ready
  rw [List.filter_eq_nil_iff]
  intro i hi
  have hi' : i < ops.size := by simpa using hi
  have h2 : i < listed.size := by omega
  have := hl i hi'
  have h4 : listed.getD i true = true := by simpa [Array.getD, h2] using this
  simp [h4]
 | succ fuel ih =>
  intro listed v w hs hc hI hcl
  refine ⟨fun hr => hend _ v w (hall listed hs hr) hI, ?_⟩
  intro i hi
  unfold Region.ready at hi
  simp only [List.mem_filter, List.mem_range, Bool.and_eq_true] at hi
  obtain ⟨hin, hnl, haf⟩ := hi
  have ho : ops[i]? = some ops[i] := Array.getElem?_eq_getElem hin
  rw [ho] at haf
  simp only [Option.map_some, Option.getD_some, Array.all_eq_true_iff_forall_mem] at haf
  have h2 : i < listed.size := by omega
  have hfalse : listed[i] = false := by
   have : listed.getD i true = false := by simpa using hnl
   simpa [Array.getD, h2] using this
  refine wpOp_step ho fun K' hK => ?_
  refine hstep i _ ho _ v w ?_ ?_ (by simp [Array.getD, h2, hfalse]) hI K' ?_
  · intro e hem hb
    have := haf e hem
    simpa [hb] using this
  · intro j p hp hj e hem hb he'
    have := hcl j p hp hj e hem hb
    rw [he'] at this
    simp [Array.getD, h2, hfalse] at this
  · intro a' y w' ha' hΨ
    subst ha'
    refine hK _ _ ?_
    have hst : (fr a0 ops v).put ops[i].dst y = fr a0 ops (updV v i y) := by
     have := frL_step ops.toList a0 0 v i ops[i] y hd (by simp [hin])
     rw [Nat.zero_add] at this
     exact this
    rw [hst]
    have e : (fun j => (listed.setIfInBounds i true).getD j false) = setL (fun j => listed.getD j false) i := by
     funext j
     unfold setL
     by_cases h : j = i
     · subst h; simp [Array.getD, h2]
     · have h' : ¬ i = j := fun e => h e.symm
       simp only [h, if_false, Array.getD, Array.size_setIfInBounds]
       by_cases h3 : j < listed.size
       · simp [h3, h']
       · simp [h3]
    refine ih _ _ _ (by simpa using hs) ?_ ?_ ?_
    · have : ∀ (l : List Bool) (i : Nat) (h : i < l.length), l[i] = false → ((l.set i true).filter (!·)).length + 1 = (l.filter (!·)).length := by
       intro l
       induction l with
       | nil => intro i h; simp at h
       | cons b l ihl =>
        intro i h hf
        cases i with
        | zero => simp at hf; subst hf; simp
        | succ i =>
         simp only [List.set_cons_succ]
         have := ihl i (by simpa using h) (by simpa using hf)
         cases b <;> simp <;> omega
      have := this listed.toList i (by simpa using h2) (by simpa using hfalse)
      rw [Array.toList_setIfInBounds]
      omega
    · rw [e]
      exact hΨ
    · intro j p hp hj e2 hem hb
      have ej := congrFun e j
      have ee := congrFun e e2.on
      skip
      rw [ej] at hj
      rw [ee]
      unfold setL at hj ⊢
      by_cases h1 : e2.on = i
      · simp [h1]
      · simp only [h1, if_false]
        by_cases h2 : j = i
        · subst h2
          rw [ho] at hp
          simp only [Option.some.injEq] at hp
          subst hp
          have := haf e2 hem
          simpa [hb] using this
        · simp only [h2, if_false] at hj
          exact hcl j p hp hj e2 hem hb

theorem wp_region_psiU {id : Nat} {a0 : Act} {w : World} (hm : P.follows .mixedOrders = true) (hd : dstsOkL ops.toList = true) (he : edgesOk ops = true)
 (Ψ : (Nat → Bool) → (Nat → Value) → World → Prop) (h0 : Ψ (fun _ => false) (fun i => ((ops[i]?.bind (·.dst)).map fun t => a0.tmps.getD t undef).getD undef) w.drew)
 (hstep : ∀ i o, ops[i]? = some o → StepOkU P ops Q a0 Ψ i o)
 (hend : ∀ L v w, (∀ i, i < ops.size → L i = true) → Ψ L v w → Q .normal (fr a0 ops v) w) : (Code.region id ops true).wp P Q a0 w := by
 refine wp_region_any hm ?_
 have hfr : fr a0 ops (fun i => ((ops[i]?.bind (·.dst)).map fun t => a0.tmps.getD t undef).getD undef) = a0 := by
  refine frL_start _ _ _ _ fun i o ho => ?_
  have ho' : ops[i]? = some o := by simpa using ho
  simp [ho']
 have key := wpAny_invU (P := P) (Q := Q) hd he hstep hend ops.size (Array.replicate ops.size false) (fun i => ((ops[i]?.bind (·.dst)).map fun t => a0.tmps.getD t undef).getD undef) w.drew (by simp) (by simp) (by
  have e : (fun j => (Array.replicate ops.size false).getD j false) = fun _ => false := by
   funext j; simp [Array.getD]
  rw [e]; exact h0) (by
  intro j p _ hj
  simp [Array.getD] at hj)
 rw [hfr] at key
 exact key

/-- what is asked of operation i, no guard before it; F: the frame, written out -/
def StepV (P : Program) (ops : Array Oper) (Q : Exit → Act → World → Prop) (F : (Nat → Value) → Act) (Ψ : (Nat → Bool) → (Nat → Value) → World → Prop) (i : Nat) (o : Oper) : Prop :=
 ∀ (L : Nat → Bool) (v : Nat → Value) (w : World), (∀ e, e ∈ o.after → Region.binds .any e = true → L e.on = true) →
  (∀ j p, ops[j]? = some p → L j = true → ∀ e, e ∈ p.after → Region.binds .any e = true → e.on ≠ i) → L i = false → Ψ L v w →
  ∀ K : Act → World → Prop, (∀ a' y w', a' = (F v).put o.dst y → Ψ (setL L i) (updV v i y) w' → K a' w') → Oper.wp P o (F v) w K Q
inductive StepsV (P : Program) (ops : Array Oper) (Q : Exit → Act → World → Prop) (F : (Nat → Value) → Act) (Ψ : (Nat → Bool) → (Nat → Value) → World → Prop) : List Oper → Nat → Prop
 | nil (k : Nat) : StepsV P ops Q F Ψ [] k
 | cons {o : Oper} {os : List Oper} {k : Nat} (hg : o.guard = none) (h : StepV P ops Q F Ψ k o) (hs : StepsV P ops Q F Ψ os (k + 1)) : StepsV P ops Q F Ψ (o :: os) k
theorem steps_ofV {F : (Nat → Value) → Act} {Ψ : (Nat → Bool) → (Nat → Value) → World → Prop} : ∀ (os : List Oper) (k : Nat), StepsV P ops Q F Ψ os k → ∀ i o, os[i]? = some o → o.guard = none ∧ StepV P ops Q F Ψ (k + i) o
 | [], _, _, _, _, h => by simp at h
 | p :: os, k, hs, 0, o, h => by
  simp only [List.getElem?_cons_zero, Option.some.injEq] at h
  subst h
  cases hs with
  | cons hg h _ => exact ⟨hg, h⟩
 | p :: os, k, hs, i + 1, o, h => by
  cases hs with
  | cons _ _ hs =>
   have := steps_ofV os (k + 1) hs i o (by simpa using h)
   rwa [show k + 1 + i = k + (i + 1) by omega] at this
theorem wp_region_stepsU {os : List Oper} {id : Nat} {a0 : Act} {w : World} (hm : P.follows .mixedOrders = true) (hd : dstsOkL os = true) (he : edgesOk os.toArray = true)
 {F : (Nat → Value) → Act} (hF : ∀ v, frL a0 os 0 v = F v)
 (Ψ : (Nat → Bool) → (Nat → Value) → World → Prop) (h0 : Ψ (fun _ => false) (fun i => ((os.toArray[i]?.bind (·.dst)).map fun t => a0.tmps.getD t undef).getD undef) w.drew)
 (hstep : StepsV P os.toArray Q F Ψ os 0)
 (hend : ∀ L v w, (∀ i, i < os.length → L i = true) → Ψ L v w → Q .normal (F v) w) : (Code.region id os.toArray true).wp P Q a0 w := by
 refine wp_region_psiU hm (by simpa using hd) he Ψ h0 (fun i o ho => ?_) (fun L v w hL hΨ => ?_)
 · obtain ⟨hg, hs⟩ := steps_ofV _ _ hstep i o (by simpa using ho)
   rw [Nat.zero_add] at hs
   intro L v w h1 h2 hU h3 K hK
   have hw : Region.wanted o (yielded os.toArray (fr a0 os.toArray v).tmps) = true := by simp [Region.wanted, hg]
   rw [if_pos hw]
   have hf : fr a0 os.toArray v = F v := hF v
   rw [hf] at hK ⊢
   exact hs L v w h1 h2 hU h3 K hK
 · have hf : fr a0 os.toArray v = F v := hF v
   rw [hf]
   exact hend L v w (by simpa using hL) hΨ
end
section
variable {P : Program}
theorem wp_append_sl {o : Oper} {a : Act} {w : World} {K : Act → World → Prop} {Q : Exit → Act → World → Prop} (s x : Operand) (t : TypeId) (hop : o.op = Op.call { callee := Callee.builtin Builtin.append, args := #[s, x], argTypes := #[t, t] })
 (base : Nat) (e : TypeId) (z : Value) (size bytes : Nat) (h1 : P.underlying t = some (.slice e)) (h2 : (P.info? e).map (fun i => (i.zero, i.size, i.bytes)) = some (some z, size, bytes)) (h6 : z.cells.size = size) (h7 : 0 < size)
 (v : Value) (cs : List (List Value)) (hs : a.eval s = v) (hown : SlL w base e size v cs) (g : Nat) (c : List Value) (hx : a.eval x = .slice (some ⟨g, 0, none⟩) 1 1) (hc : c.length = size)
 (hcell : w.rangeAt g 0 c) (h1c : ∀ u ∈ c, u.oneCell' = true) (b1 : cs.length + 1 ≤ maxLen) (b2 : (cs.length + 1) * bytes ≤ 140737488355328)
 (hK : ∀ v' w', SlL w' base e size v' (cs ++ [c]) → w.grownBy w' v.ownBlock → K (a.put o.dst v') w') : o.wp P a w K Q := by
 obtain ⟨i0, hi, hz0, hz1, hz2⟩ := info_parts h2
 delta SlL at hown
 refine wp_append_own w s x t hop base e i0 z size bytes h1 hi hz0 hz1 hz2 h6 h7 v cs.length cs.flatten hs hown.2.2 ⟨g, 0, none⟩ 1 1 c hx (by omega) (fun j u hu => ?_) h1c b1 b2 hown.1 ?_
 · have := hcell j u hu
   rw [Nat.zero_add] at this
   have e : (⟨g, 0, none⟩ : Addr).add j = ⟨g, j, none⟩ := by unfold Addr.add; split <;> simp_all
   rw [e]; exact this
 · intro v' w' h1' h2' _
   refine hK v' w' ?_ h2'
   delta SlL
   refine ⟨Nat.le_trans hown.1 h2'.size, fun d hd => ?_, by simpa using h1'⟩
   rcases List.mem_append.1 hd with h | h
   · exact hown.2.1 d h
   · rw [List.mem_singleton] at h; rw [h]; exact hc
theorem wp_build1 {o : Oper} {a : Act} {w : World} {K : Act → World → Prop} {Q : Exit → Act → World → Prop} (t : TypeId) (parts : Array (Nat × Operand)) (c : List Value) (size : Nat)
 (ho : o.op = .buildSlice t 1 parts) (e : TypeId) (hu : P.underlying t = some (.slice e)) (hie : (P.info? e).map (fun i => (i.size, i.zero.isSome)) = some (size, true)) (hpos : 0 < size) (hsm : size ≤ 65536) (hc : c.length = size)
 (hp : (parts.toList.map fun x => (x.1, a.eval x.2)) = [(0, Value.agg c.toArray)])
 (h : ∀ w', Row w' w.heap.size e c.toArray → Below w.heap.size w w' → K (a.put o.dst (.slice (some ⟨w.heap.size, 0, none⟩) 1 1)) w') : o.wp P a w K Q := by
 cases hi : P.info? e with
 | none => simp [hi] at hie
 | some ie =>
  simp only [hi, Option.map_some, Option.some.injEq, Prod.mk.injEq] at hie
  obtain ⟨hs, hz⟩ := hie
  obtain ⟨z, hzz⟩ := Option.isSome_iff_exists.1 hz
  refine wp_buildSlice t e 1 parts ho _ ie z hu hi hzz (by rw [hs]; omega) (by rw [hs]; omega) ?_ (h _ (Row.new w e c.toArray) (zal _ _))
  rw [Array.toList_map, hp, hs]
  have := fill_cat size [c] 0 [] ((Array.range (1 * size)).map (z.cells[· % z.cells.size]!)).toList (by simpa using hc) (by simp) (by simp)
  rw [List.nil_append, List.nil_append, Array.toArray_toList] at this
  simpa using this
end
end Go.Proofs.Ytelgefgphhebnaa
end
section
namespace Go.Proofs.Ytelgefgphhebnaa
open Go Go.RowKit
set_option linter.unusedVariables false
set_option linter.unusedSimpArgs false
theorem callsB2 {fn : FuncId} {args : Array Value} {w : World} {v : Ending} (h : Calls Try.prog fn args w fun e w' => e = v ∧ w = w') : Calls Try.prog fn args w fun e w' => e = v ∧ Below w.heap.size w w' := h.mono (by rintro e w' ⟨rfl, rfl⟩; exact ⟨rfl, Below.refl _ _⟩)
def rsC (p : Int) : List Value := [.int .i64 p]
theorem rsC_at (p : Int) : (rsC p).toArray[0]? = some (.int .i64 p) := rfl
theorem built_rs (p : Int) : Try.prog.built 114 [(0, .int .i64 p)] = some (rsC p).toArray := by unfold rsC; kernel_rfl
theorem clr_impl {p t : Nat} {x y : Nat → Nat} (hp : 0 < p) (ly : ∀ k, k < 64 → y k < p) (hy : deg y = (t : Int)) : ∀ k, k < 64 → (x k + p - sclP p y (x t) k) % p = clr p x y k := fun k hk => by
 have e : (((x k + p - sclP p y (x t) k) % p : Nat) : Int) = ((clr p x y k : Nat) : Int) := by
  rw [clr_cast hp hy]
  unfold sclP
  have h1 : y k * x t % p < p := Nat.mod_lt _ hp
  rw [Int.natCast_emod, Int.ofNat_sub (by omega), Int.natCast_add, Int.natCast_emod, Int.natCast_mul, Int.sub_emod, Int.add_emod_right, Int.emod_emod_of_dvd _ (Int.dvd_refl _), ← Int.sub_emod, Int.mul_comm (y k : Int)]
 exact Int.ofNat.inj e
/-- the order of two numbers -/
def cmpZ (x y : Int) : Int := if x < y then -1 else if x > y then 1 else 0
theorem cmpZ_neg (x y : Int) : cmpZ x y < 0 ↔ x < y := by
 unfold cmpZ
 split
 · omega
 · split <;> omega
theorem cmpZ_b (x y : Int) : -1 ≤ cmpZ x y ∧ cmpZ x y ≤ 1 := by
 unfold cmpZ
 split
 · omega
 · split <;> omega
theorem belGr {w w' : World} (h : Below w.heap.size w w') (row : Option Nat) : w.grownBy w' row := ⟨h.os, h.tape, h.output, h.size, fun k hk _ => h.block k hk⟩
theorem sdL_len : ∀ (j : Nat) (L : List (Nat → Nat)), (sdL j L).length = L.length
 | 0, L => rfl
 | j + 1, L => by
  rw [sdL]
  split
  · split
    · rw [sdL_len j, List.length_set, List.length_set]
    · rfl
  · rfl
theorem isL_len : ∀ (i : Nat) (L : List (Nat → Nat)), (isL i L).length = L.length
 | 0, L => rfl
 | i + 1, L => by rw [isL, sdL_len, isL_len i L]
theorem sdL_yes {j : Nat} {L : List (Nat → Nat)} {a b : Nat → Nat} (h1 : L[j]? = some a) (h2 : L[j + 1]? = some b) (h : deg a < deg b) : sdL (j + 1) L = sdL j ((L.set (j + 1) a).set j b) := by rw [sdL, h1, h2]; exact if_pos h
theorem sdL_no {j : Nat} {L : List (Nat → Nat)} {a b : Nat → Nat} (h1 : L[j]? = some a) (h2 : L[j + 1]? = some b) (h : ¬ deg a < deg b) : sdL (j + 1) L = L := by rw [sdL, h1, h2]; exact if_neg h
attribute [irreducible] rsC cmpZ
attribute [local irreducible] deg clr mkP sclP isL sdL
set_option maxRecDepth 100000 in
set_option maxHeartbeats 3200000 in
theorem rsLead_any (p : Nat) (f : Nat → Nat) (w : World) :
 Calls Try.prog 217 #[.agg (rsC (p : Int)).toArray, .agg (zb 64 f)] w fun e w' => e = .returned (.int .i64 (deg f)) ∧ Below w.heap.size w w' := by
 have HDG := Lib.hid (fun W => degree_any f W)
 obtain ⟨D, hD⟩ : ∃ D, D = deg f := ⟨_, rfl⟩
 rw [← hD] at HDG ⊢
 clear hD
 go_enter Try.func217, Try.ntmps217
 go_upto_region 1 with (fail)
 obtain ⟨W1, hwo⟩ : ∃ v : World, v = ((w.alloc (.cells (rsC (p : Int)).toArray 114)).alloc (.cells (zb 64 (f)) 28)) := ⟨_, rfl⟩
 have B0 : Row W1 (w.heap.size) 114 (rsC (p : Int)).toArray := by subst hwo; have := ((Row.new w 114 (rsC (p : Int)).toArray).alloc (.cells (zb 64 (f)) 28)); simpa using this
 have B1 : Blk W1 (w.heap.size + 1) 64 28 (f) := by subst hwo; have := (Blk.new (w.alloc (.cells (rsC (p : Int)).toArray 114)) 64 28 (f)); simpa using this
 have hb : Below w.heap.size w W1 := by subst hwo; exact (((Below.refl _ _).alloc (Nat.le_refl _) _).alloc (by simp) _)
 rw [← hwo]
 clear hwo
 go_wp2_with (first | (refine zla (.tmp 3) B1 Try.underlying28 Try.size28 ?_) | (go_at_call 77; refine (HDG.out _).mono ?_; rintro e W2 ⟨rfl, hW2⟩; replace B0 := B0.zw hW2; replace B1 := B1.zw hW2; replace hb := (hb).trans (hW2.mono (hb).size)))
 go_ret
 exact ⟨rfl, hb⟩
set_option maxRecDepth 100000 in
set_option maxHeartbeats 3200000 in
theorem mdMonic_any (p j : Nat) (f : Nat → Nat) (w : World) (hpr : p = 2 ∨ p = 3 ∨ p = 5 ∨ p = 7) (lf : ∀ k, k < 64 → f k < p) (hj : deg f = (j : Int)) :
 Calls Try.prog 219 #[.int .i64 (p : Int), .agg (zb 64 f)] w fun e w' => e = .returned (.agg (zb 64 (mkP p f))) ∧ Below w.heap.size w w' := by
 obtain ⟨j1, j2, j3⟩ := deg_top hj
 have hl := lf j j1
 obtain ⟨i1, i2, _, _⟩ := invF hpr j2 hl
 have HDG := Lib.hid (fun W => degree_any f W)
 rw [hj] at HDG
 have HIV := Lib.hid (fun W => inverseNumber_any p (f j) W hpr j2 hl)
 have HSC := Lib.hid (show ∀ W, Calls Try.prog 163 #[.int .i64 (p : Int), .agg (zb 64 f), .int .u8 ((invN p (f j) : Nat) : Int)] W fun e w' => e = .returned (.agg (zb 64 (mkP p f))) ∧ Below W.heap.size W w' from fun W => by
  have := scaled_any p f (invN p (f j)) W (by omega) (by omega) lf i2
  rw [← mkP_at hj] at this; exact this)
 have hf7 : f j < 256 := by omega
 have hi7 : invN p (f j) < 256 := by omega
 clear hj i1 j3 lf
 go_enter Try.func219, Try.ntmps219
 go_upto_region 1 with (fail)
 rw [← z64]
 obtain ⟨W1, hwo⟩ : ∃ v : World, v = ((w.alloc (.cells (zb 64 (f)) 28)).alloc (.cells (zb 64 (fun _ => 0)) 28)) := ⟨_, rfl⟩
 have B0 : Blk W1 (w.heap.size) 64 28 (f) := by subst hwo; have := ((Blk.new w 64 28 (f)).alloc (.cells (zb 64 (fun _ => 0)) 28)); simpa using this
 have B1 : Blk W1 (w.heap.size + 1) 64 28 (fun _ => 0) := by subst hwo; have := (Blk.new (w.alloc (.cells (zb 64 (f)) 28)) 64 28 (fun _ => 0)); simpa using this
 have hb : Below w.heap.size w W1 := by subst hwo; exact (((Below.refl _ _).alloc (Nat.le_refl _) _).alloc (by simp) _)
 rw [← hwo]
 clear hwo
 have lt_B0 : (w.heap.size) < W1.heap.size := B0.lt
 have lt_B1 : (w.heap.size + 1) < W1.heap.size := B1.lt
 have hbase : w.heap.size ≤ W1.heap.size := hb.size
 refine zq Try.mixed (by kernel_rfl) (by kernel_rfl) (fun v => by (simp only [frL, Act.put, pA, pB, pC, Nat.reduceAdd, Nat.zero_add]; exact rfl))
  (fun L v W2 => Below w.heap.size w W2 ∧ Kx [w.heap.size + 1] W1 W2 ∧ (∃ g, Blk W2 (w.heap.size + 1) 64 28 (g)) ∧ (L 9 = false → Blk W2 (w.heap.size + 1) 64 28 (fun _ => 0)) ∧ (L 9 = true → Blk W2 (w.heap.size + 1) 64 28 (mkP p f)) ∧ VF L v [some (.int .i64 (p : Int)), some (.agg (zb 64 (f))), some (.int .i64 (p : Int)), some (.agg (zb 64 (f))), some (.int .i64 (j : Int)), some (.pointer (some ⟨w.heap.size, j, none⟩)), some (.int .u8 ((f j : Nat) : Int)), some (.int .u8 ((invN p (f j) : Nat) : Int)), some (.agg (zb 64 (mkP p f))), none]) ?_ ?_ ?_
 · intro v hv0
   exact ⟨hb.drew, Kx.start _ _, ⟨_, B1.drew⟩, (fun _ => B1.drew), (fun h => by cases h), VF.start⟩
 · refine (.cons rfl ?_ (.cons rfl ?_ (.cons rfl ?_ (.cons rfl ?_ (.cons rfl ?_ (.cons rfl ?_ (.cons rfl ?_ (.cons rfl ?_ (.cons rfl ?_ (.cons rfl ?_ (.nil _)))))))))))
   all_goals intro L v W2 hd hn ⟨hB, hX, x1, q1, n1, V⟩ K hK
   · go_wp2_with fail
     exact hK _ (.int .i64 (p : Int)) _ (by simp only [Act.put, pA, pB, pC ]) ⟨hB, hX, x1, q1, n1, V.step 0 rfl⟩
   · refine wp_load_any 28 _ rfl _ rfl 64 28 _ (B0.kx hX (by simp <;> omega)) _ Try.underlying28 rfl Try.size28 ?_
     exact hK _ _ _ rfl ⟨hB, hX, x1, q1, n1, V.step 1 rfl⟩
   · go_wp2_with fail
     exact hK _ (.int .i64 (p : Int)) _ (by simp only [Act.put, pA, pB, pC ]) ⟨hB, hX, x1, q1, n1, V.step 2 rfl⟩
   · refine wp_load_any 28 _ rfl _ rfl 64 28 _ (B0.kx hX (by simp <;> omega)) _ Try.underlying28 rfl Try.size28 ?_
     exact hK _ _ _ rfl ⟨hB, hX, x1, q1, n1, V.step 3 rfl⟩
   · have e3 := V.at (zdq hd 3 rfl) rfl
     go_wp2_with (go_at_call 77; refine (HDG.out _).mono ?_; rintro e wy ⟨rfl, hy⟩)
     exact hK _ (.int .i64 (j : Int)) _ (by simp only [Act.put, pA, pB, pC, e3]) ⟨hB.trans (hy.mono hB.size), hX.below hy, (let ⟨g, h⟩ := x1; ⟨g, h.zw hy⟩), (fun h => (q1 h).below hy (q1 h).lt), (fun h => (n1 h).below hy (n1 h).lt), V.step 4 rfl⟩
   · have e4 := V.at (zdq hd 4 rfl) rfl
     go_wp2_with fail
     exact hK _ (.pointer (some ⟨w.heap.size, j, none⟩)) _ (by simp only [Act.put, pA, pB, pC, e4]) ⟨hB, hX, x1, q1, n1, V.step 5 rfl⟩
   · have e5 := V.at (zdq hd 5 rfl) rfl
     have cc := (B0.kx hX (by simp <;> omega)).cell (i := j) (by omega)
     go_wp2_with fail
     exact hK _ (.int .u8 ((f j : Nat) : Int)) _ (by simp only [Act.put, pA, pB, pC, e5]) ⟨hB, hX, x1, q1, n1, V.step 6 rfl⟩
   · have e2 := V.at (zdq hd 2 rfl) rfl
     have e6 := V.at (zdq hd 6 rfl) rfl
     go_wp2_with (go_at_call 162; refine ((callsB2 (HIV.out _))).mono ?_; rintro e wy ⟨rfl, hy⟩)
     exact hK _ (.int .u8 ((invN p (f j) : Nat) : Int)) _ (by simp only [Act.put, pA, pB, pC, e2, e6]) ⟨hB.trans (hy.mono hB.size), hX.below hy, (let ⟨g, h⟩ := x1; ⟨g, h.zw hy⟩), (fun h => (q1 h).below hy (q1 h).lt), (fun h => (n1 h).below hy (n1 h).lt), V.step 7 rfl⟩
   · have e0 := V.at (zdq hd 0 rfl) rfl
     have e1 := V.at (zdq hd 1 rfl) rfl
     have e7 := V.at (zdq hd 7 rfl) rfl
     go_wp2_with (go_at_call 163; refine (HSC.out _).mono ?_; rintro e wy ⟨rfl, hy⟩)
     exact hK _ (.agg (zb 64 (mkP p f))) _ (by simp only [Act.put, pA, pB, pC, e0, e1, e7]) ⟨hB.trans (hy.mono hB.size), hX.below hy, (let ⟨g, h⟩ := x1; ⟨g, h.zw hy⟩), (fun h => (q1 h).below hy (q1 h).lt), (fun h => (n1 h).below hy (n1 h).lt), V.step 8 rfl⟩
   · have e8 := V.at (zdq hd 8 rfl) rfl
     obtain ⟨gz, hk⟩ := x1
     refine zsb 28 _ _ rfl _ 64 (mkP p f) rfl e8 28 gz hk Try.size28 ?_
     exact hK _ undef _ rfl ⟨zr hB (by omega) _, hX.row (by simp) _, ⟨_, hk.row _⟩, (fun h => absurd h (by simp [setL])), (fun _ => hk.row _), V.skip 9 rfl⟩
 · intro L v W2 hL ⟨hB, hX, x1, q1, n1, V⟩
   have r1 := n1 (hL 9 (by decide))
   have e0 := V.at (hL 0 (by decide)) rfl
   have e1 := V.at (hL 1 (by decide)) rfl
   have e2 := V.at (hL 2 (by decide)) rfl
   have e3 := V.at (hL 3 (by decide)) rfl
   have e4 := V.at (hL 4 (by decide)) rfl
   have e5 := V.at (hL 5 (by decide)) rfl
   have e6 := V.at (hL 6 (by decide)) rfl
   have e7 := V.at (hL 7 (by decide)) rfl
   have e8 := V.at (hL 8 (by decide)) rfl
   clear hL x1 q1 n1 V
   replace B0 := B0.kx hX (by simp <;> omega)
   clear hX
   simp only [Exit.then, e0, e1, e2, e3, e4, e5, e6, e7, e8]
   clear e0 e1 e2 e3 e4 e5 e6 e7 e8
   replace B1 := r1
   clear r1
   replace hb := hB
   clear hB
   clear hbase lt_B0 lt_B1
   go_wp2_with fail
   refine bodyPost_ret (zrb rfl _ _ _ 64 28 5 _ rfl B1 Try.underlying28 Try.size28) rfl ⟨rfl, hb⟩
set_option maxRecDepth 100000 in
set_option maxHeartbeats 3200000 in
theorem rsMonic_any (p j : Nat) (f : Nat → Nat) (w : World) (hpr : p = 2 ∨ p = 3 ∨ p = 5 ∨ p = 7) (lf : ∀ k, k < 64 → f k < p) (hj : deg f = (j : Int)) :
 Calls Try.prog 218 #[.agg (rsC (p : Int)).toArray, .agg (zb 64 f)] w fun e w' => e = .returned (.agg (zb 64 (mkP p f))) ∧ Below w.heap.size w w' := by
 have HM := Lib.hid (fun W => mdMonic_any p j f W hpr lf hj)
 clear lf hj
 go_enter Try.func218, Try.ntmps218
 go_upto_region 1 with (fail)
 rw [← z64]
 obtain ⟨W1, hwo⟩ : ∃ v : World, v = (((w.alloc (.cells (rsC (p : Int)).toArray 114)).alloc (.cells (zb 64 (f)) 28)).alloc (.cells (zb 64 (fun _ => 0)) 28)) := ⟨_, rfl⟩
 have B0 : Row W1 (w.heap.size) 114 (rsC (p : Int)).toArray := by subst hwo; have := (((Row.new w 114 (rsC (p : Int)).toArray).alloc (.cells (zb 64 (f)) 28)).alloc (.cells (zb 64 (fun _ => 0)) 28)); simpa using this
 have B1 : Blk W1 (w.heap.size + 1) 64 28 (f) := by subst hwo; have := ((Blk.new (w.alloc (.cells (rsC (p : Int)).toArray 114)) 64 28 (f)).alloc (.cells (zb 64 (fun _ => 0)) 28)); simpa using this
 have B2 : Blk W1 (w.heap.size + 1 + 1) 64 28 (fun _ => 0) := by subst hwo; have := (Blk.new ((w.alloc (.cells (rsC (p : Int)).toArray 114)).alloc (.cells (zb 64 (f)) 28)) 64 28 (fun _ => 0)); simpa using this
 have hb : Below w.heap.size w W1 := by subst hwo; exact ((((Below.refl _ _).alloc (Nat.le_refl _) _).alloc (by simp) _).alloc (by simp; omega) _)
 rw [← hwo]
 clear hwo
 have lt_B0 := B0.lt
 have lt_B1 := B1.lt
 have lt_B2 := B2.lt
 go_wp2_with (first | rw [← z64] | (refine wpList_load_rowc rfl 2 (.tmp 5) rfl _ 0 rfl 114 _ (B0) (.int .i64 (p : Int)) (rsC_at _) _ Try.underlying2 rfl ?_) | (refine zla (.tmp 3) B1 Try.underlying28 Try.size28 ?_) | (go_at_call 219; refine (HM.out _).mono ?_; rintro e W2 ⟨rfl, hW2⟩; replace B0 := B0.zw hW2; replace B1 := B1.zw hW2; replace B2 := B2.zw hW2; replace hb := (hb).trans (hW2.mono (hb).size)) | (refine zsr (.tmp 4) (.tmp 8) (mkP p f) B2 Try.size28 ?_; try simp only [Act.put]))
 obtain ⟨W3, hwo, hzQ⟩ : ∃ v : World, v = (W2.setRow (w.heap.size + 1 + 1) (zb 64 (mkP p f))) ∧ Row v (w.heap.size) 114 (rsC (p : Int)).toArray ∧ Blk v (w.heap.size + 1) 64 28 (f) ∧ Blk v (w.heap.size + 1 + 1) 64 28 (mkP p f) ∧ Below w.heap.size w v := ⟨_, rfl, (B0.rowOther (by omega)), (B1.rowOther (by omega)), (B2.row (mkP p f)), (zr hb (by omega) _)⟩
 rw [← hwo]
 clear hwo B0 B1 B2 hb
 obtain ⟨B0, B1, B2, hb⟩ := hzQ
 try simp only [Act.put, pA, pB, pC]
 refine bodyPost_ret (zrb rfl _ _ _ 64 28 5 _ rfl B2 Try.underlying28 Try.size28) rfl ⟨rfl, hb⟩
set_option maxRecDepth 100000 in
set_option maxHeartbeats 3200000 in
theorem rsCleared_any (p t : Nat) (x y : Nat → Nat) (w : World) (hpr : p = 2 ∨ p = 3 ∨ p = 5 ∨ p = 7) (lx : ∀ k, k < 64 → x k < p) (ly : ∀ k, k < 64 → y k < p) (hy : deg y = (t : Int)) :
 Calls Try.prog 216 #[.agg (rsC (p : Int)).toArray, .agg (zb 64 x), .agg (zb 64 y)] w fun e w' => e = .returned (.agg (zb 64 (clr p x y))) ∧ Below w.heap.size w w' := by
 obtain ⟨t1, t2, t3⟩ := deg_top hy
 have hl := lx t t1
 have HDG := Lib.hid (fun W => degree_any y W)
 rw [hy] at HDG
 have HSC := Lib.hid (fun W => scaled_any p y (x t) W (by omega) (by omega) ly hl)
 have HDF := Lib.hid (show ∀ W, Calls Try.prog 59 #[.int .i64 (p : Int), .agg (zb 64 x), .agg (zb 64 (sclP p y (x t)))] W fun e w' => e = .returned (.agg (zb 64 (clr p x y))) ∧ Below W.heap.size W w' from fun W => by
  have := difference_any p x (sclP p y (x t)) W (by omega) (by omega) lx (fun k _ => by unfold sclP; exact Nat.mod_lt _ (by omega))
  rw [zbc (clr_impl (x := x) (by omega) ly hy)] at this
  exact this)
 have hx7 : x t < 256 := by omega
 clear hy lx ly t2 t3
 go_enter Try.func216, Try.ntmps216
 go_upto_region 1 with (fail)
 rw [← z64]
 obtain ⟨W1, hwo⟩ : ∃ v : World, v = ((((w.alloc (.cells (rsC (p : Int)).toArray 114)).alloc (.cells (zb 64 (x)) 28)).alloc (.cells (zb 64 (y)) 28)).alloc (.cells (zb 64 (fun _ => 0)) 28)) := ⟨_, rfl⟩
 have B0 : Row W1 (w.heap.size) 114 (rsC (p : Int)).toArray := by subst hwo; have := ((((Row.new w 114 (rsC (p : Int)).toArray).alloc (.cells (zb 64 (x)) 28)).alloc (.cells (zb 64 (y)) 28)).alloc (.cells (zb 64 (fun _ => 0)) 28)); simpa using this
 have B1 : Blk W1 (w.heap.size + 1) 64 28 (x) := by subst hwo; have := (((Blk.new (w.alloc (.cells (rsC (p : Int)).toArray 114)) 64 28 (x)).alloc (.cells (zb 64 (y)) 28)).alloc (.cells (zb 64 (fun _ => 0)) 28)); simpa using this
 have B2 : Blk W1 (w.heap.size + 1 + 1) 64 28 (y) := by subst hwo; have := ((Blk.new ((w.alloc (.cells (rsC (p : Int)).toArray 114)).alloc (.cells (zb 64 (x)) 28)) 64 28 (y)).alloc (.cells (zb 64 (fun _ => 0)) 28)); simpa using this
 have B3 : Blk W1 (w.heap.size + 1 + 1 + 1) 64 28 (fun _ => 0) := by subst hwo; have := (Blk.new (((w.alloc (.cells (rsC (p : Int)).toArray 114)).alloc (.cells (zb 64 (x)) 28)).alloc (.cells (zb 64 (y)) 28)) 64 28 (fun _ => 0)); simpa using this
 have hb : Below w.heap.size w W1 := by subst hwo; exact (((((Below.refl _ _).alloc (Nat.le_refl _) _).alloc (by simp) _).alloc (by simp; omega) _).alloc (by simp; omega) _)
 rw [← hwo]
 clear hwo
 have lt_B0 : (w.heap.size) < W1.heap.size := B0.lt
 have lt_B1 : (w.heap.size + 1) < W1.heap.size := B1.lt
 have lt_B2 : (w.heap.size + 1 + 1) < W1.heap.size := B2.lt
 have lt_B3 : (w.heap.size + 1 + 1 + 1) < W1.heap.size := B3.lt
 have hbase : w.heap.size ≤ W1.heap.size := hb.size
 refine zq Try.mixed (by kernel_rfl) (by kernel_rfl) (fun v => by (simp only [frL, Act.put, pA, pB, pC, Nat.reduceAdd, Nat.zero_add]; exact rfl))
  (fun L v W2 => Below w.heap.size w W2 ∧ Kx [w.heap.size + 1 + 1 + 1] W1 W2 ∧ (∃ g, Blk W2 (w.heap.size + 1 + 1 + 1) 64 28 (g)) ∧ (L 12 = false → Blk W2 (w.heap.size + 1 + 1 + 1) 64 28 (fun _ => 0)) ∧ (L 12 = true → Blk W2 (w.heap.size + 1 + 1 + 1) 64 28 (clr p x y)) ∧ VF L v [some (.pointer (some ⟨w.heap.size, 0, none⟩)), some (.int .i64 (p : Int)), some (.agg (zb 64 (x))), some (.pointer (some ⟨w.heap.size, 0, none⟩)), some (.int .i64 (p : Int)), some (.agg (zb 64 (y))), some (.agg (zb 64 (y))), some (.int .i64 (t : Int)), some (.pointer (some ⟨w.heap.size + 1, t, none⟩)), some (.int .u8 ((x t : Nat) : Int)), some (.agg (zb 64 (sclP p y (x t)))), some (.agg (zb 64 (clr p x y))), none]) ?_ ?_ ?_
 · intro v hv0
   exact ⟨hb.drew, Kx.start _ _, ⟨_, B3.drew⟩, (fun _ => B3.drew), (fun h => by cases h), VF.start⟩
 · refine (.cons rfl ?_ (.cons rfl ?_ (.cons rfl ?_ (.cons rfl ?_ (.cons rfl ?_ (.cons rfl ?_ (.cons rfl ?_ (.cons rfl ?_ (.cons rfl ?_ (.cons rfl ?_ (.cons rfl ?_ (.cons rfl ?_ (.cons rfl ?_ (.nil _))))))))))))))
   all_goals intro L v W2 hd hn ⟨hB, hX, x3, q3, n3, V⟩ K hK
   · go_wp2_with fail
     exact hK _ (.pointer (some ⟨w.heap.size, 0, none⟩)) _ (by simp only [Act.put, pA, pB, pC ]) ⟨hB, hX, x3, q3, n3, V.step 0 rfl⟩
   · have e0 := V.at (zdq hd 0 rfl) rfl
     refine wp_load_rowc 2 _ rfl _ 0 e0 114 _ (B0.kx hX (by simp <;> omega)) (.int .i64 (p : Int)) (rsC_at _) _ Try.underlying2 rfl ?_
     exact hK _ _ _ rfl ⟨hB, hX, x3, q3, n3, V.step 1 rfl⟩
   · refine wp_load_any 28 _ rfl _ rfl 64 28 _ (B1.kx hX (by simp <;> omega)) _ Try.underlying28 rfl Try.size28 ?_
     exact hK _ _ _ rfl ⟨hB, hX, x3, q3, n3, V.step 2 rfl⟩
   · go_wp2_with fail
     exact hK _ (.pointer (some ⟨w.heap.size, 0, none⟩)) _ (by simp only [Act.put, pA, pB, pC ]) ⟨hB, hX, x3, q3, n3, V.step 3 rfl⟩
   · have e3 := V.at (zdq hd 3 rfl) rfl
     refine wp_load_rowc 2 _ rfl _ 0 e3 114 _ (B0.kx hX (by simp <;> omega)) (.int .i64 (p : Int)) (rsC_at _) _ Try.underlying2 rfl ?_
     exact hK _ _ _ rfl ⟨hB, hX, x3, q3, n3, V.step 4 rfl⟩
   · refine wp_load_any 28 _ rfl _ rfl 64 28 _ (B2.kx hX (by simp <;> omega)) _ Try.underlying28 rfl Try.size28 ?_
     exact hK _ _ _ rfl ⟨hB, hX, x3, q3, n3, V.step 5 rfl⟩
   · refine wp_load_any 28 _ rfl _ rfl 64 28 _ (B2.kx hX (by simp <;> omega)) _ Try.underlying28 rfl Try.size28 ?_
     exact hK _ _ _ rfl ⟨hB, hX, x3, q3, n3, V.step 6 rfl⟩
   · have e6 := V.at (zdq hd 6 rfl) rfl
     go_wp2_with (go_at_call 77; refine (HDG.out _).mono ?_; rintro e wy ⟨rfl, hy⟩)
     exact hK _ (.int .i64 (t : Int)) _ (by simp only [Act.put, pA, pB, pC, e6]) ⟨hB.trans (hy.mono hB.size), hX.below hy, (let ⟨g, h⟩ := x3; ⟨g, h.zw hy⟩), (fun h => (q3 h).below hy (q3 h).lt), (fun h => (n3 h).below hy (n3 h).lt), V.step 7 rfl⟩
   · have e7 := V.at (zdq hd 7 rfl) rfl
     go_wp2_with fail
     exact hK _ (.pointer (some ⟨w.heap.size + 1, t, none⟩)) _ (by simp only [Act.put, pA, pB, pC, e7]) ⟨hB, hX, x3, q3, n3, V.step 8 rfl⟩
   · have e8 := V.at (zdq hd 8 rfl) rfl
     have cc := (B1.kx hX (by simp <;> omega)).cell (i := t) (by omega)
     go_wp2_with fail
     exact hK _ (.int .u8 ((x t : Nat) : Int)) _ (by simp only [Act.put, pA, pB, pC, e8]) ⟨hB, hX, x3, q3, n3, V.step 9 rfl⟩
   · have e4 := V.at (zdq hd 4 rfl) rfl
     have e5 := V.at (zdq hd 5 rfl) rfl
     have e9 := V.at (zdq hd 9 rfl) rfl
     go_wp2_with (go_at_call 163; refine (HSC.out _).mono ?_; rintro e wy ⟨rfl, hy⟩)
     exact hK _ (.agg (zb 64 (sclP p y (x t)))) _ (by simp only [Act.put, pA, pB, pC, e4, e5, e9]) ⟨hB.trans (hy.mono hB.size), hX.below hy, (let ⟨g, h⟩ := x3; ⟨g, h.zw hy⟩), (fun h => (q3 h).below hy (q3 h).lt), (fun h => (n3 h).below hy (n3 h).lt), V.step 10 rfl⟩
   · have e1 := V.at (zdq hd 1 rfl) rfl
     have e2 := V.at (zdq hd 2 rfl) rfl
     have e10 := V.at (zdq hd 10 rfl) rfl
     go_wp2_with (go_at_call 59; refine (HDF.out _).mono ?_; rintro e wy ⟨rfl, hy⟩)
     exact hK _ (.agg (zb 64 (clr p x y))) _ (by simp only [Act.put, pA, pB, pC, e1, e2, e10]) ⟨hB.trans (hy.mono hB.size), hX.below hy, (let ⟨g, h⟩ := x3; ⟨g, h.zw hy⟩), (fun h => (q3 h).below hy (q3 h).lt), (fun h => (n3 h).below hy (n3 h).lt), V.step 11 rfl⟩
   · have e11 := V.at (zdq hd 11 rfl) rfl
     obtain ⟨gz, hk⟩ := x3
     refine zsb 28 _ _ rfl _ 64 (clr p x y) rfl e11 28 gz hk Try.size28 ?_
     exact hK _ undef _ rfl ⟨zr hB (by omega) _, hX.row (by simp) _, ⟨_, hk.row _⟩, (fun h => absurd h (by simp [setL])), (fun _ => hk.row _), V.skip 12 rfl⟩
 · intro L v W2 hL ⟨hB, hX, x3, q3, n3, V⟩
   have r3 := n3 (hL 12 (by decide))
   have e0 := V.at (hL 0 (by decide)) rfl
   have e1 := V.at (hL 1 (by decide)) rfl
   have e2 := V.at (hL 2 (by decide)) rfl
   have e3 := V.at (hL 3 (by decide)) rfl
   have e4 := V.at (hL 4 (by decide)) rfl
   have e5 := V.at (hL 5 (by decide)) rfl
   have e6 := V.at (hL 6 (by decide)) rfl
   have e7 := V.at (hL 7 (by decide)) rfl
   have e8 := V.at (hL 8 (by decide)) rfl
   have e9 := V.at (hL 9 (by decide)) rfl
   have e10 := V.at (hL 10 (by decide)) rfl
   have e11 := V.at (hL 11 (by decide)) rfl
   clear hL x3 q3 n3 V
   replace B0 := B0.kx hX (by simp <;> omega)
   replace B1 := B1.kx hX (by simp <;> omega)
   replace B2 := B2.kx hX (by simp <;> omega)
   clear hX
   simp only [Exit.then, e0, e1, e2, e3, e4, e5, e6, e7, e8, e9, e10, e11]
   clear e0 e1 e2 e3 e4 e5 e6 e7 e8 e9 e10 e11
   replace B3 := r3
   clear r3
   replace hb := hB
   clear hB
   clear hbase lt_B0 lt_B1 lt_B2 lt_B3
   go_wp2_with fail
   refine bodyPost_ret (zrb rfl _ _ _ 64 28 5 _ rfl B3 Try.underlying28 Try.size28) rfl ⟨rfl, hb⟩
set_option maxRecDepth 100000 in
set_option maxHeartbeats 3200000 in
theorem compareInt_any (x y : Int) (w : World) : Calls Try.prog 142 #[.int .i64 x, .int .i64 y] w fun e w' => e = .returned (.int .i64 (cmpZ x y)) ∧ w = w' := by
 have hN : ∀ (z : Int) (W : World), Calls Try.prog 161 #[.int .i64 z] W fun e w' => e = .returned (.bool false) ∧ W = w' := fun z W => by
  have hz : (z != z) = false := by simp
  go_enter Try.func161, Try.ntmps161
  go_wp2_with fail
  go_ret
  exact ⟨rfl, rfl⟩
 have HN := Lib.hid hN
 clear hN
 go_enter Try.func142, Try.ntmps142
 by_cases h1 : x < y
 · have hv := Lib.hid (show cmpZ x y = -1 by unfold cmpZ; rw [if_pos h1])
   go_wp2_with (go_at_call 161; refine (HN.out _ _).mono ?_; rintro e w1 ⟨rfl, rfl⟩)
   go_ret
   exact ⟨(by rw [hv.out] <;> rfl), rfl⟩
 · by_cases h2 : x > y
   · have hv := Lib.hid (show cmpZ x y = 1 by unfold cmpZ; rw [if_neg h1, if_pos h2])
     go_wp2_with (go_at_call 161; refine (HN.out _ _).mono ?_; rintro e w1 ⟨rfl, rfl⟩)
     go_ret
     exact ⟨(by rw [hv.out] <;> rfl), rfl⟩
   · have hv := Lib.hid (show cmpZ x y = 0 by unfold cmpZ; rw [if_neg h1, if_neg h2])
     go_wp2_with (go_at_call 161; refine (HN.out _ _).mono ?_; rintro e w1 ⟨rfl, rfl⟩)
     go_ret
     exact ⟨(by rw [hv.out] <;> rfl), rfl⟩
set_option maxRecDepth 100000 in
set_option maxHeartbeats 3200000 in
theorem rcmp_any (p : Nat) (x y : Nat → Nat) (bp : Nat) (w : World) (B0 : One w bp 142 (.iface 114 (.agg (rsC (p : Int)).toArray))) :
 Calls Try.prog 141 #[.agg (zb 64 x), .agg (zb 64 y), .pointer (some ⟨bp, 0, none⟩)] w fun e w' => e = .returned (.int .i64 (cmpZ (deg y) (deg x))) ∧ Below w.heap.size w w' := by
 have HX := Lib.hid (fun W => rsLead_any p x W)
 have HY := Lib.hid (fun W => rsLead_any p y W)
 have HC := Lib.hid (fun W => compareInt_any (deg y) (deg x) W)
 obtain ⟨C, hC⟩ : ∃ C, C = cmpZ (deg y) (deg x) := ⟨_, rfl⟩
 rw [← hC] at HC ⊢
 clear hC
 obtain ⟨X, hX⟩ : ∃ X, X = deg x := ⟨_, rfl⟩
 obtain ⟨Y, hY⟩ : ∃ Y, Y = deg y := ⟨_, rfl⟩
 rw [← hX] at HX HC
 rw [← hY] at HY HC
 clear hX hY
 have zx_0 := B0.lt
 go_enter Try.func141, Try.ntmps141
 go_upto_region 1 with (fail)
 obtain ⟨W1, hwo⟩ : ∃ v : World, v = ((w.alloc (.cells (zb 64 (x)) 28)).alloc (.cells (zb 64 (y)) 28)) := ⟨_, rfl⟩
 have B1 : Blk W1 (w.heap.size) 64 28 (x) := by subst hwo; have := ((Blk.new w 64 28 (x)).alloc (.cells (zb 64 (y)) 28)); simpa using this
 have B2 : Blk W1 (w.heap.size + 1) 64 28 (y) := by subst hwo; have := (Blk.new (w.alloc (.cells (zb 64 (x)) 28)) 64 28 (y)); simpa using this
 replace B0 : One W1 (bp) 142 (.iface 114 (.agg (rsC (p : Int)).toArray)) := by subst hwo; exact ((B0.alloc (.cells (zb 64 (x)) 28)).alloc (.cells (zb 64 (y)) 28))
 have hb : Below w.heap.size w W1 := by subst hwo; exact (((Below.refl _ _).alloc (Nat.le_refl _) _).alloc (by simp) _)
 rw [← hwo]
 clear hwo
 refine zq Try.mixed (by kernel_rfl) (by kernel_rfl) (fun v => by (simp only [frL, Act.put, pA, pB, pC, Nat.reduceAdd, Nat.zero_add]; exact rfl))
  (fun L v W2 => Below W1.heap.size W1 W2 ∧ VF L v [some (.iface 114 (.agg (rsC (p : Int)).toArray)), some (.agg (zb 64 (y))), some (.int .i64 Y), some (.iface 114 (.agg (rsC (p : Int)).toArray)), some (.agg (zb 64 (x))), some (.int .i64 X), some (.int .i64 C), some (.int .i64 C)]) ?_ ?_ ?_
 · intro v hv0
   exact ⟨(Below.refl _ W1).drew, VF.start⟩
 · refine (.cons rfl ?_ (.cons rfl ?_ (.cons rfl ?_ (.cons rfl ?_ (.cons rfl ?_ (.cons rfl ?_ (.cons rfl ?_ (.cons rfl ?_ (.nil _)))))))))
   all_goals intro L v W2 hd hn ⟨hY, V⟩ K hK
   · have cc := (B0.zw hY).cell
     go_wp2_with fail
     exact hK _ (.iface 114 (.agg (rsC (p : Int)).toArray)) _ (by simp only [Act.put, pA, pB, pC ]) ⟨hY, V.step 0 rfl⟩
   · refine zlc (B2.zw hY) Try.underlying28 Try.size28 ?_
     exact hK _ _ _ rfl ⟨hY, V.step 1 rfl⟩
   · have e0 := V.at (zdq hd 0 rfl) rfl
     have e1 := V.at (zdq hd 1 rfl) rfl
     go_wp2_with (go_at_call 217; refine (HY.out _).mono ?_; rintro e wy ⟨rfl, hy⟩)
     exact hK _ (.int .i64 Y) _ (by simp only [Act.put, pA, pB, pC, e0, e1]) ⟨hY.trans (hy.mono hY.size), V.step 2 rfl⟩
   · have cc := (B0.zw hY).cell
     go_wp2_with fail
     exact hK _ (.iface 114 (.agg (rsC (p : Int)).toArray)) _ (by simp only [Act.put, pA, pB, pC ]) ⟨hY, V.step 3 rfl⟩
   · refine zlc (B1.zw hY) Try.underlying28 Try.size28 ?_
     exact hK _ _ _ rfl ⟨hY, V.step 4 rfl⟩
   · have e3 := V.at (zdq hd 3 rfl) rfl
     have e4 := V.at (zdq hd 4 rfl) rfl
     go_wp2_with (go_at_call 217; refine (HX.out _).mono ?_; rintro e wy ⟨rfl, hy⟩)
     exact hK _ (.int .i64 X) _ (by simp only [Act.put, pA, pB, pC, e3, e4]) ⟨hY.trans (hy.mono hY.size), V.step 5 rfl⟩
   · have e2 := V.at (zdq hd 2 rfl) rfl
     have e5 := V.at (zdq hd 5 rfl) rfl
     go_wp2_with (go_at_call 142; refine ((callsB2 (HC.out _))).mono ?_; rintro e wy ⟨rfl, hy⟩)
     exact hK _ (.int .i64 C) _ (by simp only [Act.put, pA, pB, pC, e2, e5]) ⟨hY.trans (hy.mono hY.size), V.step 6 rfl⟩
   · have e6 := V.at (zdq hd 6 rfl) rfl
     go_wp2_with fail
     exact hK _ (.int .i64 C) _ (by simp only [Act.put, pA, pB, pC, e6]) ⟨hY, V.step 7 rfl⟩
 · intro L v W2 hL ⟨hY, V⟩
   have e0 := V.at (hL 0 (by decide)) rfl
   have e1 := V.at (hL 1 (by decide)) rfl
   have e2 := V.at (hL 2 (by decide)) rfl
   have e3 := V.at (hL 3 (by decide)) rfl
   have e4 := V.at (hL 4 (by decide)) rfl
   have e5 := V.at (hL 5 (by decide)) rfl
   have e6 := V.at (hL 6 (by decide)) rfl
   have e7 := V.at (hL 7 (by decide)) rfl
   clear hL V
   replace B0 := B0.zw hY
   replace B1 := B1.zw hY
   replace B2 := B2.zw hY
   replace hb := hb.trans (hY.mono hb.size)
   clear hY
   simp only [Exit.then, e0, e1, e2, e3, e4, e5, e6, e7]
   clear e0 e1 e2 e3 e4 e5 e6 e7
   go_wp2_with fail
   go_ret
   exact ⟨rfl, hb⟩
end Go.Proofs.Ytelgefgphhebnaa
end
section
namespace Go.Proofs.Ytelgefgphhebnaa
open Go Go.RowKit
set_option linter.unusedVariables false
set_option linter.unusedSimpArgs false
theorem plR_get {L : List (Nat → Nat)} {j : Nat} {x : Nat → Nat} (h : L[j]? = some x) : (plR L)[j]? = some (bl 64 x) := by unfold plR; rw [List.getElem?_map, h]; rfl
theorem One.grownB {w w' : World} {b : Nat} {t : TypeId} {v : Value} (h : One w b t v) {g : Nat} (hg : w.grownBy w' (some g)) (e : b ≠ g) : One w' b t v := h.of (hg.block b h.lt (fun x => e (by injection x)))
attribute [local irreducible] deg clr mkP sclP isL sdL
set_option maxRecDepth 100000 in
set_option maxHeartbeats 3200000 in
theorem insertionSort_any (p : Nat) (R : List (Nat → Nat)) (g n cap base bp : Nat) (w0 : World) (hn : R.length = n) (hS : SlL w0 base 28 64 (.slice (some ⟨g, 0, none⟩) n cap) (plR R)) (B0 : One w0 bp 142 (.iface 114 (.agg (rsC (p : Int)).toArray))) (hbp : bp ≠ g) (hR : (n : Int) ≤ 12) :
 Calls Try.prog 170 #[.slice (some ⟨g, 0, none⟩) n cap, .int .i64 0, .int .i64 (n : Int), .func (.func 141) #[] #[.pointer (some ⟨bp, 0, none⟩)]] w0 fun e w' => e = .returned (.tuple #[]) ∧ SlL w' base 28 64 (.slice (some ⟨g, 0, none⟩) n cap) (plR (isL n R)) ∧ w0.grownBy w' (some g) := by
 have HCM := Lib.hid (fun x y W b => rcmp_any p x y bp W b)
 go_enter Try.func170, Try.ntmps170
 go_wp2_with fail
 go_loopw [8] (fun c w => ∃ i : Nat, c = .int .i64 (i : Int) ∧ 1 ≤ i ∧ (i = 1 ∨ i ≤ n) ∧ SlL w base 28 64 (.slice (some ⟨g, 0, none⟩) n cap) (plR (isL i R)) ∧ w0.grownBy w (some g) ∧ One w bp 142 (.iface 114 (.agg (rsC (p : Int)).toArray))) (fun c _ => n - (intOf c).toNat)
 case atStart => exact ⟨1, rfl, Nat.le_refl _, .inl rfl, by rw [isL, isL, sdL]; exact hS, grown_refl _ _, B0⟩
 case round =>
  clear hS B0
  obtain ⟨i, rfl, hi1, hin, hS, hG, B0⟩ := hrel
  by_cases hi : i < n
  · have hiI : (i : Int) < (n : Int) := by omega
    go_wp2_with fail
    go_loopw [9] (fun c w => ∃ (j : Nat) (cur : List (Nat → Nat)), c = .int .i64 (j : Int) ∧ j ≤ i ∧ cur.length = n ∧ Hid (sdL j cur = isL (i + 1) R) ∧ SlL w base 28 64 (.slice (some ⟨g, 0, none⟩) n cap) (plR cur) ∧ w0.grownBy w (some g) ∧ One w bp 142 (.iface 114 (.agg (rsC (p : Int)).toArray))) (fun c _ => (intOf c).toNat)
    case atStart => exact ⟨i, isL i R, rfl, Nat.le_refl _, by rw [isL_len, hn], Lib.hid (by rw [isL]), hS, hG, B0⟩
    case round =>
     clear hS hG B0
     obtain ⟨j, cur, rfl, hji, hlen, hE, hS, hG, B0⟩ := hrel
     rename World => w
     have hb := Below.refl w.heap.size w
     rcases Nat.eq_zero_or_pos j with h0 | h0
     · have HJ := Lib.hid h0
       have hjI : ¬ (j : Int) > 0 := by omega
       have HD0 := Lib.hid (show decide (0 < j) = false by simp; omega)
       clear h0
       go_upto_region 4 with (fail)
       have lt_hS : (base) ≤ w.heap.size := hS.lt
       have lt_B0 : (bp) < w.heap.size := B0.lt
       have hbase : w.heap.size ≤ w.heap.size := hb.size
       refine wp_region_stepsG Try.mixed (by kernel_rfl) (by kernel_rfl) (fun v => by (simp only [frL, Act.put, pA, pB, pC, Nat.reduceAdd, Nat.zero_add]; exact rfl))
        (fun L v W1 => Below w.heap.size w W1 ∧ w.heap.size ≤ W1.heap.size ∧ SlL W1 (base) 28 64 (.slice (some ⟨g, 0, none⟩) n cap) (plR cur) ∧ One W1 (bp) 142 (.iface 114 (.agg (rsC (p : Int)).toArray)) ∧ VF L v [some (.int .i64 (j : Int)), some (.int .i64 0), some (.bool false), some (.bool false), some undef, some undef, some undef, some undef, some undef, some undef, some undef, some undef, some undef, some undef, some undef, some undef, some (.bool false)]) ?_ ?_ ?_
       · intro v hv0
         exact ⟨hb.drew, Nat.le_refl _, hS.drew, B0.drew, VF.start⟩
       · refine (.cons ?_ (.cons ?_ (.cons ?_ (.cons ?_ (.cons ?_ (.cons ?_ (.cons ?_ (.cons ?_ (.cons ?_ (.cons ?_ (.cons ?_ (.cons ?_ (.cons ?_ (.cons ?_ (.cons ?_ (.cons ?_ (.cons ?_ (.nil _))))))))))))))))))
         · intro L v W1 hd hn ⟨hB, hz, s0, s1, V⟩ K hK
           rw [if_pos (by simp [Region.wanted])]
           go_wp2_with fail
           exact hK _ (.int .i64 (j : Int)) _ (by simp only [Act.put, pA, pB, pC ]) ⟨hB, hz, s0, s1, V.step 0 rfl⟩
         · intro L v W1 hd hn ⟨hB, hz, s0, s1, V⟩ K hK
           rw [if_pos (by simp [Region.wanted])]
           go_wp2_with fail
           exact hK _ (.int .i64 0) _ (by simp only [Act.put, pA, pB, pC ]) ⟨hB, hz, s0, s1, V.step 1 rfl⟩
         · intro L v W1 hd hn ⟨hB, hz, s0, s1, V⟩ K hK
           have e0 := V.at (zdq hd 0 rfl) rfl
           have e1 := V.at (zdq hd 1 rfl) rfl
           rw [if_pos (by simp [Region.wanted])]
           go_wp2_with fail
           try rw [HD0.out]
           exact hK _ (.bool false) _ (by simp only [Act.put, pA, pB, pC, e0, e1]) ⟨hB, hz, s0, s1, V.step 2 rfl⟩
         · intro L v W1 hd hn ⟨hB, hz, s0, s1, V⟩ K hK
           have e2 := V.at (zdq hd 2 rfl) rfl
           rw [if_pos (by simp [Region.wanted])]
           go_wp2_with fail
           exact hK _ (.bool false) _ (by simp only [Act.put, pA, pB, pC, e2]) ⟨hB, hz, s0, s1, V.step 3 rfl⟩
         · intro L v W1 hd hn ⟨hB, hz, s0, s1, V⟩ K hK
           have e3 := V.at (zdq hd 3 rfl) rfl
           rw [if_neg (by simp [Region.wanted, yielded, e3])]
           exact hK _ undef _ rfl ⟨hB, hz, s0, s1, V.step 4 rfl⟩
         · intro L v W1 hd hn ⟨hB, hz, s0, s1, V⟩ K hK
           have e3 := V.at (zdq hd 3 rfl) rfl
           rw [if_neg (by simp [Region.wanted, yielded, e3])]
           exact hK _ undef _ rfl ⟨hB, hz, s0, s1, V.step 5 rfl⟩
         · intro L v W1 hd hn ⟨hB, hz, s0, s1, V⟩ K hK
           have e3 := V.at (zdq hd 3 rfl) rfl
           rw [if_neg (by simp [Region.wanted, yielded, e3])]
           exact hK _ undef _ rfl ⟨hB, hz, s0, s1, V.step 6 rfl⟩
         · intro L v W1 hd hn ⟨hB, hz, s0, s1, V⟩ K hK
           have e5 := V.at (zdq hd 5 rfl) rfl
           have e6 := V.at (zdq hd 6 rfl) rfl
           have e3 := V.at (zdq hd 3 rfl) rfl
           rw [if_neg (by simp [Region.wanted, yielded, e3])]
           exact hK _ undef _ rfl ⟨hB, hz, s0, s1, V.step 7 rfl⟩
         · intro L v W1 hd hn ⟨hB, hz, s0, s1, V⟩ K hK
           have e7 := V.at (zdq hd 7 rfl) rfl
           have e3 := V.at (zdq hd 3 rfl) rfl
           rw [if_neg (by simp [Region.wanted, yielded, e3])]
           exact hK _ undef _ rfl ⟨hB, hz, s0, s1, V.step 8 rfl⟩
         · intro L v W1 hd hn ⟨hB, hz, s0, s1, V⟩ K hK
           have e3 := V.at (zdq hd 3 rfl) rfl
           rw [if_neg (by simp [Region.wanted, yielded, e3])]
           exact hK _ undef _ rfl ⟨hB, hz, s0, s1, V.step 9 rfl⟩
         · intro L v W1 hd hn ⟨hB, hz, s0, s1, V⟩ K hK
           have e3 := V.at (zdq hd 3 rfl) rfl
           rw [if_neg (by simp [Region.wanted, yielded, e3])]
           exact hK _ undef _ rfl ⟨hB, hz, s0, s1, V.step 10 rfl⟩
         · intro L v W1 hd hn ⟨hB, hz, s0, s1, V⟩ K hK
           have e10 := V.at (zdq hd 10 rfl) rfl
           have e3 := V.at (zdq hd 3 rfl) rfl
           rw [if_neg (by simp [Region.wanted, yielded, e3])]
           exact hK _ undef _ rfl ⟨hB, hz, s0, s1, V.step 11 rfl⟩
         · intro L v W1 hd hn ⟨hB, hz, s0, s1, V⟩ K hK
           have e9 := V.at (zdq hd 9 rfl) rfl
           have e11 := V.at (zdq hd 11 rfl) rfl
           have e3 := V.at (zdq hd 3 rfl) rfl
           rw [if_neg (by simp [Region.wanted, yielded, e3])]
           exact hK _ undef _ rfl ⟨hB, hz, s0, s1, V.step 12 rfl⟩
         · intro L v W1 hd hn ⟨hB, hz, s0, s1, V⟩ K hK
           have e12 := V.at (zdq hd 12 rfl) rfl
           have e3 := V.at (zdq hd 3 rfl) rfl
           rw [if_neg (by simp [Region.wanted, yielded, e3])]
           exact hK _ undef _ rfl ⟨hB, hz, s0, s1, V.step 13 rfl⟩
         · intro L v W1 hd hn ⟨hB, hz, s0, s1, V⟩ K hK
           have e4 := V.at (zdq hd 4 rfl) rfl
           have e8 := V.at (zdq hd 8 rfl) rfl
           have e13 := V.at (zdq hd 13 rfl) rfl
           have e3 := V.at (zdq hd 3 rfl) rfl
           rw [if_neg (by simp [Region.wanted, yielded, e3])]
           exact hK _ undef _ rfl ⟨hB, hz, s0, s1, V.step 14 rfl⟩
         · intro L v W1 hd hn ⟨hB, hz, s0, s1, V⟩ K hK
           have e14 := V.at (zdq hd 14 rfl) rfl
           have e3 := V.at (zdq hd 3 rfl) rfl
           rw [if_neg (by simp [Region.wanted, yielded, e3])]
           exact hK _ undef _ rfl ⟨hB, hz, s0, s1, V.step 15 rfl⟩
         · intro L v W1 hd hn ⟨hB, hz, s0, s1, V⟩ K hK
           have e3 := V.at (zdq hd 3 rfl) rfl
           have e15 := V.at (zdq hd 15 rfl) rfl
           rw [if_pos (by simp [Region.wanted])]
           go_wp2_with fail
           exact hK _ (.bool false) _ (by simp only [Act.put, pA, pB, pC, e3, e15]) ⟨hB, hz, s0, s1, V.step 16 rfl⟩
       · intro L v W1 hL ⟨hB, hz, s0, s1, V⟩
         have e0 := V.at (hL 0 (by decide)) rfl
         have e1 := V.at (hL 1 (by decide)) rfl
         have e2 := V.at (hL 2 (by decide)) rfl
         have e3 := V.at (hL 3 (by decide)) rfl
         have e4 := V.at (hL 4 (by decide)) rfl
         have e5 := V.at (hL 5 (by decide)) rfl
         have e6 := V.at (hL 6 (by decide)) rfl
         have e7 := V.at (hL 7 (by decide)) rfl
         have e8 := V.at (hL 8 (by decide)) rfl
         have e9 := V.at (hL 9 (by decide)) rfl
         have e10 := V.at (hL 10 (by decide)) rfl
         have e11 := V.at (hL 11 (by decide)) rfl
         have e12 := V.at (hL 12 (by decide)) rfl
         have e13 := V.at (hL 13 (by decide)) rfl
         have e14 := V.at (hL 14 (by decide)) rfl
         have e15 := V.at (hL 15 (by decide)) rfl
         have e16 := V.at (hL 16 (by decide)) rfl
         clear hL V
         simp only [Exit.then, e0, e1, e2, e3, e4, e5, e6, e7, e8, e9, e10, e11, e12, e13, e14, e15, e16]
         clear e0 e1 e2 e3 e4 e5 e6 e7 e8 e9 e10 e11 e12 e13 e14 e15 e16
         replace hS := s0
         clear s0
         replace B0 := s1
         clear s1
         replace hb := hB
         clear hB
         clear hbase hz lt_hS lt_B0
         go_wp2_with fail
         go_roundw
         case rel => exact ⟨i + 1, by go_num, by omega, .inr (by omega), by have := hE.out; rw [HJ.out, sdL] at this; rw [← this]; exact hS, grown_trans hG (belGr hb _), B0⟩
         case measure => simp [intOf] <;> omega
     · obtain ⟨j0, hj0⟩ : ∃ j0, j = j0 + 1 := ⟨j - 1, by omega⟩
       obtain ⟨x, hx⟩ : ∃ x, cur[j]? = some x := ⟨_, List.getElem?_eq_getElem (by omega)⟩
       obtain ⟨y, hy⟩ : ∃ y, cur[j0]? = some y := ⟨_, List.getElem?_eq_getElem (by omega)⟩
       obtain ⟨r, hr⟩ : ∃ r, r = cmpZ (deg y) (deg x) := ⟨_, rfl⟩
       have hrb := cmpZ_b (deg y) (deg x)
       have HCx := Lib.hid (fun W (hW : Below w.heap.size w W) => show Calls Try.prog _ _ W (fun e w' => e = .returned (.int .i64 r) ∧ Below W.heap.size W w') from hr ▸ HCM.out x y W (B0.zw hW))
       have HRN := Lib.hid (show r < 0 ↔ deg y < deg x from hr ▸ cmpZ_neg _ _)
       rw [← hr] at hrb
       have hji1 : (j : Int) > 0 := by omega
       have hjs : (j : Int) - 1 = (j0 : Int) := by omega
       have hjn1 : (j : Int) < (n : Int) := by omega
       have hjn0 : (j0 : Int) < (n : Int) := by omega
       have hjn2 : j < n := by omega
       have hjn3 : j0 < n := by omega
       have hjI2 : j0 ≤ i := by omega
       have HJ := Lib.hid hj0
       have HD0 := Lib.hid (show decide (0 < j) = true by simp; omega)
       clear hr hj0 h0
       by_cases hneg : r < 0
       · have hlt := HRN.out.1 hneg
         go_upto_region 4 with (fail)
         have lt_hS : (base) ≤ w.heap.size := hS.lt
         have lt_B0 : (bp) < w.heap.size := B0.lt
         have hbase : w.heap.size ≤ w.heap.size := hb.size
         refine wp_region_stepsG Try.mixed (by kernel_rfl) (by kernel_rfl) (fun v => by (simp only [frL, Act.put, pA, pB, pC, Nat.reduceAdd, Nat.zero_add]; exact rfl))
          (fun L v W1 => Below w.heap.size w W1 ∧ w.heap.size ≤ W1.heap.size ∧ SlL W1 (base) 28 64 (.slice (some ⟨g, 0, none⟩) n cap) (plR cur) ∧ One W1 (bp) 142 (.iface 114 (.agg (rsC (p : Int)).toArray)) ∧ VF L v [some (.int .i64 (j : Int)), some (.int .i64 0), some (.bool true), some (.bool true), some (.func (.func 141) #[] #[.pointer (some ⟨bp, 0, none⟩)]), some (.slice (some ⟨g, 0, none⟩) n cap), some (.int .i64 (j : Int)), some (.pointer (some ⟨g, j * 64, none⟩)), some (.agg (zb 64 (x))), some (.slice (some ⟨g, 0, none⟩) n cap), some (.int .i64 (j : Int)), some (.int .i64 (j0 : Int)), some (.pointer (some ⟨g, j0 * 64, none⟩)), some (.agg (zb 64 (y))), some (.int .i64 r), some (.bool true), some (.bool true)]) ?_ ?_ ?_
         · intro v hv0
           exact ⟨hb.drew, Nat.le_refl _, hS.drew, B0.drew, VF.start⟩
         · refine (.cons ?_ (.cons ?_ (.cons ?_ (.cons ?_ (.cons ?_ (.cons ?_ (.cons ?_ (.cons ?_ (.cons ?_ (.cons ?_ (.cons ?_ (.cons ?_ (.cons ?_ (.cons ?_ (.cons ?_ (.cons ?_ (.cons ?_ (.nil _))))))))))))))))))
           · intro L v W1 hd hn ⟨hB, hz, s0, s1, V⟩ K hK
             rw [if_pos (by simp [Region.wanted])]
             go_wp2_with fail
             exact hK _ (.int .i64 (j : Int)) _ (by simp only [Act.put, pA, pB, pC ]) ⟨hB, hz, s0, s1, V.step 0 rfl⟩
           · intro L v W1 hd hn ⟨hB, hz, s0, s1, V⟩ K hK
             rw [if_pos (by simp [Region.wanted])]
             go_wp2_with fail
             exact hK _ (.int .i64 0) _ (by simp only [Act.put, pA, pB, pC ]) ⟨hB, hz, s0, s1, V.step 1 rfl⟩
           · intro L v W1 hd hn ⟨hB, hz, s0, s1, V⟩ K hK
             have e0 := V.at (zdq hd 0 rfl) rfl
             have e1 := V.at (zdq hd 1 rfl) rfl
             rw [if_pos (by simp [Region.wanted])]
             go_wp2_with fail
             try rw [HD0.out]
             exact hK _ (.bool true) _ (by simp only [Act.put, pA, pB, pC, e0, e1]) ⟨hB, hz, s0, s1, V.step 2 rfl⟩
           · intro L v W1 hd hn ⟨hB, hz, s0, s1, V⟩ K hK
             have e2 := V.at (zdq hd 2 rfl) rfl
             rw [if_pos (by simp [Region.wanted])]
             go_wp2_with fail
             exact hK _ (.bool true) _ (by simp only [Act.put, pA, pB, pC, e2]) ⟨hB, hz, s0, s1, V.step 3 rfl⟩
           · intro L v W1 hd hn ⟨hB, hz, s0, s1, V⟩ K hK
             have e3 := V.at (zdq hd 3 rfl) rfl
             rw [if_pos (by simp [Region.wanted, yielded, e3])]
             go_wp2_with fail
             exact hK _ (.func (.func 141) #[] #[.pointer (some ⟨bp, 0, none⟩)]) _ (by simp only [Act.put, pA, pB, pC, e3]) ⟨hB, hz, s0, s1, V.step 4 rfl⟩
           · intro L v W1 hd hn ⟨hB, hz, s0, s1, V⟩ K hK
             have e3 := V.at (zdq hd 3 rfl) rfl
             rw [if_pos (by simp [Region.wanted, yielded, e3])]
             go_wp2_with fail
             exact hK _ (.slice (some ⟨g, 0, none⟩) n cap) _ (by simp only [Act.put, pA, pB, pC, e3]) ⟨hB, hz, s0, s1, V.step 5 rfl⟩
           · intro L v W1 hd hn ⟨hB, hz, s0, s1, V⟩ K hK
             have e3 := V.at (zdq hd 3 rfl) rfl
             rw [if_pos (by simp [Region.wanted, yielded, e3])]
             go_wp2_with fail
             exact hK _ (.int .i64 (j : Int)) _ (by simp only [Act.put, pA, pB, pC, e3]) ⟨hB, hz, s0, s1, V.step 6 rfl⟩
           · intro L v W1 hd hn ⟨hB, hz, s0, s1, V⟩ K hK
             have e5 := V.at (zdq hd 5 rfl) rfl
             have e6 := V.at (zdq hd 6 rfl) rfl
             have e3 := V.at (zdq hd 3 rfl) rfl
             rw [if_pos (by simp [Region.wanted, yielded, e3])]
             go_wp2_with fail
             exact hK _ (.pointer (some ⟨g, j * 64, none⟩)) _ (by simp only [Act.put, pA, pB, pC, e5, e6, e3]) ⟨hB, hz, s0, s1, V.step 7 rfl⟩
           · intro L v W1 hd hn ⟨hB, hz, s0, s1, V⟩ K hK
             have e7 := V.at (zdq hd 7 rfl) rfl
             have e3 := V.at (zdq hd 3 rfl) rfl
             rw [if_pos (by simp [Region.wanted, yielded, e3])]
             refine wp_load_mid 28 _ rfl _ (j * 64) e7 _ _ ((s0).range (plR_get hx)) Try.underlying28 rfl (by rw [zl]; exact Try.size28) ?_
             exact hK _ _ _ rfl ⟨hB, hz, s0, s1, V.step 8 rfl⟩
           · intro L v W1 hd hn ⟨hB, hz, s0, s1, V⟩ K hK
             have e3 := V.at (zdq hd 3 rfl) rfl
             rw [if_pos (by simp [Region.wanted, yielded, e3])]
             go_wp2_with fail
             exact hK _ (.slice (some ⟨g, 0, none⟩) n cap) _ (by simp only [Act.put, pA, pB, pC, e3]) ⟨hB, hz, s0, s1, V.step 9 rfl⟩
           · intro L v W1 hd hn ⟨hB, hz, s0, s1, V⟩ K hK
             have e3 := V.at (zdq hd 3 rfl) rfl
             rw [if_pos (by simp [Region.wanted, yielded, e3])]
             go_wp2_with fail
             exact hK _ (.int .i64 (j : Int)) _ (by simp only [Act.put, pA, pB, pC, e3]) ⟨hB, hz, s0, s1, V.step 10 rfl⟩
           · intro L v W1 hd hn ⟨hB, hz, s0, s1, V⟩ K hK
             have e10 := V.at (zdq hd 10 rfl) rfl
             have e3 := V.at (zdq hd 3 rfl) rfl
             rw [if_pos (by simp [Region.wanted, yielded, e3])]
             go_wp2_with fail
             exact hK _ (.int .i64 (j0 : Int)) _ (by simp only [Act.put, pA, pB, pC, e10, e3]) ⟨hB, hz, s0, s1, V.step 11 rfl⟩
           · intro L v W1 hd hn ⟨hB, hz, s0, s1, V⟩ K hK
             have e9 := V.at (zdq hd 9 rfl) rfl
             have e11 := V.at (zdq hd 11 rfl) rfl
             have e3 := V.at (zdq hd 3 rfl) rfl
             rw [if_pos (by simp [Region.wanted, yielded, e3])]
             go_wp2_with fail
             exact hK _ (.pointer (some ⟨g, j0 * 64, none⟩)) _ (by simp only [Act.put, pA, pB, pC, e9, e11, e3]) ⟨hB, hz, s0, s1, V.step 12 rfl⟩
           · intro L v W1 hd hn ⟨hB, hz, s0, s1, V⟩ K hK
             have e12 := V.at (zdq hd 12 rfl) rfl
             have e3 := V.at (zdq hd 3 rfl) rfl
             rw [if_pos (by simp [Region.wanted, yielded, e3])]
             refine wp_load_mid 28 _ rfl _ (j0 * 64) e12 _ _ ((s0).range (plR_get hy)) Try.underlying28 rfl (by rw [zl]; exact Try.size28) ?_
             exact hK _ _ _ rfl ⟨hB, hz, s0, s1, V.step 13 rfl⟩
           · intro L v W1 hd hn ⟨hB, hz, s0, s1, V⟩ K hK
             have e4 := V.at (zdq hd 4 rfl) rfl
             have e8 := V.at (zdq hd 8 rfl) rfl
             have e13 := V.at (zdq hd 13 rfl) rfl
             have e3 := V.at (zdq hd 3 rfl) rfl
             rw [if_pos (by simp [Region.wanted, yielded, e3])]
             go_wp2_with (go_at_call 141; refine (HCx.out _ hB).mono ?_; rintro e wy ⟨rfl, hy⟩)
             exact hK _ (.int .i64 r) _ (by simp only [Act.put, pA, pB, pC, e4, e8, e13, e3]) ⟨hB.trans (hy.mono hB.size), (Nat.le_trans hz hy.size), s0.zw hy, s1.zw hy, V.step 14 rfl⟩
           · intro L v W1 hd hn ⟨hB, hz, s0, s1, V⟩ K hK
             have e14 := V.at (zdq hd 14 rfl) rfl
             have e3 := V.at (zdq hd 3 rfl) rfl
             rw [if_pos (by simp [Region.wanted, yielded, e3])]
             go_wp2_with fail
             exact hK _ (.bool true) _ (by simp only [Act.put, pA, pB, pC, e14, e3]) ⟨hB, hz, s0, s1, V.step 15 rfl⟩
           · intro L v W1 hd hn ⟨hB, hz, s0, s1, V⟩ K hK
             have e3 := V.at (zdq hd 3 rfl) rfl
             have e15 := V.at (zdq hd 15 rfl) rfl
             rw [if_pos (by simp [Region.wanted])]
             go_wp2_with fail
             exact hK _ (.bool true) _ (by simp only [Act.put, pA, pB, pC, e3, e15]) ⟨hB, hz, s0, s1, V.step 16 rfl⟩
         · intro L v W1 hL ⟨hB, hz, s0, s1, V⟩
           have e0 := V.at (hL 0 (by decide)) rfl
           have e1 := V.at (hL 1 (by decide)) rfl
           have e2 := V.at (hL 2 (by decide)) rfl
           have e3 := V.at (hL 3 (by decide)) rfl
           have e4 := V.at (hL 4 (by decide)) rfl
           have e5 := V.at (hL 5 (by decide)) rfl
           have e6 := V.at (hL 6 (by decide)) rfl
           have e7 := V.at (hL 7 (by decide)) rfl
           have e8 := V.at (hL 8 (by decide)) rfl
           have e9 := V.at (hL 9 (by decide)) rfl
           have e10 := V.at (hL 10 (by decide)) rfl
           have e11 := V.at (hL 11 (by decide)) rfl
           have e12 := V.at (hL 12 (by decide)) rfl
           have e13 := V.at (hL 13 (by decide)) rfl
           have e14 := V.at (hL 14 (by decide)) rfl
           have e15 := V.at (hL 15 (by decide)) rfl
           have e16 := V.at (hL 16 (by decide)) rfl
           clear hL V
           simp only [Exit.then, e0, e1, e2, e3, e4, e5, e6, e7, e8, e9, e10, e11, e12, e13, e14, e15, e16]
           clear e0 e1 e2 e3 e4 e5 e6 e7 e8 e9 e10 e11 e12 e13 e14 e15 e16
           replace hS := s0
           clear s0
           replace B0 := s1
           clear s1
           replace hb := hB
           clear hB
           clear hbase hz lt_hS lt_B0
           have hG3 := grown_trans hG (belGr hb (some g))
           clear hG hb
           have hB0 := B0
           go_upto_region 6 with (fail)
           skip
           refine wp_region_stepsU Try.mixed (by kernel_rfl) (by kernel_rfl) (fun v => by (simp only [frL, Act.put, pA, pB, pC, Nat.reduceAdd, Nat.zero_add]; exact rfl))
            (fun L v wx => W1.grownBy wx (some g) ∧ (L 15 = false → SlL wx base 28 64 (.slice (some ⟨g, 0, none⟩) n cap) (plR cur)) ∧ (L 15 = true → L 17 = false → SlL wx base 28 64 (.slice (some ⟨g, 0, none⟩) n cap) (plR (cur.set j y))) ∧ (L 17 = true → SlL wx base 28 64 (.slice (some ⟨g, 0, none⟩) n cap) (plR ((cur.set j y).set j0 x))) ∧ VF L v [some (.slice (some ⟨g, 0, none⟩) n cap), some (.int .i64 (j : Int)), some (.slice (some ⟨g, 0, none⟩) n cap), some (.int .i64 (j : Int)), some (.int .i64 (j0 : Int)), some (.slice (some ⟨g, 0, none⟩) n cap), some (.int .i64 (j : Int)), some (.int .i64 (j0 : Int)), some (.pointer (some ⟨g, j0 * 64, none⟩)), some (.agg (zb 64 y)), some (.slice (some ⟨g, 0, none⟩) n cap), some (.int .i64 (j : Int)), some (.pointer (some ⟨g, j * 64, none⟩)), some (.agg (zb 64 x)), some (.pointer (some ⟨g, j * 64, none⟩)), none, some (.pointer (some ⟨g, j0 * 64, none⟩)), none]) ?_ ?_ ?_
           · exact ⟨belGr (Below.refl _ _).drew _, (fun _ => hS.drew), (fun h => by cases h), (fun h => by cases h), VF.start⟩
           · refine (.cons rfl ?_ (.cons rfl ?_ (.cons rfl ?_ (.cons rfl ?_ (.cons rfl ?_ (.cons rfl ?_ (.cons rfl ?_ (.cons rfl ?_ (.cons rfl ?_ (.cons rfl ?_ (.cons rfl ?_ (.cons rfl ?_ (.cons rfl ?_ (.cons rfl ?_ (.cons rfl ?_ (.cons rfl ?_ (.cons rfl ?_ (.cons rfl ?_ (.nil _)))))))))))))))))))
             · intro L v wx hd hn hU ⟨hG1, s0, s1, s2, V⟩ K hK
               go_wp2_with fail
               exact hK _ (.slice (some ⟨g, 0, none⟩) n cap) _ (by simp only [Act.put, pA, pB, pC]) ⟨hG1, s0, s1, s2, V.step 0 rfl⟩
             · intro L v wx hd hn hU ⟨hG1, s0, s1, s2, V⟩ K hK
               go_wp2_with fail
               exact hK _ (.int .i64 (j : Int)) _ (by simp only [Act.put, pA, pB, pC]) ⟨hG1, s0, s1, s2, V.step 1 rfl⟩
             · intro L v wx hd hn hU ⟨hG1, s0, s1, s2, V⟩ K hK
               go_wp2_with fail
               exact hK _ (.slice (some ⟨g, 0, none⟩) n cap) _ (by simp only [Act.put, pA, pB, pC]) ⟨hG1, s0, s1, s2, V.step 2 rfl⟩
             · intro L v wx hd hn hU ⟨hG1, s0, s1, s2, V⟩ K hK
               go_wp2_with fail
               exact hK _ (.int .i64 (j : Int)) _ (by simp only [Act.put, pA, pB, pC]) ⟨hG1, s0, s1, s2, V.step 3 rfl⟩
             · intro L v wx hd hn hU ⟨hG1, s0, s1, s2, V⟩ K hK
               have e3 := V.at (zdq hd 3 rfl) rfl
               go_wp2_with fail
               exact hK _ (.int .i64 (j0 : Int)) _ (by simp only [Act.put, pA, pB, pC, e3]) ⟨hG1, s0, s1, s2, V.step 4 rfl⟩
             · intro L v wx hd hn hU ⟨hG1, s0, s1, s2, V⟩ K hK
               go_wp2_with fail
               exact hK _ (.slice (some ⟨g, 0, none⟩) n cap) _ (by simp only [Act.put, pA, pB, pC]) ⟨hG1, s0, s1, s2, V.step 5 rfl⟩
             · intro L v wx hd hn hU ⟨hG1, s0, s1, s2, V⟩ K hK
               go_wp2_with fail
               exact hK _ (.int .i64 (j : Int)) _ (by simp only [Act.put, pA, pB, pC]) ⟨hG1, s0, s1, s2, V.step 6 rfl⟩
             · intro L v wx hd hn hU ⟨hG1, s0, s1, s2, V⟩ K hK
               have e6 := V.at (zdq hd 6 rfl) rfl
               go_wp2_with fail
               exact hK _ (.int .i64 (j0 : Int)) _ (by simp only [Act.put, pA, pB, pC, e6]) ⟨hG1, s0, s1, s2, V.step 7 rfl⟩
             · intro L v wx hd hn hU ⟨hG1, s0, s1, s2, V⟩ K hK
               have e5 := V.at (zdq hd 5 rfl) rfl
               have e7 := V.at (zdq hd 7 rfl) rfl
               go_wp2_with fail
               exact hK _ (.pointer (some ⟨g, j0 * 64, none⟩)) _ (by simp only [Act.put, pA, pB, pC, e5, e7]) ⟨hG1, s0, s1, s2, V.step 8 rfl⟩
             · intro L v wx hd hn hU ⟨hG1, s0, s1, s2, V⟩ K hK
               have e8 := V.at (zdq hd 8 rfl) rfl
               have s := s0 (by
                cases hL : L 15 with
                | false => rfl
                | true => exact absurd rfl (hn 15 _ rfl hL ⟨9, .data⟩ (by simp) rfl))
               refine wp_load_mid 28 _ rfl _ (j0 * 64) e8 _ _ (s.range (plR_get hy)) Try.underlying28 rfl (by rw [zl]; exact Try.size28) ?_
               exact hK _ _ _ rfl ⟨hG1, s0, s1, s2, V.step 9 rfl⟩
             · intro L v wx hd hn hU ⟨hG1, s0, s1, s2, V⟩ K hK
               go_wp2_with fail
               exact hK _ (.slice (some ⟨g, 0, none⟩) n cap) _ (by simp only [Act.put, pA, pB, pC]) ⟨hG1, s0, s1, s2, V.step 10 rfl⟩
             · intro L v wx hd hn hU ⟨hG1, s0, s1, s2, V⟩ K hK
               go_wp2_with fail
               exact hK _ (.int .i64 (j : Int)) _ (by simp only [Act.put, pA, pB, pC]) ⟨hG1, s0, s1, s2, V.step 11 rfl⟩
             · intro L v wx hd hn hU ⟨hG1, s0, s1, s2, V⟩ K hK
               have e10 := V.at (zdq hd 10 rfl) rfl
               have e11 := V.at (zdq hd 11 rfl) rfl
               go_wp2_with fail
               exact hK _ (.pointer (some ⟨g, j * 64, none⟩)) _ (by simp only [Act.put, pA, pB, pC, e10, e11]) ⟨hG1, s0, s1, s2, V.step 12 rfl⟩
             · intro L v wx hd hn hU ⟨hG1, s0, s1, s2, V⟩ K hK
               have e12 := V.at (zdq hd 12 rfl) rfl
               have s := s0 (by
                cases hL : L 15 with
                | false => rfl
                | true => exact absurd rfl (hn 15 _ rfl hL ⟨13, .phase⟩ (by simp) rfl))
               refine wp_load_mid 28 _ rfl _ (j * 64) e12 _ _ (s.range (plR_get hx)) Try.underlying28 rfl (by rw [zl]; exact Try.size28) ?_
               exact hK _ _ _ rfl ⟨hG1, s0, s1, s2, V.step 13 rfl⟩
             · intro L v wx hd hn hU ⟨hG1, s0, s1, s2, V⟩ K hK
               have e0 := V.at (zdq hd 0 rfl) rfl
               have e1 := V.at (zdq hd 1 rfl) rfl
               go_wp2_with fail
               exact hK _ (.pointer (some ⟨g, j * 64, none⟩)) _ (by simp only [Act.put, pA, pB, pC, e0, e1]) ⟨hG1, s0, s1, s2, V.step 14 rfl⟩
             · intro L v wx hd hn hU ⟨hG1, s0, s1, s2, V⟩ K hK
               have e14 := V.at (zdq hd 14 rfl) rfl
               have e9 := V.at (zdq hd 9 rfl) rfl
               refine wp_store_sl 28 _ _ rfl base g n cap j cur y e14 e9 (s0 hU) (by omega) Try.size28 ?_
               intro w2 hS2 hg2
               exact hK _ undef _ rfl ⟨grown_trans hG1 hg2, (fun h => absurd h (by simp [setL])), (fun _ _ => hS2), (fun h => absurd rfl (hn 17 _ rfl h ⟨15, .chain⟩ (by simp) rfl)), V.skip 15 rfl⟩
             · intro L v wx hd hn hU ⟨hG1, s0, s1, s2, V⟩ K hK
               have e2 := V.at (zdq hd 2 rfl) rfl
               have e4 := V.at (zdq hd 4 rfl) rfl
               go_wp2_with fail
               exact hK _ (.pointer (some ⟨g, j0 * 64, none⟩)) _ (by simp only [Act.put, pA, pB, pC, e2, e4]) ⟨hG1, s0, s1, s2, V.step 16 rfl⟩
             · intro L v wx hd hn hU ⟨hG1, s0, s1, s2, V⟩ K hK
               have e16 := V.at (zdq hd 16 rfl) rfl
               have e13 := V.at (zdq hd 13 rfl) rfl
               have hL15 := hd ⟨15, .chain⟩ (by simp) rfl
               refine wp_store_sl 28 _ _ rfl base g n cap j0 (cur.set j y) x e16 e13 (s1 hL15 hU) (by rw [List.length_set]; omega) Try.size28 ?_
               intro w2 hS2 hg2
               exact hK _ undef _ rfl ⟨grown_trans hG1 hg2, (fun h => absurd (show L 15 = false from h) (by rw [hL15]; decide)), (fun _ h => absurd h (by simp [setL])), (fun _ => hS2), V.skip 17 rfl⟩
           · intro L v wx hL ⟨hG1, s0, s1, s2, V⟩
             have hS2 := s2 (hL 17 (by decide))
             have e0 := V.at (hL 0 (by decide)) rfl
             have e1 := V.at (hL 1 (by decide)) rfl
             have e2 := V.at (hL 2 (by decide)) rfl
             have e3 := V.at (hL 3 (by decide)) rfl
             have e4 := V.at (hL 4 (by decide)) rfl
             have e5 := V.at (hL 5 (by decide)) rfl
             have e6 := V.at (hL 6 (by decide)) rfl
             have e7 := V.at (hL 7 (by decide)) rfl
             have e8 := V.at (hL 8 (by decide)) rfl
             have e9 := V.at (hL 9 (by decide)) rfl
             have e10 := V.at (hL 10 (by decide)) rfl
             have e11 := V.at (hL 11 (by decide)) rfl
             have e12 := V.at (hL 12 (by decide)) rfl
             have e13 := V.at (hL 13 (by decide)) rfl
             have e14 := V.at (hL 14 (by decide)) rfl
             have e16 := V.at (hL 16 (by decide)) rfl
             simp only [Exit.then, e0, e1, e2, e3, e4, e5, e6, e7, e8, e9, e10, e11, e12, e13, e14, e16]
             clear hL s0 s1 s2 V e0 e1 e2 e3 e4 e5 e6 e7 e8 e9 e10 e11 e12 e13 e14 e16
             have hB1 := hB0.grownB hG1 hbp
             have hG4 := grown_trans hG3 hG1
             go_wp2_with fail
             go_roundw
             case rel => exact ⟨j0, _, by go_num, hjI2, by rw [List.length_set, List.length_set]; exact hlen, Lib.hid (by have := hE.out; rw [HJ.out, sdL_yes hy (by rw [← HJ.out]; exact hx) hlt, ← HJ.out] at this; exact this), hS2, hG4, hB1⟩
             case measure => simp [intOf] <;> omega
       · have hlt : ¬ deg y < deg x := fun h => hneg (HRN.out.2 h)
         go_upto_region 4 with (fail)
         have lt_hS : (base) ≤ w.heap.size := hS.lt
         have lt_B0 : (bp) < w.heap.size := B0.lt
         have hbase : w.heap.size ≤ w.heap.size := hb.size
         refine wp_region_stepsG Try.mixed (by kernel_rfl) (by kernel_rfl) (fun v => by (simp only [frL, Act.put, pA, pB, pC, Nat.reduceAdd, Nat.zero_add]; exact rfl))
          (fun L v W1 => Below w.heap.size w W1 ∧ w.heap.size ≤ W1.heap.size ∧ SlL W1 (base) 28 64 (.slice (some ⟨g, 0, none⟩) n cap) (plR cur) ∧ One W1 (bp) 142 (.iface 114 (.agg (rsC (p : Int)).toArray)) ∧ VF L v [some (.int .i64 (j : Int)), some (.int .i64 0), some (.bool true), some (.bool true), some (.func (.func 141) #[] #[.pointer (some ⟨bp, 0, none⟩)]), some (.slice (some ⟨g, 0, none⟩) n cap), some (.int .i64 (j : Int)), some (.pointer (some ⟨g, j * 64, none⟩)), some (.agg (zb 64 (x))), some (.slice (some ⟨g, 0, none⟩) n cap), some (.int .i64 (j : Int)), some (.int .i64 (j0 : Int)), some (.pointer (some ⟨g, j0 * 64, none⟩)), some (.agg (zb 64 (y))), some (.int .i64 r), some (.bool false), some (.bool false)]) ?_ ?_ ?_
         · intro v hv0
           exact ⟨hb.drew, Nat.le_refl _, hS.drew, B0.drew, VF.start⟩
         · refine (.cons ?_ (.cons ?_ (.cons ?_ (.cons ?_ (.cons ?_ (.cons ?_ (.cons ?_ (.cons ?_ (.cons ?_ (.cons ?_ (.cons ?_ (.cons ?_ (.cons ?_ (.cons ?_ (.cons ?_ (.cons ?_ (.cons ?_ (.nil _))))))))))))))))))
           · intro L v W1 hd hn ⟨hB, hz, s0, s1, V⟩ K hK
             rw [if_pos (by simp [Region.wanted])]
             go_wp2_with fail
             exact hK _ (.int .i64 (j : Int)) _ (by simp only [Act.put, pA, pB, pC ]) ⟨hB, hz, s0, s1, V.step 0 rfl⟩
           · intro L v W1 hd hn ⟨hB, hz, s0, s1, V⟩ K hK
             rw [if_pos (by simp [Region.wanted])]
             go_wp2_with fail
             exact hK _ (.int .i64 0) _ (by simp only [Act.put, pA, pB, pC ]) ⟨hB, hz, s0, s1, V.step 1 rfl⟩
           · intro L v W1 hd hn ⟨hB, hz, s0, s1, V⟩ K hK
             have e0 := V.at (zdq hd 0 rfl) rfl
             have e1 := V.at (zdq hd 1 rfl) rfl
             rw [if_pos (by simp [Region.wanted])]
             go_wp2_with fail
             try rw [HD0.out]
             exact hK _ (.bool true) _ (by simp only [Act.put, pA, pB, pC, e0, e1]) ⟨hB, hz, s0, s1, V.step 2 rfl⟩
           · intro L v W1 hd hn ⟨hB, hz, s0, s1, V⟩ K hK
             have e2 := V.at (zdq hd 2 rfl) rfl
             rw [if_pos (by simp [Region.wanted])]
             go_wp2_with fail
             exact hK _ (.bool true) _ (by simp only [Act.put, pA, pB, pC, e2]) ⟨hB, hz, s0, s1, V.step 3 rfl⟩
           · intro L v W1 hd hn ⟨hB, hz, s0, s1, V⟩ K hK
             have e3 := V.at (zdq hd 3 rfl) rfl
             rw [if_pos (by simp [Region.wanted, yielded, e3])]
             go_wp2_with fail
             exact hK _ (.func (.func 141) #[] #[.pointer (some ⟨bp, 0, none⟩)]) _ (by simp only [Act.put, pA, pB, pC, e3]) ⟨hB, hz, s0, s1, V.step 4 rfl⟩
           · intro L v W1 hd hn ⟨hB, hz, s0, s1, V⟩ K hK
             have e3 := V.at (zdq hd 3 rfl) rfl
             rw [if_pos (by simp [Region.wanted, yielded, e3])]
             go_wp2_with fail
             exact hK _ (.slice (some ⟨g, 0, none⟩) n cap) _ (by simp only [Act.put, pA, pB, pC, e3]) ⟨hB, hz, s0, s1, V.step 5 rfl⟩
           · intro L v W1 hd hn ⟨hB, hz, s0, s1, V⟩ K hK
             have e3 := V.at (zdq hd 3 rfl) rfl
             rw [if_pos (by simp [Region.wanted, yielded, e3])]
             go_wp2_with fail
             exact hK _ (.int .i64 (j : Int)) _ (by simp only [Act.put, pA, pB, pC, e3]) ⟨hB, hz, s0, s1, V.step 6 rfl⟩
           · intro L v W1 hd hn ⟨hB, hz, s0, s1, V⟩ K hK
             have e5 := V.at (zdq hd 5 rfl) rfl
             have e6 := V.at (zdq hd 6 rfl) rfl
             have e3 := V.at (zdq hd 3 rfl) rfl
             rw [if_pos (by simp [Region.wanted, yielded, e3])]
             go_wp2_with fail
             exact hK _ (.pointer (some ⟨g, j * 64, none⟩)) _ (by simp only [Act.put, pA, pB, pC, e5, e6, e3]) ⟨hB, hz, s0, s1, V.step 7 rfl⟩
           · intro L v W1 hd hn ⟨hB, hz, s0, s1, V⟩ K hK
             have e7 := V.at (zdq hd 7 rfl) rfl
             have e3 := V.at (zdq hd 3 rfl) rfl
             rw [if_pos (by simp [Region.wanted, yielded, e3])]
             refine wp_load_mid 28 _ rfl _ (j * 64) e7 _ _ ((s0).range (plR_get hx)) Try.underlying28 rfl (by rw [zl]; exact Try.size28) ?_
             exact hK _ _ _ rfl ⟨hB, hz, s0, s1, V.step 8 rfl⟩
           · intro L v W1 hd hn ⟨hB, hz, s0, s1, V⟩ K hK
             have e3 := V.at (zdq hd 3 rfl) rfl
             rw [if_pos (by simp [Region.wanted, yielded, e3])]
             go_wp2_with fail
             exact hK _ (.slice (some ⟨g, 0, none⟩) n cap) _ (by simp only [Act.put, pA, pB, pC, e3]) ⟨hB, hz, s0, s1, V.step 9 rfl⟩
           · intro L v W1 hd hn ⟨hB, hz, s0, s1, V⟩ K hK
             have e3 := V.at (zdq hd 3 rfl) rfl
             rw [if_pos (by simp [Region.wanted, yielded, e3])]
             go_wp2_with fail
             exact hK _ (.int .i64 (j : Int)) _ (by simp only [Act.put, pA, pB, pC, e3]) ⟨hB, hz, s0, s1, V.step 10 rfl⟩
           · intro L v W1 hd hn ⟨hB, hz, s0, s1, V⟩ K hK
             have e10 := V.at (zdq hd 10 rfl) rfl
             have e3 := V.at (zdq hd 3 rfl) rfl
             rw [if_pos (by simp [Region.wanted, yielded, e3])]
             go_wp2_with fail
             exact hK _ (.int .i64 (j0 : Int)) _ (by simp only [Act.put, pA, pB, pC, e10, e3]) ⟨hB, hz, s0, s1, V.step 11 rfl⟩
           · intro L v W1 hd hn ⟨hB, hz, s0, s1, V⟩ K hK
             have e9 := V.at (zdq hd 9 rfl) rfl
             have e11 := V.at (zdq hd 11 rfl) rfl
             have e3 := V.at (zdq hd 3 rfl) rfl
             rw [if_pos (by simp [Region.wanted, yielded, e3])]
             go_wp2_with fail
             exact hK _ (.pointer (some ⟨g, j0 * 64, none⟩)) _ (by simp only [Act.put, pA, pB, pC, e9, e11, e3]) ⟨hB, hz, s0, s1, V.step 12 rfl⟩
           · intro L v W1 hd hn ⟨hB, hz, s0, s1, V⟩ K hK
             have e12 := V.at (zdq hd 12 rfl) rfl
             have e3 := V.at (zdq hd 3 rfl) rfl
             rw [if_pos (by simp [Region.wanted, yielded, e3])]
             refine wp_load_mid 28 _ rfl _ (j0 * 64) e12 _ _ ((s0).range (plR_get hy)) Try.underlying28 rfl (by rw [zl]; exact Try.size28) ?_
             exact hK _ _ _ rfl ⟨hB, hz, s0, s1, V.step 13 rfl⟩
           · intro L v W1 hd hn ⟨hB, hz, s0, s1, V⟩ K hK
             have e4 := V.at (zdq hd 4 rfl) rfl
             have e8 := V.at (zdq hd 8 rfl) rfl
             have e13 := V.at (zdq hd 13 rfl) rfl
             have e3 := V.at (zdq hd 3 rfl) rfl
             rw [if_pos (by simp [Region.wanted, yielded, e3])]
             go_wp2_with (go_at_call 141; refine (HCx.out _ hB).mono ?_; rintro e wy ⟨rfl, hy⟩)
             exact hK _ (.int .i64 r) _ (by simp only [Act.put, pA, pB, pC, e4, e8, e13, e3]) ⟨hB.trans (hy.mono hB.size), (Nat.le_trans hz hy.size), s0.zw hy, s1.zw hy, V.step 14 rfl⟩
           · intro L v W1 hd hn ⟨hB, hz, s0, s1, V⟩ K hK
             have e14 := V.at (zdq hd 14 rfl) rfl
             have e3 := V.at (zdq hd 3 rfl) rfl
             rw [if_pos (by simp [Region.wanted, yielded, e3])]
             go_wp2_with fail
             exact hK _ (.bool false) _ (by simp only [Act.put, pA, pB, pC, e14, e3]) ⟨hB, hz, s0, s1, V.step 15 rfl⟩
           · intro L v W1 hd hn ⟨hB, hz, s0, s1, V⟩ K hK
             have e3 := V.at (zdq hd 3 rfl) rfl
             have e15 := V.at (zdq hd 15 rfl) rfl
             rw [if_pos (by simp [Region.wanted])]
             go_wp2_with fail
             exact hK _ (.bool false) _ (by simp only [Act.put, pA, pB, pC, e3, e15]) ⟨hB, hz, s0, s1, V.step 16 rfl⟩
         · intro L v W1 hL ⟨hB, hz, s0, s1, V⟩
           have e0 := V.at (hL 0 (by decide)) rfl
           have e1 := V.at (hL 1 (by decide)) rfl
           have e2 := V.at (hL 2 (by decide)) rfl
           have e3 := V.at (hL 3 (by decide)) rfl
           have e4 := V.at (hL 4 (by decide)) rfl
           have e5 := V.at (hL 5 (by decide)) rfl
           have e6 := V.at (hL 6 (by decide)) rfl
           have e7 := V.at (hL 7 (by decide)) rfl
           have e8 := V.at (hL 8 (by decide)) rfl
           have e9 := V.at (hL 9 (by decide)) rfl
           have e10 := V.at (hL 10 (by decide)) rfl
           have e11 := V.at (hL 11 (by decide)) rfl
           have e12 := V.at (hL 12 (by decide)) rfl
           have e13 := V.at (hL 13 (by decide)) rfl
           have e14 := V.at (hL 14 (by decide)) rfl
           have e15 := V.at (hL 15 (by decide)) rfl
           have e16 := V.at (hL 16 (by decide)) rfl
           clear hL V
           simp only [Exit.then, e0, e1, e2, e3, e4, e5, e6, e7, e8, e9, e10, e11, e12, e13, e14, e15, e16]
           clear e0 e1 e2 e3 e4 e5 e6 e7 e8 e9 e10 e11 e12 e13 e14 e15 e16
           replace hS := s0
           clear s0
           replace B0 := s1
           clear s1
           replace hb := hB
           clear hB
           clear hbase hz lt_hS lt_B0
           go_wp2_with fail
           go_roundw
           case rel => exact ⟨i + 1, by go_num, by omega, .inr (by omega), by have := hE.out; rw [HJ.out, sdL_no hy (by rw [← HJ.out]; exact hx) hlt] at this; rw [← this]; exact hS, grown_trans hG (belGr hb _), B0⟩
           case measure => simp [intOf] <;> omega
  · have hiI : ¬ (i : Int) < (n : Int) := by omega
    go_wp2_with fail
    refine bodyPost_end (results_none rfl _ _ _) rfl ⟨rfl, ?_, hG⟩
    by_cases h9 : i = n
    · subst h9; exact hS
    · have h8 : i = 1 := by omega
      have h7 : n = 0 := by omega
      subst h8; subst h7
      rw [isL, isL, sdL] at hS
      rw [isL]; exact hS
end Go.Proofs.Ytelgefgphhebnaa
end
section
namespace Go.Proofs.Ytelgefgphhebnaa
open Go Go.RowKit
set_option linter.unusedVariables false
set_option linter.unusedSimpArgs false
attribute [local irreducible] deg clr mkP sclP isL sdL
set_option maxRecDepth 100000 in
set_option maxHeartbeats 3200000 in
theorem bitsLen_any (n : Nat) (w : World) (hn : n ≤ 4) : Calls Try.prog 160 #[.int .u64 (n : Int)] w fun e w' => (∃ r : Int, e = .returned (.int .i64 r)) ∧ w = w' := by
 have h64 : ∀ (n : Nat) (W : World), n ≤ 4 → Calls Try.prog 179 #[.int .u64 (n : Int)] W fun e w' => (∃ r : Int, e = .returned (.int .i64 r)) ∧ W = w' := fun n W hn => by
  have hc : n = 0 ∨ n = 1 ∨ n = 2 ∨ n = 3 ∨ n = 4 := by omega
  rcases hc with rfl | rfl | rfl | rfl | rfl
  all_goals
   go_enter Try.func179, Try.ntmps179
   go_wp2_with fail
   go_ret
   exact ⟨⟨_, rfl⟩, rfl⟩
 have H := Lib.hid h64
 clear h64
 go_enter Try.func160, Try.ntmps160
 go_wp2_with (go_at_call 179; refine (H.out n _ hn).mono ?_; rintro e w1 ⟨⟨r, rfl⟩, rfl⟩)
 go_ret
 exact ⟨⟨_, rfl⟩, rfl⟩
set_option maxRecDepth 100000 in
set_option maxHeartbeats 3200000 in
theorem insertionSort0_any (a : Option Addr) (cap bp : Nat) (w : World) :
 Calls Try.prog 170 #[.slice a 0 cap, .int .i64 0, .int .i64 0, .func (.func 141) #[] #[.pointer (some ⟨bp, 0, none⟩)]] w fun e w' => e = .returned (.tuple #[]) ∧ w = w' := by
 go_enter Try.func170, Try.ntmps170
 go_wp2_with fail
 go_loopw [8] (fun c wr => c = .int .i64 1 ∧ wr = w) (fun _ _ => 0)
 case atStart => exact ⟨rfl, rfl⟩
 case round =>
  obtain ⟨rfl, rfl⟩ := hrel
  go_wp2_with fail
  exact bodyPost_end (results_none rfl _ _ _) rfl ⟨rfl, rfl⟩
set_option maxRecDepth 100000 in
set_option maxHeartbeats 3200000 in
theorem pdqsort_any (p : Nat) (R : List (Nat → Nat)) (a : Option Addr) (n cap base bp : Nat) (l : Int) (w : World) (hn : R.length = n) (hS : SlL w base 28 64 (.slice a n cap) (plR R)) (B0 : One w bp 142 (.iface 114 (.agg (rsC (p : Int)).toArray))) (hbp : bp < base) (hR : (n : Int) ≤ 12) :
 Calls Try.prog 159 #[.slice a n cap, .int .i64 0, .int .i64 (n : Int), .int .i64 l, .func (.func 141) #[] #[.pointer (some ⟨bp, 0, none⟩)]] w fun e w' => e = .returned (.tuple #[]) ∧ SlL w' base 28 64 (.slice a n cap) (plR (isL n R)) ∧ w.grownBy w' (Value.slice a n cap).ownBlock := by
 go_enter Try.func159, Try.ntmps159
 go_wp2_with fail
 go_loopw [1, 2] (fun x y wr => x = .int .i64 0 ∧ y = .int .i64 (n : Int) ∧ wr = w) (fun _ _ _ => 0)
 case atStart => exact ⟨rfl, rfl, rfl⟩
 case round =>
  obtain ⟨rfl, rfl, rfl⟩ := hrel
  by_cases h0 : n = 0
  · subst h0
    have hz : R = [] := List.eq_nil_of_length_eq_zero hn
    have HI := Lib.hid (insertionSort0_any a cap bp wr)
    go_wp2_with (go_at_call 170; refine HI.out.mono ?_; rintro e w1 ⟨rfl, rfl⟩)
    exact bodyPost_ret (results_none rfl _ _ _) rfl ⟨rfl, by rw [isL]; exact hS, grown_refl _ _⟩
  · obtain ⟨g, rfl⟩ := hS.some (by rw [plR_len]; omega)
    have hg := hS.len.2.1
    have HI := Lib.hid (insertionSort_any p R g n cap base bp wr hn hS B0 (by omega) hR)
    go_wp2_with (go_at_call 170; refine HI.out.mono ?_; rintro e w1 ⟨rfl, hS1, hG1⟩)
    exact bodyPost_ret (results_none rfl _ _ _) rfl ⟨rfl, hS1, hG1⟩
set_option maxRecDepth 100000 in
set_option maxHeartbeats 3200000 in
theorem SortFunc_any (p : Nat) (R : List (Nat → Nat)) (a : Option Addr) (n cap base bp : Nat) (w : World) (hn : R.length = n) (hS : SlL w base 28 64 (.slice a n cap) (plR R)) (B0 : One w bp 142 (.iface 114 (.agg (rsC (p : Int)).toArray))) (hbp : bp < base) (hR : n ≤ 4) :
 Calls Try.prog 140 #[.slice a n cap, .func (.func 141) #[] #[.pointer (some ⟨bp, 0, none⟩)]] w fun e w' => e = .returned (.tuple #[]) ∧ SlL w' base 28 64 (.slice a n cap) (plR (isL n R)) ∧ w.grownBy w' (Value.slice a n cap).ownBlock := by
 have HL := Lib.hid (bitsLen_any n w hR)
 have HP := Lib.hid (fun l => pdqsort_any p R a n cap base bp l w hn hS B0 hbp (by omega))
 have hn4 : (n : Int) ≤ 4 := by omega
 clear hS B0
 go_enter Try.func140, Try.ntmps140
 go_wp2_with (first | (go_at_call 160; refine HL.out.mono ?_; rintro e w1 ⟨⟨r, rfl⟩, rfl⟩) | (go_at_call 159; refine (HP.out r).mono ?_; rintro e w1 ⟨rfl, hS1, hG1⟩))
 exact bodyPost_end (results_none rfl _ _ _) rfl ⟨rfl, hS1, hG1⟩
end Go.Proofs.Ytelgefgphhebnaa
end
section
namespace Go.Proofs.Ytelgefgphhebnaa
set_option linter.unusedVariables false
def rdR (p : Nat) (L : List (Nat → Nat)) (j : Nat) : List (Nat → Nat) := (L.take j).foldl (rdL p) []
theorem rdR_z (p : Nat) (L : List (Nat → Nat)) : rdR p L 0 = [] := by unfold rdR; rw [List.take_zero]; rfl
theorem rdR_s {p : Nat} {L : List (Nat → Nat)} {j : Nat} {x : Nat → Nat} (h : L[j]? = some x) : rdR p L (j + 1) = rdL p (rdR p L j) x := by
 unfold rdR
 rw [List.take_add_one, h, List.foldl_append]
 rfl
theorem rdR_n (p : Nat) (L : List (Nat → Nat)) : rdR p L L.length = L.foldl (rdL p) [] := by unfold rdR; rw [List.take_length]
theorem rdR_ok {p d : Nat} (hpr : p = 2 ∨ p = 3 ∨ p = 5 ∨ p = 7) (hd4 : d ≤ 4) {L : List (Nat → Nat)} (hL : ∀ v, v ∈ L → cln p v ∧ deg v < (d : Int)) (j : Nat) :
 (rdR p L j).length ≤ 4 ∧ ∀ r, r ∈ rdR p L j → cln p r ∧ ∃ t : Nat, deg r = (t : Int) ∧ t < d := by
 obtain ⟨s, D, h, h1, _⟩ := span_inv hpr hd4 L hL (L.take j) [] (fun _ _ => 0) (fun v hv => List.mem_of_mem_take hv) ⟨List.nodup_nil, fun t ht => by simp at ht⟩
 rw [List.map_nil] at h1
 unfold rdR
 rw [h1]
 refine ⟨?_, fun r hr => ?_⟩
 · rw [List.length_map]
   have := List.Nodup.length_le_of_subset h.1 (l₂ := List.range 4) (fun t ht => List.mem_range.2 (by have := (h.2 t ht).1; omega))
   simpa using this
 · obtain ⟨t, ht, rfl⟩ := List.mem_map.1 hr
   exact ⟨(h.2 t ht).2.2.1, t, (h.2 t ht).2.1, (h.2 t ht).1⟩
/-- cleared by the first i rows -/
def cvS (p : Nat) (x : Nat → Nat) (R : List (Nat → Nat)) (i : Nat) : Nat → Nat := clrA p x (R.take i)
theorem cvS_z (p : Nat) (x : Nat → Nat) (R : List (Nat → Nat)) : cvS p x R 0 = x := by unfold cvS; rw [List.take_zero]; rfl
theorem cvS_s {p : Nat} {x : Nat → Nat} {R : List (Nat → Nat)} {i : Nat} {r : Nat → Nat} (h : R[i]? = some r) : cvS p x R (i + 1) = clr p (cvS p x R i) r := by
 unfold cvS clrA
 rw [List.take_add_one, h, List.foldl_append]
 rfl
theorem cvS_n (p : Nat) (x : Nat → Nat) (R : List (Nat → Nat)) : cvS p x R R.length = clrA p x R := by unfold cvS; rw [List.take_length]
theorem cvS_cln {p : Nat} (hp : 0 < p) {x : Nat → Nat} {R : List (Nat → Nat)} (hx : cln p x) (hR : ∀ r, r ∈ R → cln p r) : ∀ i, cln p (cvS p x R i)
 | 0 => by rw [cvS_z]; exact hx
 | i + 1 => by
  cases h : R[i]? with
  | none =>
   have hl : R.length ≤ i := List.getElem?_eq_none_iff.1 h
   have e : cvS p x R (i + 1) = cvS p x R i := by unfold cvS; rw [List.take_of_length_le hl, List.take_of_length_le (by omega)]
   rw [e]; exact cvS_cln hp hx hR i
  | some r => rw [cvS_s h]; exact clr_cln hp (cvS_cln hp hx hR i).2 (hR r (List.mem_of_getElem? h))
/-- the first i rows are changed -/
def mqL (f : (Nat → Nat) → (Nat → Nat)) (i : Nat) (R : List (Nat → Nat)) : List (Nat → Nat) := (R.take i).map f ++ R.drop i
theorem mqL_z (f : (Nat → Nat) → (Nat → Nat)) (R : List (Nat → Nat)) : mqL f 0 R = R := rfl
theorem mqL_n (f : (Nat → Nat) → (Nat → Nat)) (R : List (Nat → Nat)) : mqL f R.length R = R.map f := by unfold mqL; rw [List.take_length, List.drop_length, List.append_nil]
theorem mqL_len (f : (Nat → Nat) → (Nat → Nat)) (i : Nat) (R : List (Nat → Nat)) : (mqL f i R).length = R.length := by unfold mqL; rw [List.length_append, List.length_map, List.length_take, List.length_drop]; omega
theorem mqL_get {f : (Nat → Nat) → (Nat → Nat)} {i : Nat} {R : List (Nat → Nat)} {r : Nat → Nat} (h : R[i]? = some r) : (mqL f i R)[i]? = some r := by
 have hi := (List.getElem?_eq_some_iff.1 h).1
 unfold mqL
 rw [List.getElem?_append_right (by rw [List.length_map, List.length_take]; omega), List.length_map, List.length_take, Nat.min_eq_left (by omega), Nat.sub_self, List.getElem?_drop, Nat.add_zero]
 exact h
theorem mqL_set {f : (Nat → Nat) → (Nat → Nat)} {i : Nat} {R : List (Nat → Nat)} {r : Nat → Nat} (h : R[i]? = some r) : (mqL f i R).set i (f r) = mqL f (i + 1) R := by
 obtain ⟨hi, e⟩ := List.getElem?_eq_some_iff.1 h
 unfold mqL
 have h1 : ((R.take i).map f).length = i := by rw [List.length_map, List.length_take]; omega
 have h2 := List.set_append (s := (R.take i).map f) (t := R.drop i) (i := i) (x := f r)
 rw [h2, if_neg (by omega), h1, Nat.sub_self, List.drop_eq_getElem_cons hi, List.set_cons_zero, List.take_add_one, h, List.map_append, List.append_assoc]
 rfl
/-- a step where something is left, and where nothing is -/
theorem rdL_no {p : Nat} {R : List (Nat → Nat)} {x : Nat → Nat} (h : deg (clrA p x R) < 0) : rdL p R x = R := by unfold rdL; rw [if_pos h]
theorem rdL_yes {p : Nat} {R : List (Nat → Nat)} {x : Nat → Nat} (h : ¬ deg (clrA p x R) < 0) : rdL p R x = R.map (fun r => clr p r (mkP p (clrA p x R))) ++ [mkP p (clrA p x R)] := by unfold rdL; rw [if_neg h]
/-- the model's lists -/
def ptR (p : Nat) (L : List (Nat → Nat)) (j : Nat) : List (Nat → Nat) := (L.take j).foldl (ptL p) []
theorem ptR_z (p : Nat) (L : List (Nat → Nat)) : ptR p L 0 = [] := by unfold ptR; rw [List.take_zero]; rfl
theorem ptR_s {p : Nat} {L : List (Nat → Nat)} {j : Nat} {x : Nat → Nat} (h : L[j]? = some x) : ptR p L (j + 1) = ptL p (ptR p L j) x := by
 unfold ptR
 rw [List.take_add_one, h, List.foldl_append]
 rfl
theorem ptR_n (p : Nat) (L : List (Nat → Nat)) : ptR p L L.length = L.foldl (ptL p) [] := by unfold ptR; rw [List.take_length]
theorem ptR_ok {p d : Nat} (hpr : p = 2 ∨ p = 3 ∨ p = 5 ∨ p = 7) (hd4 : d ≤ 4) {L : List (Nat → Nat)} (hL : ∀ v, v ∈ L → cln p v ∧ deg v < (d : Int)) (j : Nat) :
 (ptR p L j).length ≤ 4 ∧ ∀ r, r ∈ ptR p L j → cln p r ∧ ∃ t : Nat, deg r = (t : Int) ∧ t < d := by
 obtain ⟨s, D, h, _, h1⟩ := span_inv hpr hd4 L hL (L.take j) [] (fun _ _ => 0) (fun v hv => List.mem_of_mem_take hv) ⟨List.nodup_nil, fun t ht => by simp at ht⟩
 rw [show dsc (inS []) = [] from rfl, List.map_nil] at h1
 unfold ptR
 rw [h1]
 refine ⟨?_, fun r hr => ?_⟩
 · rw [List.length_map]
   unfold dsc
   exact Nat.le_trans (List.length_filter_le _ _) (by decide)
 · obtain ⟨t, ht, rfl⟩ := List.mem_map.1 hr
   have ht : t ∈ s := by
    unfold dsc inS at ht
    simpa using (List.mem_filter.1 ht).2
   exact ⟨(h.2 t ht).2.2.1, t, (h.2 t ht).2.1, (h.2 t ht).1⟩
theorem ptL_no {p : Nat} {M : List (Nat → Nat)} {x : Nat → Nat} (h : deg (clrA p x M) < 0) : ptL p M x = M := by unfold ptL; rw [if_pos h]
theorem ptL_yes {p n : Nat} {M : List (Nat → Nat)} {x : Nat → Nat} (h : deg (clrA p x M) = (n : Int)) : ptL p M x = puW p n (mkP p (clrA p x M)) false M := by
 unfold ptL; rw [if_neg (by omega), h, Int.toNat_natCast]
theorem clr_zero {p t : Nat} {x y : Nat → Nat} (hp : 0 < p) (hx : cln p x) (hy : deg y = (t : Int)) (h : x t = 0) : clr p x y = x := by
 funext k
 have := clr_cast hp (v := x) hy k
 rw [h, Int.natCast_zero, Int.zero_mul, Int.sub_zero, Int.emod_eq_of_lt (by omega) (by have := hx.1 k; omega)] at this
 exact Int.ofNat.inj this
theorem puW_end (p n : Nat) (x : Nat → Nat) (pl : Bool) : puW p n x pl [] = if pl then [] else [x] := by rw [puW]
theorem puW_in {p n : Nat} {x r : Nat → Nat} {l : List (Nat → Nat)} (h : deg r < (n : Int)) : puW p n x false (r :: l) = x :: clr p r x :: puW p n x true l := by
 rw [puW, if_pos (by simp [h])]
theorem puW_no {p n : Nat} {x r : Nat → Nat} {l : List (Nat → Nat)} (h : ¬ deg r < (n : Int)) : puW p n x false (r :: l) = clr p r x :: puW p n x false l := by
 rw [puW, if_neg (by simp [h])]
theorem puW_done {p n : Nat} {x r : Nat → Nat} {l : List (Nat → Nat)} : puW p n x true (r :: l) = clr p r x :: puW p n x true l := by
 rw [puW, if_neg (by simp)]
/-- the reduced list of the span -/
def spnV (p : Nat) (L : List (Nat → Nat)) : List (Nat → Nat) := (L.map cut).foldl (ptL p) []
theorem cut_cln {p : Nat} {f : Nat → Nat} (hp : 0 < p) (h : ∀ k, k < 64 → f k < p) : cln p (cut f) := by
 refine ⟨fun k => ?_, fun k hk => ?_⟩
 · unfold cut; split
   · exact h k (by assumption)
   · exact hp
 · unfold cut; rw [if_neg (by omega)]
theorem cut_deg (f : Nat → Nat) : deg (cut f) = deg f := deg_congr fun k hk => by unfold cut; rw [if_pos hk]
theorem spnV_ok {p d : Nat} (hpr : p = 2 ∨ p = 3 ∨ p = 5 ∨ p = 7) (hd4 : d ≤ 4) {L : List (Nat → Nat)} (hL : ∀ v, v ∈ L → (∀ k, k < 64 → v k < p) ∧ deg v < (d : Int)) : ∀ v, v ∈ L.map cut → cln p v ∧ deg v < (d : Int) := fun v hv => by
 obtain ⟨u, hu, rfl⟩ := List.mem_map.1 hv
 exact ⟨cut_cln (by omega) (hL u hu).1, by rw [cut_deg]; exact (hL u hu).2⟩
attribute [irreducible] rdR cvS mqL ptR spnV
end Go.Proofs.Ytelgefgphhebnaa
end
section
namespace Go.Proofs.Ytelgefgphhebnaa
open Go Go.RowKit
set_option linter.unusedVariables false
/-- the address of a slice whose first A rows are F -/
def SlR (w : World) (a : Option Addr) (A : Nat) (F : Nat → Nat → Nat) : Prop :=
 A = 0 ∨ ∃ b n t, a = some ⟨b, 0, none⟩ ∧ A ≤ n ∧ Blk w b (n * 64) t (fl 64 F)
theorem SlR.has {w : World} {a : Option Addr} {A : Nat} {F : Nat → Nat → Nat} (h : SlR w a A F) (hA : 0 < A) : ∃ b n t, a = some ⟨b, 0, none⟩ ∧ A ≤ n ∧ Blk w b (n * 64) t (fl 64 F) := by
 rcases h with h | h
 · omega
 · exact h
theorem SlR.of {w : World} {b n A : Nat} {t : TypeId} {F : Nat → Nat → Nat} (h : Blk w b (n * 64) t (fl 64 F)) (hA : A ≤ n) : SlR w (some ⟨b, 0, none⟩) A F := .inr ⟨b, n, t, rfl, hA, h⟩
theorem SlR.nil (w : World) (F : Nat → Nat → Nat) : SlR w none 0 F := .inl rfl
theorem SlR.below {w w' : World} {a : Option Addr} {A : Nat} {F : Nat → Nat → Nat} (h : SlR w a A F) (hb : Below w.heap.size w w') : SlR w' a A F := by
 rcases h with h | ⟨b, n, t, e, hA, h⟩
 · exact .inl h
 · exact .inr ⟨b, n, t, e, hA, h.zw hb⟩
theorem bcells_made (n : Nat) : madeCells (zb 64 fun _ => 0) (n * 64) = zb (n * 64) (fl 64 fun _ _ => 0) := by
 rw [fl_zero]
 apply Array.ext
 · rw [size_madeCells, zbs]
 · intro i h1 h2
   rw [zbs] at h2
   have e := bcells_get (n := n * 64) (f := fun _ => 0) (i := i) h2
   rw [Array.getElem?_eq_getElem (by rw [zbs]; exact h2)] at e
   injection e with e
   rw [e]
   have hm : i % 64 < 64 := Nat.mod_lt _ (by decide)
   have e2 := bcells_get (n := 64) (f := fun _ => 0) (i := i % 64) hm
   unfold madeCells
   simp only [Array.getElem_map, Array.getElem_range, zbs]
   rw [getElem!_def, e2]
theorem Try.made28 : (Try.prog.info? 28).map (fun i => (i.zero.map (·.cells), i.size, i.bytes)) = some (some (zb 64 fun _ => 0), 64, 64) := by simp only [zb, bl]; kernel_rfl
attribute [irreducible] SlR
end Go.Proofs.Ytelgefgphhebnaa
end
section
namespace Go.Proofs.Ytelgefgphhebnaa
open Go.ChangeShapes Go.WideShapes Go.ChangeAt Go.RowKit
section
variable {H : Type} {enc : TypeId × Value → H} {P : Program}
theorem trod_int_to {e : TypeId} {k : IntKind} (he : P.underlying e = some (.int k)) {w : World} (w' : World) {b : Nat} (b' : Nat) {s : Nat → Bool} (s' : Nat → Bool) {h : Bool} (h' : Bool) {m : Nat} {c : List Value} {x : DataW H × List MemPlace}
 (hx : DataW.trod enc P w b s h m e c = some x) : DataW.trod enc P w' b' s' h' m e c = some x := by
 cases m with
 | zero => simp [DataW.trod] at hx
 | succ m =>
  obtain ⟨n, rfl, rfl, hw⟩ := DataW.trod_int he hx
  unfold DataW.trod
  rw [he]
  simp [hw]
theorem trod_int_same {e : TypeId} {k : IntKind} (he : P.underlying e = some (.int k)) (w w' : World) (b b' : Nat) (s s' : Nat → Bool) (h h' : Bool) (m : Nat) (c : List Value) :
 DataW.trod enc P w b s h m e c = DataW.trod enc P w' b' s' h' m e c := by
 cases h1 : DataW.trod enc P w b s h m e c with
 | some x => rw [trod_int_to he w' b' s' h' h1]
 | none =>
  cases h2 : DataW.trod enc P w' b' s' h' m e c with
  | none => rfl
  | some x => rw [trod_int_to he w b s h h2] at h1; cases h1
theorem open_barr {t e : TypeId} {n : Nat} {w : World} {r : Reach} {b0 base : Nat} {spare : Nat → Bool} {held : Bool} {v : Value} {d : DataW H} {p : List MemPlace}
 (ht : P.underlying t = some (.array n e)) (he : P.underlying e = some (.int .u8)) (hC : P.cellsOf t = n) (hCe : P.cellsOf e = 1)
 (hv : Value.okWide P w r b0 t v) (h : DataW.Trod enc P w base spare held t v d p) :
 ∃ f : Nat → Nat, byte f ∧ v = .agg (zb n f) ∧ p = [] ∧ ∀ (w' : World) (base' : Nat) (spare' : Nat → Bool) (held' : Bool), DataW.Trod enc P w' base' spare' held' t v d [] := by
 unfold Value.okWide at hv
 rw [ht] at hv
 obtain ⟨cs, rfl, hsz, _⟩ := hv
 obtain ⟨fuel, hf⟩ := h
 obtain ⟨xs, m, hm, hx, hlen, hxl, hel⟩ := DataW.trod_array ht hf
 subst hm
 have hcs : cs.size = n := by rw [hsz, hC]
 have each : ∀ i, i < n → ∃ k : Nat, k < 256 ∧ cs[i]? = some (.int .u8 (k : Int)) ∧ xs[i]? = some (.lit (.int .u8 (k : Int)), []) := by
  intro i hi
  have h1 := hel i hi
  have hxi : xs[i]? = some (xs[i]'(by omega)) := List.getElem?_eq_getElem (by omega)
  rw [hxi, hCe] at h1
  obtain ⟨z, hz1, hz2, hz3⟩ := DataW.trod_int he h1
  have hb := bounds_u8 hz3
  obtain ⟨k, rfl⟩ := Int.eq_ofNat_of_zero_le hb.1
  refine ⟨k, by omega, ?_, by rw [hxi, hz2]⟩
  have h2 : ((cs.toList.drop (i * 1)).take 1)[0]? = some (.int .u8 (k : Int)) := by
   have h3 : (Value.agg cs).cells.toList = cs.toList := rfl
   rw [← h3, hz1]; rfl
  simpa using h2
 refine ⟨fun i => match cs[i]? with | some (.int _ z) => if i < n then z.toNat else 0 | _ => 0, ?_, ?_, ?_, ?_⟩
 · intro i
   by_cases hi : i < n
   · obtain ⟨k, hk, hc, _⟩ := each i hi
     simp only [hc, hi, if_true, Int.toNat_natCast]
     exact hk
   · have : cs[i]? = none := Array.getElem?_eq_none (by omega)
     simp [this]
 · congr 1
   apply Array.ext_getElem?
   intro i
   by_cases hi : i < n
   · obtain ⟨k, hk, hc, _⟩ := each i hi
     rw [bcells_get hi]
     simp only [hc, hi, if_true, Int.toNat_natCast]
   · rw [Array.getElem?_eq_none (by omega), Array.getElem?_eq_none (by rw [zbs]; omega)]
 · have hp : p = xs.flatMap (·.2) := by simpa using congrArg Prod.snd hx
   rw [hp]
   rw [List.flatMap_eq_nil_iff]
   intro x hxm
   obtain ⟨i, hi⟩ := List.getElem?_of_mem hxm
   have hin : i < n := by rw [← hxl]; exact (List.getElem?_eq_some_iff.1 hi).1
   obtain ⟨k, _, _, h2⟩ := each i hin
   rw [hi] at h2
   injection h2 with h2
   rw [h2]
 · intro w' base' spare' held'
   refine ⟨m + 1, ?_⟩
   have e1 : DataW.trod enc P w' base' spare' held' (m + 1) t (Value.agg cs).cells.toList = DataW.trod enc P w base spare held (m + 1) t (Value.agg cs).cells.toList := by
    unfold DataW.trod
    rw [ht]
    simp only [trod_int_same he w' w base' base spare' spare held' held m]
   rw [e1, hf]
   have hp : p = xs.flatMap (·.2) := by simpa using congrArg Prod.snd hx
   have : p = [] := by
    rw [hp, List.flatMap_eq_nil_iff]
    intro x hxm
    obtain ⟨i, hi⟩ := List.getElem?_of_mem hxm
    have hin : i < n := by rw [← hxl]; exact (List.getElem?_eq_some_iff.1 hi).1
    obtain ⟨k, _, _, h2⟩ := each i hin
    rw [hi] at h2
    injection h2 with h2
    rw [h2]
   rw [this]
end
end Go.Proofs.Ytelgefgphhebnaa
end
section
namespace Go.Proofs.Ytelgefgphhebnaa
open Go Go.RowKit Go.ChangeShapes Go.WideShapes Go.ChangeAt
set_option linter.unusedVariables false
/-- an argument's list: n rows of bytes, somewhere -/
def Lst (w : World) (a : Option Addr) (n : Nat) (X : Nat → Nat → Nat) : Prop :=
 n = 0 ∨ ∃ b off, a = some ⟨b, off, none⟩ ∧ b < w.heap.size ∧ ∀ i, i < n → w.rangeAt b (off + i * 64) (bl 64 (X i))
theorem Lst.has {w : World} {a : Option Addr} {n : Nat} {X : Nat → Nat → Nat} (h : Lst w a n X) (hn : 0 < n) : ∃ b off, a = some ⟨b, off, none⟩ ∧ b < w.heap.size ∧ ∀ i, i < n → w.rangeAt b (off + i * 64) (bl 64 (X i)) := by
 rcases h with h | h
 · omega
 · exact h
theorem Lst.below {w w' : World} {a : Option Addr} {n : Nat} {X : Nat → Nat → Nat} (h : Lst w a n X) (hb : Below w.heap.size w w') : Lst w' a n X := by
 rcases h with h | ⟨b, off, e, hl, h⟩
 · exact .inl h
 · refine .inr ⟨b, off, e, Nat.lt_of_lt_of_le hl hb.size, fun i hi j v hj => ?_⟩
   rw [← h i hi j v hj]
   exact World.cell?_of_block (hb.block b hl)
theorem cell_lt {w : World} {b off : Nat} {u : Value} (h : w.cell? ⟨b, off, none⟩ = some u) : b < w.heap.size := by
 apply Classical.byContradiction
 intro hn
 have : w.heap[b]? = none := Array.getElem?_eq_none (by omega)
 simp [World.cell?, this] at h
section
variable {H : Type} {enc : TypeId × Value → H} {P : Program}
theorem open_cells {t e : TypeId} {n : Nat} {w : World} {base : Nat} {spare : Nat → Bool} {held : Bool} {fuel : Nat} {cs : List Value} {x : DataW H × List MemPlace}
 (ht : P.underlying t = some (.array n e)) (he : P.underlying e = some (.int .u8)) (hC : P.cellsOf t = n) (hCe : P.cellsOf e = 1) (h : DataW.trod enc P w base spare held fuel t cs = some x) :
 ∃ f : Nat → Nat, byte f ∧ cs = bl n f := by
 obtain ⟨xs, m, hm, hx, hlen, hxl, hel⟩ := DataW.trod_array ht h
 have hcs : cs.length = n := by rw [hlen, hC]
 have each : ∀ i, i < n → ∃ k : Nat, k < 256 ∧ cs[i]? = some (.int .u8 (k : Int)) := by
  intro i hi
  have h1 := hel i hi
  have hxi : xs[i]? = some (xs[i]'(by omega)) := List.getElem?_eq_getElem (by omega)
  rw [hxi, hCe] at h1
  obtain ⟨z, hz1, hz2, hz3⟩ := DataW.trod_int he h1
  have hb := bounds_u8 hz3
  obtain ⟨k, rfl⟩ := Int.eq_ofNat_of_zero_le hb.1
  refine ⟨k, by omega, ?_⟩
  have h2 : ((cs.drop (i * 1)).take 1)[0]? = some (.int .u8 (k : Int)) := by rw [hz1]; rfl
  simpa using h2
 refine ⟨fun i => match cs[i]? with | some (.int _ z) => if i < n then z.toNat else 0 | _ => 0, ?_, ?_⟩
 · intro i
   by_cases hi : i < n
   · obtain ⟨k, hk, hc⟩ := each i hi
     simp only [hc, hi, if_true, Int.toNat_natCast]
     exact hk
   · have : cs[i]? = none := List.getElem?_eq_none (by omega)
     simp [this]
 · apply List.ext_getElem?
   intro i
   by_cases hi : i < n
   · obtain ⟨k, hk, hc⟩ := each i hi
     unfold bl
     rw [List.getElem?_map, List.getElem?_range hi]
     simp only [Option.map_some, hc, hi, if_true, Int.toNat_natCast]
   · rw [List.getElem?_eq_none (by omega), List.getElem?_eq_none (by rw [zl]; omega)]
/-- the argument, opened -/
theorem open_polyS {t e u : TypeId} {w : World} {v : Value} {d : DataW H} {p : List MemPlace} {r : Reach} {b0 : Nat} (hv : Value.okWide P w r b0 t v)
 (ht : P.underlying t = some (.slice e)) (he : P.underlying e = some (.array 64 u)) (hu : P.underlying u = some (.int .u8)) (hCe : P.cellsOf e = 64) (hCu : P.cellsOf u = 1) (h : DataW.Trod enc P w 0 (fun _ => true) true t v d p) :
 ∃ (a : Option Addr) (n cap : Nat) (X : Nat → Nat → Nat), v = .slice a n cap ∧ n ≤ maxLen ∧ (∀ i, byte (X i)) ∧ Lst w a n X := by
 obtain ⟨a0, l0, c0, rfl⟩ := okWide_slice ht hv
 obtain ⟨fuel, hf⟩ := h
 rcases Go.Deep.open_slice ht hf with ⟨hv, _⟩ | ⟨a, len, cap, m, n, D, Pl, hv, hb, hl, hm, hmm, hx, hcell⟩
 · have : Value.slice a0 l0 c0 = .slice none 0 0 := by simpa [Value.cells] using hv
   exact ⟨none, 0, 0, fun _ _ => 0, this, Nat.zero_le _, fun _ _ => Nat.zero_lt_succ _, .inl rfl⟩
 · have hv2 : Value.slice a0 l0 c0 = .slice (some a) len cap := by simpa [Value.cells] using hv
   have hm2 : m = cap := by simpa using hmm
   obtain ⟨X, hX⟩ := Go.Deep.choose_lt (α := Nat → Nat) (n := len) (p := fun i f => byte f ∧ w.cells? 0 (a.add (i * 64)) 64 = some (bl 64 f)) (fun i hi => by
    obtain ⟨cs', h1, h2⟩ := hcell i (by omega)
    obtain ⟨f, hf1, hf2⟩ := open_cells he hu hCe hCu h2
    rw [hCe] at h1
    exact ⟨f, hf1, by rw [h1, hf2]⟩)
   refine ⟨some a, len, cap, fun i j => if i < len then X i j else 0, hv2, Nat.le_trans hl hm, fun i j => ?_, ?_⟩
   · by_cases hi : i < len
     · simp only [hi, if_true]; exact (hX i hi).1 j
     · simp only [hi, if_false]; decide
   · by_cases h0 : len = 0
     · exact .inl h0
     · have key : ∀ i, i < len → ∀ j, j < 64 → w.cell? (a.add (i * 64 + j)) = (bl 64 (X i))[j]? := by
        intro i hi j hj
        have := (World.cells?_some (hX i hi).2).2.2 j hj
        rw [Go.Deep.add_add] at this
        exact this
       have k0 := key 0 (by omega) 0 (by decide)
       obtain ⟨b, off, spot⟩ := a
       have hc0 : ∃ u, w.cell? ((⟨b, off, spot⟩ : Addr).add 0) = some u := by
        rw [show (0 : Nat) * 64 + 0 = 0 from rfl] at k0
        exact ⟨_, by rw [k0]; exact List.getElem?_eq_getElem (by rw [zl]; decide)⟩
       obtain ⟨u0, hu0⟩ := hc0
       have hspot : spot = none := by simpa [Addr.add] using World.cell?_spot hu0
       subst hspot
       have hbl : b < w.heap.size := by
        have h3 : w.cell? ⟨b, off, none⟩ = some u0 := by simpa [Addr.add] using hu0
        exact cell_lt h3
       refine .inr ⟨b, off, rfl, hbl, fun i hi j v hj => ?_⟩
       have hj64 : j < 64 := by have := (List.getElem?_eq_some_iff.1 hj).1; rw [zl] at this; exact this
       simp only [hi, if_true] at hj
       rw [Nat.add_assoc, ← Go.WideShapes.add_plain, key i hi j hj64]
       exact hj
end
section
variable {H : Type} {enc : TypeId × Value → H} {P : Program}
/-- the row's last step where the call has only made new memory; arguments that lead into old memory -/
theorem post_of_belowL {f : Func} {s : ChangeSpec} {apart fresh handsOn : Bool} {W W' : World} {args : Array Value} {v : Value} {ds gs : List (DataW H)} {before pa pv : List MemPlace}
 (hW : DataW.Whole enc P f.params.toList s.vars apart W args.toList ds gs before)
 (hres : ∀ (b : Nat) (sp : Nat → Bool) (hd : Bool), DataW.TrodAll enc P W' b sp hd f.resultTypes.toList (v.resultList f.resultTypes.size) (s.fn H (ds ++ gs)).results [])
 (hargs : DataW.TrodAll enc P W' 0 (fun b => decide (b < W.heap.size)) true f.params.toList args.toList (s.fn H (ds ++ gs)).args pa)
 (hvars : DataW.TrodVars enc P W' (fun b => decide (b < W.heap.size)) s.vars (s.fn H (ds ++ gs)).vars pv)
 (hps : before = pa ++ pv) (hb : Below W.heap.size W W') : s.post enc P f apart fresh handsOn false W args v W' := by
 refine ⟨ds, gs, before, [], pa, pv, hW, hres _ _ _, hargs, hvars, ?_, fun h => by cases h⟩
 refine World.keptBut_mono (fun p hp => ⟨hp, .inr ?_⟩) (hb.frame (· ∈ before))
 rw [hps, List.mem_append] at hp
 exact hp
end
/-- rows that are made at once, as a list -/
theorem slL_ofBlk {w : World} {b n base : Nat} {F : Nat → Nat → Nat} (h : Blk w b (n * 64) 28 (fl 64 F)) (hb : base ≤ b) (hn : n ≤ maxLen) :
 SlL w base 28 64 (.slice (some ⟨b, 0, none⟩) n n) (plR ((List.range n).map F)) := by
 have hlen : (plR ((List.range n).map F)).length = n := by rw [plR_len]; simp
 have hall : ∀ c ∈ plR ((List.range n).map F), c.length = 64 := by
  intro c hc
  unfold plR at hc
  obtain ⟨f, _, rfl⟩ := List.mem_map.1 hc
  exact zl _ _
 have hfl : (plR ((List.range n).map F)).flatten = bl (n * 64) (fl 64 F) := by
  apply List.ext_getElem?
  intro k
  by_cases hk : k < n * 64
  · have hd : k / 64 < n := Nat.div_lt_of_lt_mul (by rw [Nat.mul_comm]; exact hk)
    have hm : k % 64 < 64 := Nat.mod_lt _ (by decide)
    have h1 : (plR ((List.range n).map F))[k / 64]? = some (bl 64 (F (k / 64))) := by
     unfold plR
     rw [List.getElem?_map, List.getElem?_map, List.getElem?_range hd]; rfl
    have h2 : (bl 64 (F (k / 64)))[k % 64]? = some (.int .u8 (F (k / 64) (k % 64) : Int)) := by
     unfold bl
     rw [List.getElem?_map, List.getElem?_range hm]; rfl
    have h3 := flat_at (plR ((List.range n).map F)) 64 (k / 64) _ (k % 64) _ hall h1 h2
    rw [show k / 64 * 64 + k % 64 = k by omega] at h3
    rw [h3]
    unfold bl fl
    rw [List.getElem?_map, List.getElem?_range hk]; rfl
  · have hlf : (plR ((List.range n).map F)).flatten.length = n * 64 := by
     rw [List.length_flatten, show (plR ((List.range n).map F)).map List.length = List.replicate n 64 from List.eq_replicate_iff.2 ⟨by rw [List.length_map, hlen], fun x hx => by obtain ⟨c, hc, rfl⟩ := List.mem_map.1 hx; exact hall c hc⟩, List.sum_replicate_nat]
    rw [List.getElem?_eq_none (l := (plR ((List.range n).map F)).flatten) (by omega), List.getElem?_eq_none (by rw [zl]; omega)]
 unfold SlL
 refine ⟨Nat.le_trans hb (Nat.le_of_lt h.lt), hall, ?_⟩
 unfold Blk at h
 refine ⟨?_, .inr ⟨b, n, zb (n * 64) (fl 64 F), by rw [hlen], hb, h, by rw [hlen]; exact Nat.le_refl _, hn, zbs _ _, ?_⟩⟩
 · rw [hfl, zl, hlen]
 · rw [hlen, hfl, show (zb (n * 64) (fl 64 F)).toList = bl (n * 64) (fl 64 F) from rfl]
   exact List.take_of_length_le (by rw [zl]; exact Nat.le_refl _)
section
variable {P : Program}
theorem wpList_make_rowsB (w : World) {ops : Array Oper} {rest : List Oper} {o : Oper} {a : Act} {Q : Exit → Act → World → Prop} (hg : o.guard = none) (t : TypeId) (l c : Operand) (hop : o.op = .makeSlice t l c)
 (e : TypeId) (ht : P.underlying t = some (.slice e)) (hinfo : (P.info? e).map (fun i => (i.zero.map (·.cells), i.size, i.bytes)) = some (some (zb 64 fun _ => 0), 64, 64)) (n : Nat) (hn : (n : Int) ≤ 1048576)
 (hl : a.eval l = .int .i64 (n : Int)) (hc : a.eval c = .int .i64 (n : Int))
 (hK : wpList P ops Q rest (a.put o.dst (.slice (some ⟨w.heap.size, 0, none⟩) n n)) (w.alloc (.cells (zb (n * 64) (fl 64 fun _ _ => 0)) e))) :
 wpList P ops Q (o :: rest) a w := by
 refine wpList_plain hg fun K hK' => ?_
 obtain ⟨i, hi, hzz⟩ := Option.map_eq_some_iff.1 hinfo
 simp only [Prod.mk.injEq] at hzz
 obtain ⟨hz0, hs, hb⟩ := hzz
 obtain ⟨z, hz, hzc⟩ := Option.map_eq_some_iff.1 hz0
 have hrun := run_make (P := P) w t e i z ht hi hz .i64 .i64 n n (by omega) (Int.le_refl _) (by rw [hb]; omega) (by omega)
 rw [Int.toNat_natCast, hs, hzc, bcells_made] at hrun
 unfold Oper.wp
 simp [execOp, hop, hl, hc, hrun, Result.andThen]
 exact hK' _ _ hK
end
attribute [irreducible] Lst
end Go.Proofs.Ytelgefgphhebnaa
end
section
namespace Go.Proofs.Ytelgefgphhebnaa
open Go Go.RowKit
set_option linter.unusedVariables false
set_option linter.unusedSimpArgs false
section
attribute [local irreducible] mkW MkP
set_option maxRecDepth 100000 in
set_option maxHeartbeats 3200000 in
theorem eqPolyS_big (R : List (Nat → Nat)) (a1 a2 : Option Addr) (cap1 cap2 base1 base2 : Nat) (w : World) (h1 : SlL w base1 28 64 (.slice a1 R.length cap1) (plR R)) (h2 : SlL w base2 28 64 (.slice a2 R.length cap2) (plR R)) (hR : R.length ≤ 1048576) :
 Calls Try.prog 20 #[.slice a1 R.length cap1, .slice a2 R.length cap2] w fun e w' => e = .returned (.bool true) ∧ Below w.heap.size w w' := by
 go_enter Try.func20, Try.ntmps20
 go_wp2_with fail
 go_loopw [5] (fun i wr => ∃ j : Nat, i = .int .i64 (j : Int) ∧ j ≤ R.length ∧ Below w.heap.size w wr) (fun i _ => R.length - (intOf i).toNat)
 case atStart => exact ⟨0, rfl, Nat.zero_le _, Below.refl _ _⟩
 case round =>
  obtain ⟨j, rfl, hjR, hb⟩ := hrel
  by_cases hj : j < R.length
  · obtain ⟨x, hx⟩ : ∃ x, R[j]? = some x := ⟨_, List.getElem?_eq_getElem hj⟩
    obtain ⟨g1, rfl⟩ := h1.some (by rw [plR_len]; omega)
    obtain ⟨g2, rfl⟩ := h2.some (by rw [plR_len]; omega)
    have hrow : (plR R)[j]? = some (bl 64 x) := by unfold plR; rw [List.getElem?_map, hx]; rfl
    have B0 : SlL wr base1 28 64 (.slice (some ⟨g1, 0, none⟩) R.length cap1) (plR R) := h1.zw hb
    have B1 : SlL wr base2 28 64 (.slice (some ⟨g2, 0, none⟩) R.length cap2) (plR R) := h2.zw hb
    have hjl : (j : Int) < (R.length : Int) := by omega
    clear h1 h2
    go_upto_region 6 with (fail)
    have lt_B0 : (base1) ≤ wr.heap.size := B0.lt
    have lt_B1 : (base2) ≤ wr.heap.size := B1.lt
    have hbase : w.heap.size ≤ wr.heap.size := hb.size
    refine zq Try.mixed (by kernel_rfl) (by kernel_rfl) (fun v => by (simp only [frL, Act.put, pA, pB, pC, Nat.reduceAdd, Nat.zero_add]; exact rfl))
     (fun L v W1 => Below w.heap.size w W1 ∧ wr.heap.size ≤ W1.heap.size ∧ SlL W1 base1 28 64 (.slice (some ⟨g1, 0, none⟩) R.length cap1) (plR R) ∧ SlL W1 base2 28 64 (.slice (some ⟨g2, 0, none⟩) R.length cap2) (plR R) ∧ (L 0 = true → v 0 = (.slice (some ⟨g1, 0, none⟩) R.length cap1)) ∧ (L 1 = true → v 1 = (.int .i64 (j : Int))) ∧ (L 2 = true → v 2 = (.pointer (some ⟨g1, j * 64, none⟩))) ∧ (L 3 = true → v 3 = (.agg (bl 64 x).toArray)) ∧ (L 4 = true → v 4 = (.slice (some ⟨g2, 0, none⟩) R.length cap2)) ∧ (L 5 = true → v 5 = (.int .i64 (j : Int))) ∧ (L 6 = true → v 6 = (.pointer (some ⟨g2, j * 64, none⟩))) ∧ (L 7 = true → v 7 = (.agg (bl 64 x).toArray)) ∧ (L 8 = true → v 8 = (.bool true)) ∧ (L 9 = true → v 9 = (.bool false))) ?_ ?_ ?_
    · intro v hv0
      exact ⟨hb.drew, Nat.le_refl _, B0.drew, B1.drew, (fun h => by cases h), (fun h => by cases h), (fun h => by cases h), (fun h => by cases h), (fun h => by cases h), (fun h => by cases h), (fun h => by cases h), (fun h => by cases h), (fun h => by cases h), (fun h => by cases h)⟩
    · refine (.cons rfl ?_ (.cons rfl ?_ (.cons rfl ?_ (.cons rfl ?_ (.cons rfl ?_ (.cons rfl ?_ (.cons rfl ?_ (.cons rfl ?_ (.cons rfl ?_ (.cons rfl ?_ (.nil _)))))))))))
      all_goals intro L v W1 hd hn ⟨hB, hz, s0, s1, h0, h1, h2, h3, h4, h5, h6, h7, h8, h9⟩ K hK
      · go_wp2_with fail
        exact hK _ (.slice (some ⟨g1, 0, none⟩) R.length cap1) _ (by simp only [Act.put, pA, pB, pC ]) ⟨hB, hz, s0, s1, (fun _ => rfl), h1, h2, h3, h4, h5, h6, h7, h8, h9⟩
      · go_wp2_with fail
        exact hK _ (.int .i64 (j : Int)) _ (by simp only [Act.put, pA, pB, pC ]) ⟨hB, hz, s0, s1, h0, (fun _ => rfl), h2, h3, h4, h5, h6, h7, h8, h9⟩
      · have e0 := h0 (zdq hd 0 rfl)
        have e1 := h1 (zdq hd 1 rfl)
        go_wp2_with fail
        exact hK _ (.pointer (some ⟨g1, j * 64, none⟩)) _ (by simp only [Act.put, pA, pB, pC, e0, e1]) ⟨hB, hz, s0, s1, h0, h1, (fun _ => rfl), h3, h4, h5, h6, h7, h8, h9⟩
      · have e2 := h2 (zdq hd 2 rfl)
        have hr := (s0).range hrow
        refine wp_load_mid 28 _ rfl _ (j * 64) e2 _ _ hr Try.underlying28 rfl (by rw [zl]; exact Try.size28) ?_
        exact hK _ _ _ rfl ⟨hB, hz, s0, s1, h0, h1, h2, (fun _ => rfl), h4, h5, h6, h7, h8, h9⟩
      · go_wp2_with fail
        exact hK _ (.slice (some ⟨g2, 0, none⟩) R.length cap2) _ (by simp only [Act.put, pA, pB, pC ]) ⟨hB, hz, s0, s1, h0, h1, h2, h3, (fun _ => rfl), h5, h6, h7, h8, h9⟩
      · go_wp2_with fail
        exact hK _ (.int .i64 (j : Int)) _ (by simp only [Act.put, pA, pB, pC ]) ⟨hB, hz, s0, s1, h0, h1, h2, h3, h4, (fun _ => rfl), h6, h7, h8, h9⟩
      · have e4 := h4 (zdq hd 4 rfl)
        have e5 := h5 (zdq hd 5 rfl)
        go_wp2_with fail
        exact hK _ (.pointer (some ⟨g2, j * 64, none⟩)) _ (by simp only [Act.put, pA, pB, pC, e4, e5]) ⟨hB, hz, s0, s1, h0, h1, h2, h3, h4, h5, (fun _ => rfl), h7, h8, h9⟩
      · have e6 := h6 (zdq hd 6 rfl)
        have hr := (s1).range hrow
        refine wp_load_mid 28 _ rfl _ (j * 64) e6 _ _ hr Try.underlying28 rfl (by rw [zl]; exact Try.size28) ?_
        exact hK _ _ _ rfl ⟨hB, hz, s0, s1, h0, h1, h2, h3, h4, h5, h6, (fun _ => rfl), h8, h9⟩
      · have e3 := h3 (zdq hd 3 rfl)
        have e7 := h7 (zdq hd 7 rfl)
        go_wp2_with (go_at_call 38; refine (eqPoly_same x x (fun _ _ => rfl) _).mono ?_; rintro e wy ⟨rfl, hy⟩)
        exact hK _ (.bool true) _ (by simp only [Act.put, pA, pB, pC, e3, e7]) ⟨hB.trans (hy.mono hB.size), (Nat.le_trans hz hy.size), s0.zw hy, s1.zw hy, h0, h1, h2, h3, h4, h5, h6, h7, (fun _ => rfl), h9⟩
      · have e8 := h8 (zdq hd 8 rfl)
        go_wp2_with fail
        exact hK _ (.bool false) _ (by simp only [Act.put, pA, pB, pC, e8]) ⟨hB, hz, s0, s1, h0, h1, h2, h3, h4, h5, h6, h7, h8, (fun _ => rfl)⟩
    · intro L v W1 hL ⟨hB, hz, s0, s1, h0, h1, h2, h3, h4, h5, h6, h7, h8, h9⟩
      have e0 := h0 (hL 0 (by decide))
      have e1 := h1 (hL 1 (by decide))
      have e2 := h2 (hL 2 (by decide))
      have e3 := h3 (hL 3 (by decide))
      have e4 := h4 (hL 4 (by decide))
      have e5 := h5 (hL 5 (by decide))
      have e6 := h6 (hL 6 (by decide))
      have e7 := h7 (hL 7 (by decide))
      have e8 := h8 (hL 8 (by decide))
      have e9 := h9 (hL 9 (by decide))
      clear hL h0 h1 h2 h3 h4 h5 h6 h7 h8 h9
      simp only [Exit.then, e0, e1, e2, e3, e4, e5, e6, e7, e8, e9]
      clear e0 e1 e2 e3 e4 e5 e6 e7 e8 e9
      replace B0 := s0
      clear s0
      replace B1 := s1
      clear s1
      replace hb := hB
      clear hB
      clear hbase hz lt_B0 lt_B1
      go_wp2_with fail
      go_roundw
      case rel => exact ⟨j + 1, by go_num, by omega, hb⟩
      case measure => simp [intOf] <;> omega
  · have hjl : ¬ (j : Int) < (R.length : Int) := by omega
    go_wp2_with fail
    go_ret
    exact ⟨rfl, hb⟩
end
set_option maxRecDepth 100000 in
set_option maxHeartbeats 3200000 in
theorem szPolyS_at (a : Option Addr) (n cap : Nat) (l : Int) (w : World) (hn : n ≤ maxLen) (hl0 : 0 ≤ l) (hl : l ≤ 1048576) :
 Calls Try.prog 14 #[.slice a n cap, .int .i64 l] w fun e w' => e = .returned (.int .i64 (if (n : Int) ≤ l then l - (n : Int) else -1)) ∧ w' = w := by
 have hn2 : (n : Int) ≤ 9223372036854775807 := by unfold maxLen at hn; omega
 go_enter Try.func14, Try.ntmps14
 by_cases h : (n : Int) ≤ l
 · have h2 : ¬ (l - (n : Int) < 0) := by omega
   rw [if_pos h]
   go_wp2_with fail
   go_ret
   exact ⟨rfl, rfl⟩
 · have h2 : l - (n : Int) < 0 := by omega
   rw [if_neg h]
   go_wp2_with fail
   go_ret
   exact ⟨rfl, rfl⟩
/-- the rows before j -/
def upX (X : Nat → Nat → Nat) (j : Nat) : Nat → Nat → Nat := fun i k => if i < j then X i k else 0
theorem upX_z (X : Nat → Nat → Nat) : upX X 0 = fun _ _ => 0 := by funext i k; unfold upX; rw [if_neg (Nat.not_lt_zero _)]
theorem upX_s (X : Nat → Nat → Nat) (j : Nat) : updR (upX X j) j (X j) = upX X (j + 1) := by
 funext i k
 unfold updR upX
 by_cases h : i = j
 · subst h; rw [if_pos rfl, if_pos (Nat.lt_succ_self _)]
 · rw [if_neg h]
   by_cases h2 : i < j
   · rw [if_pos h2, if_pos (by omega)]
   · rw [if_neg h2, if_neg (by omega)]
theorem upX_n {X : Nat → Nat → Nat} {n : Nat} : (List.range n).map (upX X n) = (List.range n).map X := by
 apply List.map_congr_left
 intro i hi
 funext k
 unfold upX
 rw [if_pos (List.mem_range.1 hi)]
attribute [local irreducible] upX
set_option maxRecDepth 100000 in
set_option maxHeartbeats 3200000 in
theorem toPolyS_any (a : Option Addr) (n cap : Nat) (X : Nat → Nat → Nat) (hX : ∀ i, byte (X i)) (w : World) (h : Lst w a n X) (hn : (n : Int) ≤ 1048576) :
 Calls Try.prog 17 #[.slice a n cap] w fun e w' => ∃ b, e = .returned (.slice (some ⟨b, 0, none⟩) n n) ∧ SlL w' w.heap.size 28 64 (.slice (some ⟨b, 0, none⟩) n n) (plR ((List.range n).map X)) ∧ b < w'.heap.size ∧ Below w.heap.size w w' := by
 have hnL : n ≤ maxLen := by unfold maxLen; omega
 go_enter Try.func17, Try.ntmps17
 go_upto_region 2 with (refine wpList_make_rowsB _ rfl 30 (.tmp 6) (.tmp 6) rfl 28 Try.underlying30 Try.made28 n hn rfl rfl ?_)
 obtain ⟨b, hbe⟩ : ∃ b, b = w.heap.size := ⟨_, rfl⟩
 have B0 : Blk (w.alloc (.cells (zb (n * 64) (fl 64 fun _ _ => 0)) 28)) b (n * 64) 28 (fl 64 (upX X 0)) := by rw [upX_z, hbe]; exact Blk.new w (n * 64) 28 (fl 64 fun _ _ => 0)
 have hb : Below w.heap.size w (w.alloc (.cells (zb (n * 64) (fl 64 fun _ _ => 0)) 28)) := (Below.refl _ _).alloc (Nat.le_refl _) _
 have hbw : w.heap.size ≤ b := by omega
 rw [← hbe]
 obtain ⟨W1, hwo⟩ : ∃ v : World, v = (w.alloc (.cells (zb (n * 64) (fl 64 fun _ _ => 0)) 28)) := ⟨_, rfl⟩
 rw [← hwo] at B0 hb ⊢
 clear hwo
 have HBE := Lib.hid hbe
 clear hbe
 go_wp2_with fail
 go_loopw [4] (fun i wr => ∃ j : Nat, i = .int .i64 (j : Int) ∧ j ≤ n ∧ Below w.heap.size w wr ∧ Blk wr b (n * 64) 28 (fl 64 (upX X j))) (fun i _ => n - (intOf i).toNat)
 case atStart => exact ⟨0, rfl, Nat.zero_le _, hb, B0⟩
 case round =>
  clear hb B0
  obtain ⟨j, rfl, hjn, hb, B0⟩ := hrel
  by_cases hj : j < n
  · obtain ⟨c, off, rfl, hcl, hr⟩ := h.has (by omega)
    have hjI : (j : Int) < (n : Int) := by omega
    have hr2 : wr.rangeAt c (off + j * 64) (bl 64 (X j)) := fun k v hv => by rw [← hr j hj k v hv]; exact World.cell?_of_block (hb.block c hcl)
    clear hr
    go_upto_region 4 with (first | (refine wpList_load_mid rfl 22 (.tmp 18) rfl c (off + j * 64) rfl (bl 64 (X j)) _ hr2 Try.underlying22 rfl (by rw [zl]; exact Try.size22) ?_) | (go_at_call 16; refine (toPoly_any (X j) (hX j) _).mono ?_; rintro e W5 ⟨rfl, h2⟩; replace B0 := B0.zw h2; replace hb := hb.trans (h2.mono hb.size)) | (refine wpList_store_rowF rfl 28 (.tmp 21) (.tmp 20) rfl b j 64 n (X j) rfl rfl 28 _ B0 hj (by decide) Try.size28 ?_; try simp only [Act.put]))
    have B1 := B0.row (fl 64 (updR (upX X j) j (X j)))
    rw [upX_s] at B1
    rw [upX_s]
    have hb1 := zr hb hbw (zb (n * 64) (fl 64 (upX X (j + 1))))
    go_wp2_with fail
    go_roundw
    case rel => exact ⟨j + 1, by go_num, by omega, hb1, B1⟩
    case measure => simp [intOf] <;> omega
  · obtain rfl : j = n := by omega
    have hjI : ¬ (j : Int) < (j : Int) := by omega
    go_wp2_with fail
    go_ret
    exact ⟨_, rfl, by have := slL_ofBlk B0 hbw hnL; rwa [upX_n] at this, B0.lt, hb⟩
end Go.Proofs.Ytelgefgphhebnaa
end
section
namespace Go.Proofs.Ytelgefgphhebnaa
open Go Go.RowKit
set_option linter.unusedVariables false
set_option linter.unusedSimpArgs false
theorem plR_at {L : List (Nat → Nat)} {j : Nat} {x : Nat → Nat} (h : L[j]? = some x) : (plR L)[j]? = some (bl 64 x) := by unfold plR; rw [List.getElem?_map, h]; rfl
/-- all are residues -/
noncomputable def rsA (p : Int) (m : Nat → Nat) (L : List (Nat → Nat)) : Bool := L.all (rsB p m)
theorem rsA_yes {p : Int} {m : Nat → Nat} {L : List (Nat → Nat)} (h : ∀ (i : Nat) (x : Nat → Nat), L[i]? = some x → rsB p m x = true) : rsA p m L = true := by
 unfold rsA
 rw [List.all_eq_true]
 intro x hx
 obtain ⟨i, hi, e⟩ := List.getElem_of_mem hx
 exact h i x (by rw [← e]; exact List.getElem?_eq_getElem hi)
theorem rsA_no {p : Int} {m : Nat → Nat} {L : List (Nat → Nat)} {i : Nat} {x : Nat → Nat} (hi : L[i]? = some x) (h : rsB p m x = false) : rsA p m L = false := by
 unfold rsA
 rw [List.all_eq_false]
 exact ⟨x, List.mem_of_getElem? hi, by rw [h]; decide⟩
theorem rsA_mem {p : Int} {m : Nat → Nat} {L : List (Nat → Nat)} (h : rsA p m L = true) {x : Nat → Nat} (hx : x ∈ L) : rsB p m x = true := by
 unfold rsA at h
 exact List.all_eq_true.1 h x hx
/-- the code of lists of residues -/
noncomputable def ckR (p : Int) (m : Nat → Nat) (Ls : List (List (Nat → Nat))) : Int := if flV p m = true ∧ (∀ L, L ∈ Ls → rsA p m L = true) then 0 else 1
theorem ckR_f {p : Int} {m : Nat → Nat} {Ls : List (List (Nat → Nat))} (h : flV p m = false) : ckR p m Ls = 1 := if_neg (fun a => by rw [h] at a; exact absurd a.1 (by simp))
theorem ckR_no {p : Int} {m : Nat → Nat} {Ls : List (List (Nat → Nat))} {L : List (Nat → Nat)} {j : Nat} (hj : Ls[j]? = some L) (h : rsA p m L = false) : ckR p m Ls = 1 := if_neg (fun a => by
 have := a.2 L (List.mem_of_getElem? hj); rw [h] at this; cases this)
theorem ckR_yes {p : Int} {m : Nat → Nat} {Ls : List (List (Nat → Nat))} (h : flV p m = true) (h2 : ∀ (i : Nat) (L : List (Nat → Nat)), Ls[i]? = some L → rsA p m L = true) : ckR p m Ls = 0 := if_pos ⟨h, fun L hL => by
 obtain ⟨i, hi, e⟩ := List.getElem_of_mem hL
 exact h2 i L (by rw [← e]; exact List.getElem?_eq_getElem hi)⟩
theorem ckR_two (p : Int) (m : Nat → Nat) (Ls : List (List (Nat → Nat))) : ckR p m Ls = 0 ∨ ckR p m Ls = 1 := by unfold ckR; split <;> simp
theorem ckR_zero {p : Int} {m : Nat → Nat} {Ls : List (List (Nat → Nat))} (h : ckR p m Ls = 0) : flV p m = true ∧ ∀ L, L ∈ Ls → rsA p m L = true := by
 unfold ckR at h
 by_cases a : flV p m = true ∧ (∀ L, L ∈ Ls → rsA p m L = true)
 · exact a
 · rw [if_neg a] at h; omega
/-- lists behind a slice of slices -/
def LsV (w : World) (vs : List Value) (Ls : List (List (Nat → Nat))) : Prop := vs.length = Ls.length ∧ ∀ (j : Nat) (L : List (Nat → Nat)), Ls[j]? = some L → ∃ base a cap, vs[j]? = some (.slice a L.length cap) ∧ SlL w base 28 64 (.slice a L.length cap) (plR L)
theorem LsV.at {w : World} {vs : List Value} {Ls : List (List (Nat → Nat))} (h : LsV w vs Ls) {j : Nat} {L : List (Nat → Nat)} (hj : Ls[j]? = some L) : ∃ base a cap, vs[j]? = some (.slice a L.length cap) ∧ SlL w base 28 64 (.slice a L.length cap) (plR L) := h.2 j L hj
theorem LsV.below {w w' : World} {vs : List Value} {Ls : List (List (Nat → Nat))} (h : LsV w vs Ls) (hb : Below w.heap.size w w') : LsV w' vs Ls := ⟨h.1, fun j L hj => by
 obtain ⟨base, a, cap, h1, h2⟩ := h.2 j L hj
 exact ⟨base, a, cap, h1, h2.zw hb⟩⟩
/-- the slice of slices -/
def LsS (w : World) (v : Value) (vs : List Value) : Prop := ∃ a cap, v = .slice a vs.length cap ∧ (vs = [] ∨ ∃ b, a = some ⟨b, 0, none⟩ ∧ Row w b 30 vs.toArray)
theorem LsS.below {w w' : World} {v : Value} {vs : List Value} (h : LsS w v vs) (hb : Below w.heap.size w w') : LsS w' v vs := by
 obtain ⟨a, cap, h1, h2 | ⟨b, h2, h3⟩⟩ := h
 · exact ⟨a, cap, h1, .inl h2⟩
 · exact ⟨a, cap, h1, .inr ⟨b, h2, h3.zw hb⟩⟩
theorem LsV.len {w : World} {vs : List Value} {Ls : List (List (Nat → Nat))} (h : LsV w vs Ls) : vs.length = Ls.length := h.1
theorem LsS.out {w : World} {v : Value} {vs : List Value} (h : LsS w v vs) : ∃ a cap, v = .slice a vs.length cap ∧ (vs = [] ∨ ∃ b, a = some ⟨b, 0, none⟩ ∧ Row w b 30 vs.toArray) := h
theorem LsV.one {w : World} {base cap : Nat} {a : Option Addr} {L : List (Nat → Nat)} (h : SlL w base 28 64 (.slice a L.length cap) (plR L)) : LsV w [.slice a L.length cap] [L] := ⟨rfl, fun j M hj => by
 have h1 : j = 0 := by have := (List.getElem?_eq_some_iff.1 hj).1; simp at this; omega
 subst h1
 have h2 : L = M := by simpa using hj
 subst h2
 exact ⟨base, a, cap, rfl, h⟩⟩
theorem LsV.two {w : World} {base cap base2 cap2 : Nat} {a a2 : Option Addr} {L L2 : List (Nat → Nat)} (h : SlL w base 28 64 (.slice a L.length cap) (plR L)) (h2 : SlL w base2 28 64 (.slice a2 L2.length cap2) (plR L2)) : LsV w [.slice a L.length cap, .slice a2 L2.length cap2] [L, L2] := ⟨rfl, fun j M hj => by
 have hjl := (List.getElem?_eq_some_iff.1 hj).1
 have h1 : j = 0 ∨ j = 1 := by simp at hjl; omega
 rcases h1 with rfl | rfl
 · have h3 : L = M := by simpa using hj
   subst h3
   exact ⟨base, a, cap, rfl, h⟩
 · have h3 : L2 = M := by simpa using hj
   subst h3
   exact ⟨base2, a2, cap2, rfl, h2⟩⟩
theorem LsV.none (w : World) : LsV w [] [] := ⟨rfl, fun j M hj => by simp at hj⟩
theorem LsS.nil (w : World) : LsS w (.slice Option.none 0 0) [] := ⟨_, _, rfl, .inl rfl⟩
theorem LsS.row {w : World} {b cap : Nat} {vs : List Value} (h : Row w b 30 vs.toArray) : LsS w (.slice (some ⟨b, 0, Option.none⟩) vs.length cap) vs := ⟨_, _, rfl, .inr ⟨b, rfl, h⟩⟩
attribute [irreducible] rsA ckR LsV LsS
attribute [local irreducible] deg flV
set_option maxRecDepth 100000 in
set_option maxHeartbeats 3200000 in
theorem noResidue_any (p : Int) (m x : Nat → Nat) (hm : byte m) (hx : byte x) (bp bq : Nat) (w : World) (B0 : One w bp 2 (.int .i64 p)) (B1 : Blk w bq 64 28 m) :
 Calls Try.prog 98 #[.agg (zb 64 x), .pointer (some ⟨bp, 0, none⟩), .pointer (some ⟨bq, 0, none⟩)] w fun e w' => e = .returned (.bool (!rsB p m x)) ∧ Below w.heap.size w w' := by
 have HR := Lib.hid (fun W => isResidue_any p m x hm hx W)
 obtain ⟨r, hr⟩ : ∃ r, r = rsB p m x := ⟨_, rfl⟩
 rw [← hr] at HR ⊢
 clear hr
 have zx_0 := B0.lt
 have zx_1 := B1.lt
 go_enter Try.func98, Try.ntmps98
 go_upto_region 1 with (fail)
 obtain ⟨W1, hwo⟩ : ∃ v : World, v = (w.alloc (.cells (zb 64 (x)) 28)) := ⟨_, rfl⟩
 have B2 : Blk W1 (w.heap.size) 64 28 (x) := by subst hwo; have := (Blk.new w 64 28 (x)); simpa using this
 replace B0 : One W1 (bp) 2 (.int .i64 p) := by subst hwo; exact (B0.alloc (.cells (zb 64 (x)) 28))
 replace B1 : Blk W1 (bq) 64 28 (m) := by subst hwo; exact (B1.alloc (.cells (zb 64 (x)) 28))
 have hb : Below w.heap.size w W1 := by subst hwo; exact ((Below.refl _ _).alloc (Nat.le_refl _) _)
 rw [← hwo]
 clear hwo
 go_wp2_with (first | (refine zlo rfl 2 (.tmp 1) rfl _ rfl 2 ((.int .i64 p)) (B0) _ Try.underlying2 rfl ?_) | (refine zla (.tmp 2) B1 Try.underlying28 Try.size28 ?_) | (refine zbo rfl 70 _ rfl (fdC p m).toArray (by rw [Array.toList_map]; exact built_fd p m) ?_) | (refine zla (.tmp 3) B2 Try.underlying28 Try.size28 ?_) | (go_at_call 99; refine (HR.out _).mono ?_; rintro e W2 ⟨rfl, hW2⟩; replace B0 := B0.zw hW2; replace B1 := B1.zw hW2; replace B2 := B2.zw hW2; replace hb := (hb).trans (hW2.mono (hb).size)))
 go_ret
 exact ⟨rfl, hb⟩
set_option maxRecDepth 100000 in
set_option maxHeartbeats 3200000 in
theorem IndexFunc_any (p : Int) (m : Nat → Nat) (R : List (Nat → Nat)) (a : Option Addr) (cap base bp bq : Nat) (w : World) (hm : byte m) (hLb : ∀ x, x ∈ R → byte x) (hlen : (R.length : Int) ≤ 1048576) (hL : SlL w base 28 64 (.slice a R.length cap) (plR R)) (B0 : One w bp 2 (.int .i64 p)) (B1 : Blk w bq 64 28 m) :
 Calls Try.prog 139 #[.slice a R.length cap, .func (.func 98) #[] #[.pointer (some ⟨bp, 0, none⟩), .pointer (some ⟨bq, 0, none⟩)]] w fun e w' => ∃ r : Int, e = .returned (.int .i64 r) ∧ (rsA p m R = true ∧ r = -1 ∨ rsA p m R = false ∧ ∃ k : Nat, r = (k : Int)) ∧ Below w.heap.size w w' := by
 have HNR := Lib.hid (fun x (hx : byte x) W (hW : Below w.heap.size w W) => noResidue_any p m x hm hx bp bq W (B0.zw hW) (B1.zw hW))
 have HLB := Lib.hid hLb
 clear hLb B0 B1 hm
 go_enter Try.func139, Try.ntmps139
 go_upto_region 1 with (fail)
 have hb : Below w.heap.size w w := Below.refl _ _
 go_upto_region 99 with (fail)
 go_loopw [8] (fun c wr => ∃ j : Nat, c = .int .i64 (j : Int) ∧ j ≤ R.length ∧ Hid (∀ (i : Nat) (x : Nat → Nat), i < j → R[i]? = some x → rsB p m x = true) ∧ Below w.heap.size w wr) (fun c _ => R.length - (intOf c).toNat)
 case atStart => exact ⟨0, rfl, Nat.zero_le _, Lib.hid (fun i x hi => absurd hi (Nat.not_lt_zero _)), hb⟩
 case round =>
  clear hb
  obtain ⟨j, rfl, hjn, hG, hb⟩ := hrel
  by_cases hj : j < R.length
  · have hjI : (j : Int) < (R.length : Int) := by omega
    obtain ⟨x, hx⟩ : ∃ x, R[j]? = some x := ⟨_, List.getElem?_eq_getElem hj⟩
    obtain ⟨g, rfl⟩ := hL.some (by rw [plR_len]; omega)
    have hrow := plR_at hx
    have HN := Lib.hid (HNR.out x (HLB.out x (List.mem_of_getElem? hx)))
    obtain ⟨r, hr⟩ : ∃ r, r = rsB p m x := ⟨_, rfl⟩
    rw [← hr] at HN
    have HR := Lib.hid hr
    have HX := Lib.hid hx
    clear hr hx
    cases r with
    | false =>
     go_upto_region 4 with (fail)
     go_wp2_with (first | (refine wpList_load_mid rfl 28 (.tmp 14) rfl _ (j * 64) rfl (bl 64 x) _ ((hL.zw hb).range hrow) Try.underlying28 rfl (by rw [zl]; exact Try.size28) ?_) | (go_at_call 98; refine (HN.out _ hb).mono ?_; rintro e W1 ⟨rfl, hW1⟩; replace hb := (hb).trans (hW1.mono (hb).size)))
     go_ret
     exact ⟨_, rfl, .inr ⟨rsA_no HX.out HR.out.symm, j, rfl⟩, hb⟩
    | true =>
     go_upto_region 4 with (fail)
     go_wp2_with (first | (refine wpList_load_mid rfl 28 (.tmp 14) rfl _ (j * 64) rfl (bl 64 x) _ ((hL.zw hb).range hrow) Try.underlying28 rfl (by rw [zl]; exact Try.size28) ?_) | (go_at_call 98; refine (HN.out _ hb).mono ?_; rintro e W1 ⟨rfl, hW1⟩; replace hb := (hb).trans (hW1.mono (hb).size)))
     go_roundw
     case rel => exact ⟨j + 1, by go_num, by omega, Lib.hid (fun i y hi hy => by
      by_cases e : i = j
      · subst e; have := HX.out; rw [hy] at this; injection this with this; rw [this]; exact HR.out.symm
      · exact hG.out i y (by omega) hy), hb⟩
     case measure => simp [intOf] <;> omega
  · have hjI : ¬ (j : Int) < (R.length : Int) := by omega
    go_wp2_with fail
    go_ret
    exact ⟨_, rfl, .inl ⟨rsA_yes (fun i x hx => hG.out i x (by have := (List.getElem?_eq_some_iff.1 hx).1; omega) hx), rfl⟩, hb⟩
set_option maxRecDepth 100000 in
set_option maxHeartbeats 3200000 in
theorem ContainsFunc_any (p : Int) (m : Nat → Nat) (R : List (Nat → Nat)) (a : Option Addr) (cap base bp bq : Nat) (w : World) (hm : byte m) (hLb : ∀ x, x ∈ R → byte x) (hlen : (R.length : Int) ≤ 1048576) (hL : SlL w base 28 64 (.slice a R.length cap) (plR R)) (B0 : One w bp 2 (.int .i64 p)) (B1 : Blk w bq 64 28 m) :
 Calls Try.prog 100 #[.slice a R.length cap, .func (.func 98) #[] #[.pointer (some ⟨bp, 0, none⟩), .pointer (some ⟨bq, 0, none⟩)]] w fun e w' => e = .returned (.bool (!rsA p m R)) ∧ Below w.heap.size w w' := by
 have HIX := Lib.hid (IndexFunc_any p m R a cap base bp bq w hm hLb hlen hL B0 B1)
 clear hL B0 B1 hLb hm
 go_enter Try.func100, Try.ntmps100
 go_wp2_with fail
 refine HIX.out.mono ?_
 rintro e W1 ⟨r, rfl, hr, hb⟩
 rcases hr with ⟨hr, rfl⟩ | ⟨hr, k, rfl⟩
 · go_wp2_with fail
   go_ret
   exact ⟨(by rw [hr] <;> rfl), hb⟩
 · have hk : (0 : Int) ≤ (k : Int) := by omega
   have hk2 : decide ((k : Int) ≥ 0) = true := by simp
   go_wp2_with fail
   go_ret
   exact ⟨(by rw [hr] <;> rfl), hb⟩
set_option maxRecDepth 100000 in
set_option maxHeartbeats 3200000 in
theorem checkResidues_any (p : Int) (m : Nat → Nat) (hm : byte m) (Ls : List (List (Nat → Nat))) (vs : List Value) (v : Value) (w : World) (hLb : ∀ R, R ∈ Ls → (∀ x, x ∈ R → byte x) ∧ (R.length : Int) ≤ 1048576) (hk : Ls.length ≤ 4) (hV : LsV w vs Ls) (hS : LsS w v vs) :
 Calls Try.prog 55 #[.int .i64 p, .agg (zb 64 m), v] w fun e w' => e = .returned (.int .i64 (ckR p m Ls)) ∧ Below w.heap.size w w' := by
 have HFL := Lib.hid (fun W => impl_IsField_any p m hm W)
 have HLB := Lib.hid hLb
 unfold LsS at hS
 obtain ⟨a, cap, rfl, hrow⟩ := hS
 have HROW := Lib.hid hrow
 have HV := Lib.hid hV
 have hvl : vs.length = Ls.length := by unfold LsV at hV; exact hV.1
 rw [hvl]
 have HVL := Lib.hid hvl
 clear hLb hrow hV hvl
 have hmf : ∀ (fn : Fn) (first cap : Array Value) (w : World), (Instr.makeFunc fn first cap).run Try.prog w = .ok (.func fn first cap) w := fun _ _ _ _ => rfl
 go_enter Try.func55, Try.ntmps55
 go_upto_region 1 with (fail)
 obtain ⟨W1, hwo⟩ : ∃ v : World, v = ((w.alloc (.cells #[(.int .i64 p)] 2)).alloc (.cells (zb 64 (m)) 28)) := ⟨_, rfl⟩
 have B0 : One W1 (w.heap.size) 2 (.int .i64 p) := by subst hwo; have := ((One.new w 2 (.int .i64 p)).alloc (.cells (zb 64 (m)) 28)); simpa using this
 have B1 : Blk W1 (w.heap.size + 1) 64 28 (m) := by subst hwo; have := (Blk.new (w.alloc (.cells #[(.int .i64 p)] 2)) 64 28 (m)); simpa using this
 have hb : Below w.heap.size w W1 := by subst hwo; exact (((Below.refl _ _).alloc (Nat.le_refl _) _).alloc (by simp) _)
 rw [← hwo]
 clear hwo
 cases hf : flV p m with
 | false =>
  rw [hf] at HFL
  go_upto_region 2 with (first | (refine zlo rfl 2 (.tmp 3) rfl _ rfl 2 ((.int .i64 p)) (B0) _ Try.underlying2 rfl ?_) | (refine zla (.tmp 4) B1 Try.underlying28 Try.size28 ?_) | (go_at_call 97; refine (HFL.out _).mono ?_; rintro e W2 ⟨rfl, hW2⟩; replace B0 := B0.zw hW2; replace B1 := B1.zw hW2; replace hb := (hb).trans (hW2.mono (hb).size)))
  go_wp2_with fail
  go_ret
  exact ⟨(by rw [ckR_f hf] <;> rfl), hb⟩
 | true =>
  rw [hf] at HFL
  go_upto_region 3 with (first | (refine zlo rfl 2 (.tmp 3) rfl _ rfl 2 ((.int .i64 p)) (B0) _ Try.underlying2 rfl ?_) | (refine zla (.tmp 4) B1 Try.underlying28 Try.size28 ?_) | (go_at_call 97; refine (HFL.out _).mono ?_; rintro e W2 ⟨rfl, hW2⟩; replace B0 := B0.zw hW2; replace B1 := B1.zw hW2; replace hb := (hb).trans (hW2.mono (hb).size)))
  have HF := Lib.hid hf
  clear hf HFL
  go_wp2_with fail
  go_loopw [17] (fun c wr => ∃ j : Nat, c = .int .i64 (j : Int) ∧ j ≤ Ls.length ∧ Hid (∀ (i : Nat) (R : List (Nat → Nat)), i < j → Ls[i]? = some R → rsA p m R = true) ∧ Below w.heap.size w wr ∧ One wr (w.heap.size) 2 (.int .i64 p) ∧ Blk wr (w.heap.size + 1) 64 28 (m)) (fun c _ => Ls.length - (intOf c).toNat)
  case atStart => exact ⟨0, rfl, Nat.zero_le _, Lib.hid (fun i x hi => absurd hi (Nat.not_lt_zero _)), hb, B0, B1⟩
  case round =>
   clear hb B0 B1
   obtain ⟨j, rfl, hjn, hG, hb, B0, B1⟩ := hrel
   by_cases hj : j < Ls.length
   · have hjI : (j : Int) < (Ls.length : Int) := by omega
     obtain ⟨R, hx⟩ : ∃ R, Ls[j]? = some R := ⟨_, List.getElem?_eq_getElem hj⟩
     obtain ⟨base, a1, c1, hv1, hL⟩ := HV.out.at hx
     obtain ⟨hby, hlen⟩ := HLB.out R (List.mem_of_getElem? hx)
     rcases HROW.out with he | ⟨b, rfl, hR⟩
     · exfalso; have h9 := HVL.out; rw [he] at h9; simp at h9; omega
     have hRW : Row wr b 30 vs.toArray := hR.zw hb
     have hat : vs.toArray[j]? = some (.slice a1 R.length c1) := by simpa using hv1
     have HC := Lib.hid (fun W (hW : Below w.heap.size w W) (A0 : One W (w.heap.size) 2 (.int .i64 p)) (A1 : Blk W (w.heap.size + 1) 64 28 m) => ContainsFunc_any p m R a1 c1 base (w.heap.size) (w.heap.size + 1) W hm hby hlen (hL.zw hW) A0 A1)
     obtain ⟨r, hr⟩ : ∃ r, r = rsA p m R := ⟨_, rfl⟩
     rw [← hr] at HC
     have HR := Lib.hid hr
     have HX := Lib.hid hx
     clear hr hx hR hv1 hL hby
     cases r with
     | false =>
      go_wp2_with (first | (refine wpList_load_rowc rfl 30 (.tmp 19) rfl b j rfl 30 _ hRW _ hat _ Try.underlying30 rfl ?_) | (go_at_call 100; refine (HC.out _ hb B0 B1).mono ?_; rintro e W5 ⟨rfl, h5⟩; replace B0 := B0.zw h5; replace B1 := B1.zw h5; replace hb := hb.trans (h5.mono hb.size)))
      go_ret
      exact ⟨(by rw [ckR_no HX.out HR.out.symm] <;> rfl), hb⟩
     | true =>
      go_wp2_with (first | (refine wpList_load_rowc rfl 30 (.tmp 19) rfl b j rfl 30 _ hRW _ hat _ Try.underlying30 rfl ?_) | (go_at_call 100; refine (HC.out _ hb B0 B1).mono ?_; rintro e W5 ⟨rfl, h5⟩; replace B0 := B0.zw h5; replace B1 := B1.zw h5; replace hb := hb.trans (h5.mono hb.size)))
      go_roundw
      case rel => exact ⟨j + 1, by go_num, by omega, Lib.hid (fun i y hi hy => by
       by_cases e : i = j
       · subst e; have := HX.out; rw [hy] at this; injection this with this; rw [this]; exact HR.out.symm
       · exact hG.out i y (by omega) hy), hb, B0, B1⟩
      case measure => simp [intOf] <;> omega
   · have hjI : ¬ (j : Int) < (Ls.length : Int) := by omega
     go_wp2_with fail
     go_ret
     exact ⟨(by rw [ckR_yes HF.out (fun i x hx => hG.out i x (by have := (List.getElem?_eq_some_iff.1 hx).1; omega) hx)] <;> rfl), hb⟩
set_option maxRecDepth 100000 in
set_option maxHeartbeats 3200000 in
theorem l03Residues_any (p : Int) (m : Nat → Nat) (hm : byte m) (R : List (Nat → Nat)) (a : Option Addr) (cap base : Nat) (w : World) (hLb : ∀ x, x ∈ R → byte x) (hlen : (R.length : Int) ≤ 1048576) (hL : SlL w base 28 64 (.slice a R.length cap) (plR R)) :
 Calls Try.prog 53 #[.int .i64 p, .agg (zb 64 m), .slice a R.length cap] w fun e w' => e = .returned (.int .i64 (ckR p m [R])) ∧ Below w.heap.size w w' := by
 have HFL := Lib.hid (fun W => l03Field_any p m hm W)
 have HRS := Lib.hid (fun x (hx : byte x) W => l03Residue_any p m x hm hx W)
 have HLB := Lib.hid hLb
 clear hLb
 go_enter Try.func53, Try.ntmps53
 go_upto_region 1 with (fail)
 obtain ⟨W1, hwo⟩ : ∃ v : World, v = (w.alloc (.cells (zb 64 (m)) 28)) := ⟨_, rfl⟩
 have B0 : Blk W1 (w.heap.size) 64 28 (m) := by subst hwo; have := (Blk.new w 64 28 (m)); simpa using this
 have hb : Below w.heap.size w W1 := by subst hwo; exact ((Below.refl _ _).alloc (Nat.le_refl _) _)
 rw [← hwo]
 clear hwo
 cases hf : flV p m with
 | false =>
  rw [hf] at HFL
  go_upto_region 2 with (first | (refine zla (.tmp 4) B0 Try.underlying28 Try.size28 ?_) | (go_at_call 94; refine (HFL.out _).mono ?_; rintro e W2 ⟨rfl, hW2⟩; replace B0 := B0.zw hW2; replace hb := (hb).trans (hW2.mono (hb).size)))
  go_wp2_with fail
  go_ret
  exact ⟨(by rw [ckR_f hf] <;> rfl), hb⟩
 | true =>
  rw [hf] at HFL
  go_upto_region 3 with (first | (refine zla (.tmp 4) B0 Try.underlying28 Try.size28 ?_) | (go_at_call 94; refine (HFL.out _).mono ?_; rintro e W2 ⟨rfl, hW2⟩; replace B0 := B0.zw hW2; replace hb := (hb).trans (hW2.mono (hb).size)))
  have HF := Lib.hid hf
  clear hf HFL
  go_wp2_with fail
  go_loopw [7] (fun c wr => ∃ j : Nat, c = .int .i64 (j : Int) ∧ j ≤ R.length ∧ Hid (∀ (i : Nat) (x : Nat → Nat), i < j → R[i]? = some x → rsB p m x = true) ∧ Below w.heap.size w wr ∧ Blk wr (w.heap.size) 64 28 (m)) (fun c _ => R.length - (intOf c).toNat)
  case atStart => exact ⟨0, rfl, Nat.zero_le _, Lib.hid (fun i x hi => absurd hi (Nat.not_lt_zero _)), hb, B0⟩
  case round =>
   clear hb B0
   obtain ⟨j, rfl, hjn, hG, hb, B0⟩ := hrel
   by_cases hj : j < R.length
   · have hjI : (j : Int) < (R.length : Int) := by omega
     obtain ⟨x, hx⟩ : ∃ x, R[j]? = some x := ⟨_, List.getElem?_eq_getElem hj⟩
     obtain ⟨g, rfl⟩ := hL.some (by rw [plR_len]; omega)
     have hrow := plR_at hx
     have HN := Lib.hid (HRS.out x (HLB.out x (List.mem_of_getElem? hx)))
     obtain ⟨r, hr⟩ : ∃ r, r = rsB p m x := ⟨_, rfl⟩
     rw [← hr] at HN
     have HR := Lib.hid hr
     have HX := Lib.hid hx
     clear hr hx
     cases r with
     | false =>
      go_upto_region 6 with (fail)
      refine zq Try.mixed (by kernel_rfl) (by kernel_rfl) (fun v => by (simp only [frL, Act.put, pA, pB, pC, Nat.reduceAdd, Nat.zero_add]; exact rfl))
       (fun L v W3 => Below wr.heap.size wr W3 ∧ VF L v [some (.int .i64 p), some (.agg (zb 64 (m))), some (.slice (some ⟨g, 0, none⟩) R.length cap), some (.int .i64 (j : Int)), some (.pointer (some ⟨g, j * 64, none⟩)), some (.agg (zb 64 (x))), some (.bool false), some (.bool true)]) ?_ ?_ ?_
      · intro v hv0
        exact ⟨(Below.refl _ wr).drew, VF.start⟩
      · refine (.cons rfl ?_ (.cons rfl ?_ (.cons rfl ?_ (.cons rfl ?_ (.cons rfl ?_ (.cons rfl ?_ (.cons rfl ?_ (.cons rfl ?_ (.nil _)))))))))
        all_goals intro L v W3 hd hn ⟨hY, V⟩ K hK
        · go_wp2_with fail
          exact hK _ (.int .i64 p) _ (by simp only [Act.put, pA, pB, pC ]) ⟨hY, V.step 0 rfl⟩
        · refine zlc (B0.zw hY) Try.underlying28 Try.size28 ?_
          exact hK _ _ _ rfl ⟨hY, V.step 1 rfl⟩
        · go_wp2_with fail
          exact hK _ (.slice (some ⟨g, 0, none⟩) R.length cap) _ (by simp only [Act.put, pA, pB, pC ]) ⟨hY, V.step 2 rfl⟩
        · go_wp2_with fail
          exact hK _ (.int .i64 (j : Int)) _ (by simp only [Act.put, pA, pB, pC ]) ⟨hY, V.step 3 rfl⟩
        · have e2 := V.at (zdq hd 2 rfl) rfl
          have e3 := V.at (zdq hd 3 rfl) rfl
          go_wp2_with fail
          exact hK _ (.pointer (some ⟨g, j * 64, none⟩)) _ (by simp only [Act.put, pA, pB, pC, e2, e3]) ⟨hY, V.step 4 rfl⟩
        · have e4 := V.at (zdq hd 4 rfl) rfl
          refine wp_load_mid 28 _ rfl _ (j * 64) e4 _ _ ((hL.below (by first | exact hB | exact hb.trans (hY.mono hb.size)) hL.lt).range hrow) Try.underlying28 rfl (by rw [zl]; exact Try.size28) ?_
          exact hK _ _ _ rfl ⟨hY, V.step 5 rfl⟩
        · have e0 := V.at (zdq hd 0 rfl) rfl
          have e1 := V.at (zdq hd 1 rfl) rfl
          have e5 := V.at (zdq hd 5 rfl) rfl
          go_wp2_with (go_at_call 95; refine (HN.out _).mono ?_; rintro e wy ⟨rfl, hy⟩)
          exact hK _ (.bool false) _ (by simp only [Act.put, pA, pB, pC, e0, e1, e5]) ⟨hY.trans (hy.mono hY.size), V.step 6 rfl⟩
        · have e6 := V.at (zdq hd 6 rfl) rfl
          go_wp2_with fail
          exact hK _ (.bool true) _ (by simp only [Act.put, pA, pB, pC, e6]) ⟨hY, V.step 7 rfl⟩
      · intro L v W3 hL ⟨hY, V⟩
        have e0 := V.at (hL 0 (by decide)) rfl
        have e1 := V.at (hL 1 (by decide)) rfl
        have e2 := V.at (hL 2 (by decide)) rfl
        have e3 := V.at (hL 3 (by decide)) rfl
        have e4 := V.at (hL 4 (by decide)) rfl
        have e5 := V.at (hL 5 (by decide)) rfl
        have e6 := V.at (hL 6 (by decide)) rfl
        have e7 := V.at (hL 7 (by decide)) rfl
        clear hL V
        replace B0 := B0.zw hY
        replace hb := hb.trans (hY.mono hb.size)
        clear hY
        simp only [Exit.then, e0, e1, e2, e3, e4, e5, e6, e7]
        clear e0 e1 e2 e3 e4 e5 e6 e7
        go_wp2_with fail
        go_ret
        exact ⟨(by rw [ckR_no (j := 0) rfl (rsA_no HX.out HR.out.symm)] <;> rfl), hb⟩
     | true =>
      go_upto_region 6 with (fail)
      refine zq Try.mixed (by kernel_rfl) (by kernel_rfl) (fun v => by (simp only [frL, Act.put, pA, pB, pC, Nat.reduceAdd, Nat.zero_add]; exact rfl))
       (fun L v W3 => Below wr.heap.size wr W3 ∧ VF L v [some (.int .i64 p), some (.agg (zb 64 (m))), some (.slice (some ⟨g, 0, none⟩) R.length cap), some (.int .i64 (j : Int)), some (.pointer (some ⟨g, j * 64, none⟩)), some (.agg (zb 64 (x))), some (.bool true), some (.bool false)]) ?_ ?_ ?_
      · intro v hv0
        exact ⟨(Below.refl _ wr).drew, VF.start⟩
      · refine (.cons rfl ?_ (.cons rfl ?_ (.cons rfl ?_ (.cons rfl ?_ (.cons rfl ?_ (.cons rfl ?_ (.cons rfl ?_ (.cons rfl ?_ (.nil _)))))))))
        all_goals intro L v W3 hd hn ⟨hY, V⟩ K hK
        · go_wp2_with fail
          exact hK _ (.int .i64 p) _ (by simp only [Act.put, pA, pB, pC ]) ⟨hY, V.step 0 rfl⟩
        · refine zlc (B0.zw hY) Try.underlying28 Try.size28 ?_
          exact hK _ _ _ rfl ⟨hY, V.step 1 rfl⟩
        · go_wp2_with fail
          exact hK _ (.slice (some ⟨g, 0, none⟩) R.length cap) _ (by simp only [Act.put, pA, pB, pC ]) ⟨hY, V.step 2 rfl⟩
        · go_wp2_with fail
          exact hK _ (.int .i64 (j : Int)) _ (by simp only [Act.put, pA, pB, pC ]) ⟨hY, V.step 3 rfl⟩
        · have e2 := V.at (zdq hd 2 rfl) rfl
          have e3 := V.at (zdq hd 3 rfl) rfl
          go_wp2_with fail
          exact hK _ (.pointer (some ⟨g, j * 64, none⟩)) _ (by simp only [Act.put, pA, pB, pC, e2, e3]) ⟨hY, V.step 4 rfl⟩
        · have e4 := V.at (zdq hd 4 rfl) rfl
          refine wp_load_mid 28 _ rfl _ (j * 64) e4 _ _ ((hL.below (by first | exact hB | exact hb.trans (hY.mono hb.size)) hL.lt).range hrow) Try.underlying28 rfl (by rw [zl]; exact Try.size28) ?_
          exact hK _ _ _ rfl ⟨hY, V.step 5 rfl⟩
        · have e0 := V.at (zdq hd 0 rfl) rfl
          have e1 := V.at (zdq hd 1 rfl) rfl
          have e5 := V.at (zdq hd 5 rfl) rfl
          go_wp2_with (go_at_call 95; refine (HN.out _).mono ?_; rintro e wy ⟨rfl, hy⟩)
          exact hK _ (.bool true) _ (by simp only [Act.put, pA, pB, pC, e0, e1, e5]) ⟨hY.trans (hy.mono hY.size), V.step 6 rfl⟩
        · have e6 := V.at (zdq hd 6 rfl) rfl
          go_wp2_with fail
          exact hK _ (.bool false) _ (by simp only [Act.put, pA, pB, pC, e6]) ⟨hY, V.step 7 rfl⟩
      · intro L v W3 hL ⟨hY, V⟩
        have e0 := V.at (hL 0 (by decide)) rfl
        have e1 := V.at (hL 1 (by decide)) rfl
        have e2 := V.at (hL 2 (by decide)) rfl
        have e3 := V.at (hL 3 (by decide)) rfl
        have e4 := V.at (hL 4 (by decide)) rfl
        have e5 := V.at (hL 5 (by decide)) rfl
        have e6 := V.at (hL 6 (by decide)) rfl
        have e7 := V.at (hL 7 (by decide)) rfl
        clear hL V
        replace B0 := B0.zw hY
        replace hb := hb.trans (hY.mono hb.size)
        clear hY
        simp only [Exit.then, e0, e1, e2, e3, e4, e5, e6, e7]
        clear e0 e1 e2 e3 e4 e5 e6 e7
        go_wp2_with fail
        go_roundw
        case rel => exact ⟨j + 1, by go_num, by omega, Lib.hid (fun i y hi hy => by
         by_cases e : i = j
         · subst e; have := HX.out; rw [hy] at this; injection this with this; rw [this]; exact HR.out.symm
         · exact hG.out i y (by omega) hy), hb, B0⟩
        case measure => simp [intOf] <;> omega
   · have hjI : ¬ (j : Int) < (R.length : Int) := by omega
     go_wp2_with fail
     go_ret
     exact ⟨(by rw [ckR_yes HF.out (fun i y hy => by
      have h1 : i = 0 := by have := (List.getElem?_eq_some_iff.1 hy).1; simp at this; omega
      subst h1
      have h2 : R = y := by simpa using hy
      subst h2
      exact rsA_yes (fun i x hx => hG.out i x (by have := (List.getElem?_eq_some_iff.1 hx).1; omega) hx))] <;> rfl), hb⟩
end Go.Proofs.Ytelgefgphhebnaa
end
section
namespace Go.Proofs.Ytelgefgphhebnaa
open Go Go.RowKit
set_option linter.unusedVariables false
set_option linter.unusedSimpArgs false
theorem bl_one64 (f : Nat → Nat) : ∀ u ∈ bl 64 f, u.oneCell' = true := fun u hu => by
 unfold bl at hu
 obtain ⟨i, _, rfl⟩ := List.mem_map.1 hu
 rfl
attribute [local irreducible] deg clr mkP sclP isL sdL clrA cln rdL ptL
set_option maxRecDepth 100000 in
set_option maxHeartbeats 9000000 in
theorem reduced_any (p d : Nat) (Ls : List (Nat → Nat)) (a : Option Addr) (cap base0 : Nat) (w : World) (hpr : p = 2 ∨ p = 3 ∨ p = 5 ∨ p = 7) (hd4 : d ≤ 4) (hLs : ∀ z, z ∈ Ls → cln p z ∧ deg z < (d : Int)) (hlen : (Ls.length : Int) ≤ 1048576) (hL : SlL w base0 28 64 (.slice a Ls.length cap) (plR Ls)) :
 Calls Try.prog 101 #[.iface 114 (.agg (rsC (p : Int)).toArray), .slice a Ls.length cap] w fun e w' => ∃ a' cap', e = .returned (.slice a' (Ls.foldl (ptL p) []).length cap') ∧ SlL w' w.heap.size 28 64 (.slice a' (Ls.foldl (ptL p) []).length cap') (plR (Ls.foldl (ptL p) [])) ∧ Below w.heap.size w w' := by
 have HOK := Lib.hid (fun j => rdR_ok hpr hd4 hLs j)
 have HSM := Lib.hid (span_same hpr hd4 Ls hLs)
 have HZ0 := Lib.hid (rdR_z p Ls)
 have HLN := Lib.hid (rdR_n p Ls)
 have HLC := Lib.hid hLs
 have HCL := Lib.hid (fun x y t W lx ly hy => rsCleared_any p t x y W hpr lx ly hy)
 have HLE := Lib.hid (fun x W => rsLead_any p x W)
 have HMO := Lib.hid (fun x t W lx hx => rsMonic_any p t x W hpr lx hx)
 clear hLs
 have hmf : ∀ (fn : Fn) (first cap : Array Value) (w : World), (Instr.makeFunc fn first cap).run Try.prog w = .ok (.func fn first cap) w := fun _ _ _ _ => rfl
 go_enter Try.func101, Try.ntmps101
 go_upto_region 1 with (fail)
 obtain ⟨W1, hwo⟩ : ∃ v : World, v = (w.alloc (.cells #[(.iface 114 (.agg (rsC (p : Int)).toArray))] 142)) := ⟨_, rfl⟩
 have B0 : One W1 (w.heap.size) 142 (.iface 114 (.agg (rsC (p : Int)).toArray)) := by subst hwo; have := (One.new w 142 (.iface 114 (.agg (rsC (p : Int)).toArray))); simpa using this
 have hb : Below w.heap.size w W1 := by subst hwo; exact ((Below.refl _ _).alloc (Nat.le_refl _) _)
 rw [← hwo]
 clear hwo
 obtain ⟨base, hbe⟩ : ∃ b, b = W1.heap.size := ⟨_, rfl⟩
 have hbw : w.heap.size ≤ base := by rw [hbe]; exact hb.size
 have hb2 : w.heap.size < base := by rw [hbe]; exact B0.lt
 have hS0 : SlL W1 base 28 64 (.slice none 0 0) (plR []) := by rw [plR_nil]; exact SlL.nil _ _ (Nat.le_of_eq hbe)
 clear hbe
 go_wp2_with fail
 go_loopw [5, 14] (fun s c wr => ∃ (j : Nat) (a1 : Option Addr) (n1 c1 : Nat), s = .slice a1 n1 c1 ∧ c = .int .i64 (j : Int) ∧ j ≤ Ls.length ∧ Hid (n1 = (rdR p Ls j).length) ∧ Below w.heap.size w wr ∧ One wr (w.heap.size) 142 (.iface 114 (.agg (rsC (p : Int)).toArray)) ∧ SlL wr base 28 64 (.slice a1 n1 c1) (plR (rdR p Ls j))) (fun _ c _ => Ls.length - (intOf c).toNat)
 case atStart => exact ⟨0, none, 0, 0, rfl, rfl, Nat.zero_le _, Lib.hid (by rw [HZ0.out]; rfl), hb, B0, by rw [HZ0.out]; exact hS0⟩
 case round =>
  clear hb B0 hS0
  obtain ⟨j, a1, n1, c1, rfl, rfl, hjn, hN1, hb, B0, hS⟩ := hrel
  have hN4 : n1 ≤ 4 := by rw [hN1.out]; exact (HOK.out j).1
  have hN4I : (n1 : Int) ≤ 4 := by omega
  by_cases hj : j < Ls.length
  · have hjI : (j : Int) < (Ls.length : Int) := by omega
    obtain ⟨x, hx⟩ : ∃ x, Ls[j]? = some x := ⟨_, List.getElem?_eq_getElem hj⟩
    obtain ⟨g, rfl⟩ := hL.some (by rw [plR_len]; omega)
    have hrow := plR_at hx
    obtain ⟨hxc, hxd⟩ := HLC.out x (List.mem_of_getElem? hx)
    have HNX := Lib.hid (rdR_s (p := p) hx)
    have HX := Lib.hid hx
    clear hx
    obtain ⟨R, hR⟩ : ∃ R, R = rdR p Ls j := ⟨_, rfl⟩
    have hRok : ∀ r, r ∈ R → cln p r ∧ ∃ t : Nat, deg r = (t : Int) ∧ t < d := by rw [hR]; exact (HOK.out j).2
    rw [← hR] at hS HNX
    have hRn : R.length = n1 := by rw [hR]; exact hN1.out.symm
    have HCV := Lib.hid (fun i => cvS_cln (p := p) (by omega) hxc (fun r hr => (hRok r hr).1) i)
    have HRO := Lib.hid hRok
    have HXC := Lib.hid hxc
    clear hR hRok hxc hN1
    have hU := hS.toU
    obtain ⟨top, hte⟩ : ∃ t, t = wr.heap.size := ⟨_, rfl⟩
    rw [← hte] at hU
    have htb : w.heap.size < top := by rw [hte]; exact B0.lt
    have hbt : base ≤ top := by rw [hte]; exact hS.lt
    clear hte hS
    go_upto_region 4 with (fail)
    have lt_B0 := B0.lt
    have lt_hU := hU.lt
    go_upto_region 5 with (first | rw [← z64] | (refine wpList_load_mid rfl 28 (.tmp 16) rfl _ (j * 64) rfl (bl 64 x) _ ((hL.zw hb).range hrow) Try.underlying28 rfl (by rw [zl]; exact Try.size28) ?_) | (refine wpList_store_blk rfl 28 (.tmp 7) (.tmp 17) rfl _ 64 (x) rfl rfl 28 _ ((Blk.new wr 64 28 (fun _ => 0))) Try.size28 ?_; try simp only [Act.put]))
    have lt_B0 := B0.lt
    have lt_hU := hU.lt
    have lhb := hb.size
    obtain ⟨W2, hwo, hzQ⟩ : ∃ v : World, v = ((wr.alloc (.cells (zb 64 (fun _ => 0)) 28)).setRow (wr.heap.size) (zb 64 (x))) ∧ One v (w.heap.size) 142 (.iface 114 (.agg (rsC (p : Int)).toArray)) ∧ SlU v base (top) 28 64 (.slice a1 n1 c1) (plR R) ∧ Blk v (wr.heap.size) 64 28 (x) ∧ Below w.heap.size w v := ⟨_, rfl, ((B0.alloc (.cells (zb 64 (fun _ => 0)) 28)).rowOther (by omega)), ((hU.alloc (.cells (zb 64 (fun _ => 0)) 28)).rowOther (by omega)), ((Blk.new wr 64 28 (fun _ => 0)).row (x)), (zr (hb.alloc (by have := hb.size; simp; omega) (.cells (zb 64 (fun _ => 0)) 28)) (by omega) _)⟩
    rw [← hwo]
    clear hwo B0 hU hb
    obtain ⟨B0, hU, B2, hb⟩ := hzQ
    obtain ⟨N1, hNN⟩ : ∃ n : Nat, n = wr.heap.size := ⟨_, rfl⟩
    rw [← hNN] at lt_B0 lt_hU lhb B2 ⊢
    clear hNN
    have zN1_0 := lt_B0
    have zN1_1 := lt_hU
    have zN1 := lhb
    clear lt_B0 lt_hU lhb
    try simp only [Act.put, pA, pB, pC]
    go_wp2_with fail
    have hcv0 : Blk W2 (N1) 64 28 (cvS p x R 0) := by rw [cvS_z]; exact B2
    clear B2
    go_loopw [20] (fun c wq => ∃ i : Nat, c = .int .i64 (i : Int) ∧ i ≤ n1 ∧ Below w.heap.size w wq ∧ One wq (w.heap.size) 142 (.iface 114 (.agg (rsC (p : Int)).toArray)) ∧ SlU wq base (top) 28 64 (.slice a1 n1 c1) (plR R) ∧ Blk wq (N1) 64 28 (cvS p x R i)) (fun c _ => n1 - (intOf c).toNat)
    case atStart => exact ⟨0, rfl, Nat.zero_le _, hb, B0, hU, hcv0⟩
    case round =>
     clear hb B0 hU hcv0
     obtain ⟨i, rfl, hin, hb, B0, hU, B2⟩ := hrel
     by_cases hi : i < n1
     · have hiI : (i : Int) < (n1 : Int) := by omega
       obtain ⟨r, hr⟩ : ∃ r, R[i]? = some r := ⟨_, List.getElem?_eq_getElem (by omega)⟩
       obtain ⟨g1, rfl⟩ := hU.1.1.some (by rw [plR_len]; omega)
       obtain ⟨hrc, t, hrt, htd⟩ := HRO.out r (List.mem_of_getElem? hr)
       have hrow1 := plR_at hr
       have HC := Lib.hid (fun W => HCL.out (cvS p x R i) r t W (fun k _ => by have := HCV.out i; unfold cln at this; exact this.1 k) (fun k _ => by have := hrc; unfold cln at this; exact this.1 k) hrt)
       rw [← cvS_s hr] at HC
       clear hr hrc hrt htd
       go_upto_region 7 with (fail)
       have lt_B0 := B0.lt
       have lt_hU := hU.lt
       have lt_B2 := B2.lt
       go_upto_region 8 with (first | rw [← z64] | (refine wpList_load_mid rfl 28 (.tmp 22) rfl _ (i * 64) rfl (bl 64 r) _ (hU.1.1.range hrow1) Try.underlying28 rfl (by rw [zl]; exact Try.size28) ?_) | (refine wpList_store_blk rfl 28 (.tmp 9) (.tmp 23) rfl _ 64 (r) rfl rfl 28 _ ((Blk.new wr 64 28 (fun _ => 0))) Try.size28 ?_; try simp only [Act.put]))
       have lt_B0 := B0.lt
       have lt_hU := hU.lt
       have lt_B2 := B2.lt
       have lhb := hb.size
       obtain ⟨W3, hwo, hzQ⟩ : ∃ v : World, v = ((wr.alloc (.cells (zb 64 (fun _ => 0)) 28)).setRow (wr.heap.size) (zb 64 (r))) ∧ One v (w.heap.size) 142 (.iface 114 (.agg (rsC (p : Int)).toArray)) ∧ SlU v base (top) 28 64 (.slice (some ⟨g1, 0, none⟩) n1 c1) (plR R) ∧ Blk v (N1) 64 28 (cvS p x R i) ∧ Blk v (wr.heap.size) 64 28 (r) ∧ Below w.heap.size w v := ⟨_, rfl, ((B0.alloc (.cells (zb 64 (fun _ => 0)) 28)).rowOther (by omega)), ((hU.alloc (.cells (zb 64 (fun _ => 0)) 28)).rowOther (by omega)), ((B2.alloc (.cells (zb 64 (fun _ => 0)) 28)).rowOther (by omega)), ((Blk.new wr 64 28 (fun _ => 0)).row (r)), (zr (hb.alloc (by have := hb.size; simp; omega) (.cells (zb 64 (fun _ => 0)) 28)) (by omega) _)⟩
       rw [← hwo]
       clear hwo B0 B2 hU hb
       obtain ⟨B0, hU, B2, B3, hb⟩ := hzQ
       obtain ⟨N2, hNN⟩ : ∃ n : Nat, n = wr.heap.size := ⟨_, rfl⟩
       rw [← hNN] at lt_B0 lt_hU lt_B2 lhb B3 ⊢
       clear hNN
       have zN2_0 := lt_B0
       have zN2_1 := lt_hU
       have zN2_2 := lt_B2
       have zN2 := lhb
       clear lt_B0 lt_hU lt_B2 lhb
       try simp only [Act.put, pA, pB, pC]
       clear hrow1
       have lt_B0 := B0.lt
       have lt_hU := hU.lt
       have lt_B2 := B2.lt
       have lt_B3 := B3.lt
       go_wp2_with (first | rw [← z64] | (refine zlo rfl 142 (.tmp 2) rfl _ rfl 142 ((.iface 114 (.agg (rsC (p : Int)).toArray))) (B0) _ Try.underlying142 rfl ?_) | (refine zla (.tmp 7) B2 Try.underlying28 Try.size28 ?_) | (refine zla (.tmp 9) B3 Try.underlying28 Try.size28 ?_) | (go_at_call 216; refine (HC.out _).mono ?_; rintro e W4 ⟨rfl, hW4⟩; replace B0 := B0.zw hW4; replace hU := hU.zw hW4; replace B2 := B2.zw hW4; replace B3 := B3.zw hW4; replace hb := (hb).trans (hW4.mono (hb).size)) | (refine zsr (.tmp 7) (.tmp 27) (cvS p x R (i + 1)) B2 Try.size28 ?_; try simp only [Act.put]))
       obtain ⟨W5, hwo, hzQ⟩ : ∃ v : World, v = (W4.setRow (N1) (zb 64 (cvS p x R (i + 1)))) ∧ One v (w.heap.size) 142 (.iface 114 (.agg (rsC (p : Int)).toArray)) ∧ SlU v base (top) 28 64 (.slice (some ⟨g1, 0, none⟩) n1 c1) (plR R) ∧ Blk v (N1) 64 28 (cvS p x R (i + 1)) ∧ Blk v (N2) 64 28 (r) ∧ Below w.heap.size w v := ⟨_, rfl, (B0.rowOther (by omega)), (hU.rowOther (by omega)), (B2.row (cvS p x R (i + 1))), (B3.rowOther (by omega)), (zr hb (by omega) _)⟩
       rw [← hwo]
       clear hwo B0 B2 B3 hU hb
       obtain ⟨B0, hU, B2, B3, hb⟩ := hzQ
       try simp only [Act.put, pA, pB, pC]
       go_roundw
       case rel => exact ⟨i + 1, by go_num, by omega, hb, B0, hU, B2⟩
       case measure => simp [intOf] <;> omega
     · have hiI : ¬ (i : Int) < (n1 : Int) := by omega
       obtain rfl : i = n1 := by omega
       obtain ⟨c, hc⟩ : ∃ c, c = cvS p x R i := ⟨_, rfl⟩
       have hcA : c = clrA p x R := by rw [hc, ← hRn]; exact cvS_n p x R
       have hcc : cln p c := by rw [hc]; exact HCV.out i
       rw [← hc] at B2
       clear hc HCV
       obtain ⟨D, hD⟩ : ∃ D, D = deg c := ⟨_, rfl⟩
       have HLD := Lib.hid (show ∀ W, Calls Try.prog _ _ W (fun e w' => e = .returned (.int .i64 D) ∧ Below W.heap.size W w') from fun W => hD ▸ HLE.out c W)
       have hDb := zdb c
       rw [← hD] at hDb
       have HD := Lib.hid hD
       have HCA := Lib.hid hcA
       have HCC := Lib.hid hcc
       clear hD hcA hcc
       by_cases hneg : D < 0
       · have HR2 := Lib.hid (show rdR p Ls (j + 1) = R by rw [HNX.out]; exact rdL_no (by rw [← HCA.out, ← HD.out]; exact hneg))
         clear HNX
         go_upto_region 10 with (fail)
         go_wp2_with (first | (refine zlo rfl 142 (.tmp 2) rfl _ rfl 142 ((.iface 114 (.agg (rsC (p : Int)).toArray))) (B0) _ Try.underlying142 rfl ?_) | (refine zla (.tmp 7) B2 Try.underlying28 Try.size28 ?_) | (go_at_call 217; refine (HLD.out _).mono ?_; rintro e W3 ⟨rfl, hW3⟩; replace B0 := B0.zw hW3; replace hU := hU.zw hW3; replace B2 := B2.zw hW3; replace hb := (hb).trans (hW3.mono (hb).size)))
         go_roundw
         case rel => exact ⟨j + 1, a1, i, c1, rfl, by go_num, by omega, Lib.hid (by rw [HR2.out]; exact hRn.symm), hb, B0, by rw [HR2.out]; exact hU.1.1⟩
         case measure => simp [intOf] <;> omega
       · obtain ⟨t, ht⟩ : ∃ t : Nat, D = (t : Int) := ⟨D.toNat, by omega⟩
         have HR2 := Lib.hid (show rdR p Ls (j + 1) = R.map (fun r => clr p r (mkP p c)) ++ [mkP p c] by rw [HNX.out, HCA.out]; exact rdL_yes (by rw [← HCA.out, ← HD.out]; exact hneg))
         obtain ⟨hm1, hm2, _, _⟩ := mkP_cln hpr HCC.out (HD.out.symm.trans ht)
         have HMC := Lib.hid (fun W => HMO.out c t W (fun k _ => by have := HCC.out; unfold cln at this; exact this.1 k) (HD.out.symm.trans ht))
         obtain ⟨m, hm⟩ : ∃ m, m = mkP p c := ⟨_, rfl⟩
         rw [← hm] at hm1 hm2 HR2 HMC
         have HM1 := Lib.hid hm1
         have HM2 := Lib.hid hm2
         have HT := Lib.hid ht
         clear HNX ht hm hm1 hm2
         go_upto_region 10 with (fail)
         go_upto_region 11 with (first | (refine zlo rfl 142 (.tmp 2) rfl _ rfl 142 ((.iface 114 (.agg (rsC (p : Int)).toArray))) (B0) _ Try.underlying142 rfl ?_) | (refine zla (.tmp 7) B2 Try.underlying28 Try.size28 ?_) | (go_at_call 217; refine (HLD.out _).mono ?_; rintro e W3 ⟨rfl, hW3⟩; replace B0 := B0.zw hW3; replace hU := hU.zw hW3; replace B2 := B2.zw hW3; replace hb := (hb).trans (hW3.mono (hb).size)))
         have lt_B0 := B0.lt
         have lt_hU := hU.lt
         have lt_B2 := B2.lt
         go_upto_region 12 with (first | rw [← z64] | (refine zlo rfl 142 (.tmp 2) rfl _ rfl 142 ((.iface 114 (.agg (rsC (p : Int)).toArray))) (B0) _ Try.underlying142 rfl ?_) | (refine zla (.tmp 7) B2 Try.underlying28 Try.size28 ?_) | (go_at_call 218; refine (HMC.out _).mono ?_; rintro e W4 ⟨rfl, hW4⟩; replace B0 := B0.zw hW4; replace hU := hU.zw hW4; replace B2 := B2.zw hW4; replace hb := (hb).trans (hW4.mono (hb).size)) | (refine zsr (.tmp 7) (.tmp 35) (m) B2 Try.size28 ?_; try simp only [Act.put]))
         obtain ⟨W5, hwo, hzQ⟩ : ∃ v : World, v = (W4.setRow (N1) (zb 64 (m))) ∧ One v (w.heap.size) 142 (.iface 114 (.agg (rsC (p : Int)).toArray)) ∧ SlU v base (top) 28 64 (.slice a1 i c1) (plR R) ∧ Blk v (N1) 64 28 (m) ∧ Below w.heap.size w v := ⟨_, rfl, (B0.rowOther (by omega)), (hU.rowOther (by omega)), (B2.row (m)), (zr hb (by omega) _)⟩
         rw [← hwo]
         clear hwo B0 B2 hU hb
         obtain ⟨B0, hU, B2, hb⟩ := hzQ
         try simp only [Act.put, pA, pB, pC]
         have hS3 : SlL W5 base 28 64 (.slice a1 i c1) (plR (mqL (fun r => clr p r m) 0 R)) := by rw [mqL_z]; exact hU.1.1
         have hT3 := hU.1.2
         have htop3 := hU.2
         clear hU
         go_wp2_with fail
         go_loopw [38] (fun c wz => ∃ q : Nat, c = .int .i64 (q : Int) ∧ q ≤ i ∧ Below w.heap.size w wz ∧ One wz (w.heap.size) 142 (.iface 114 (.agg (rsC (p : Int)).toArray)) ∧ Blk wz (N1) 64 28 m ∧ SlL wz base 28 64 (.slice a1 i c1) (plR (mqL (fun r => clr p r m) q R)) ∧ top ≤ wz.heap.size) (fun c _ => i - (intOf c).toNat)
         case atStart => exact ⟨0, rfl, Nat.zero_le _, hb, B0, B2, hS3, htop3⟩
         case round =>
          clear hb B0 B2 hS3 htop3
          obtain ⟨q, rfl, hqi, hb, B0, B2, hS3, htop3⟩ := hrel
          by_cases hq : q < i
          · have hqI : (q : Int) < (i : Int) := by omega
            obtain ⟨r, hr⟩ : ∃ r, R[q]? = some r := ⟨_, List.getElem?_eq_getElem (by omega)⟩
            obtain ⟨g1, rfl⟩ := hS3.some (by rw [plR_len, mqL_len]; omega)
            obtain ⟨hrc, tr, hrt, htd⟩ := HRO.out r (List.mem_of_getElem? hr)
            have hrow1 := plR_at (mqL_get (f := fun r => clr p r m) hr)
            have hgt : g1 < top := hT3 g1 rfl
            have hgb : base ≤ g1 := hS3.len.2.1
            have HC := Lib.hid (fun W => HCL.out r m t W (fun k _ => by have := hrc; unfold cln at this; exact this.1 k) (fun k _ => by have := HM1.out; unfold cln at this; exact this.1 k) HM2.out)
            have HST := Lib.hid (mqL_set (f := fun r => clr p r m) hr)
            have hql : q < (mqL (fun r => clr p r m) q R).length := by rw [mqL_len]; omega
            clear hr hrc hrt htd
            have hU3 : SlU wr base top 28 64 (.slice (some ⟨g1, 0, none⟩) i c1) (plR (mqL (fun r => clr p r m) q R)) := ⟨⟨hS3, hT3⟩, htop3⟩
            clear hS3 htop3
            go_upto_region 14 with (fail)
            have lt_B0 := B0.lt
            have lt_B2 := B2.lt
            have lt_hU3 := hU3.lt
            go_upto_region 15 with (first | rw [← z64] | (refine wpList_load_mid rfl 28 (.tmp 41) rfl _ (q * 64) rfl (bl 64 r) _ (hU3.1.1.range hrow1) Try.underlying28 rfl (by rw [zl]; exact Try.size28) ?_) | (refine wpList_store_blk rfl 28 (.tmp 11) (.tmp 42) rfl _ 64 (r) rfl rfl 28 _ ((Blk.new wr 64 28 (fun _ => 0))) Try.size28 ?_; try simp only [Act.put]))
            have lt_B0 := B0.lt
            have lt_B2 := B2.lt
            have lt_hU3 := hU3.lt
            have lhb := hb.size
            obtain ⟨W6, hwo, hzQ⟩ : ∃ v : World, v = ((wr.alloc (.cells (zb 64 (fun _ => 0)) 28)).setRow (wr.heap.size) (zb 64 (r))) ∧ One v (w.heap.size) 142 (.iface 114 (.agg (rsC (p : Int)).toArray)) ∧ Blk v (N1) 64 28 (m) ∧ SlU v base (top) 28 64 (.slice (some ⟨g1, 0, none⟩) i c1) (plR (mqL (fun r => clr p r m) q R)) ∧ Blk v (wr.heap.size) 64 28 (r) ∧ Below w.heap.size w v := ⟨_, rfl, ((B0.alloc (.cells (zb 64 (fun _ => 0)) 28)).rowOther (by omega)), ((B2.alloc (.cells (zb 64 (fun _ => 0)) 28)).rowOther (by omega)), ((hU3.alloc (.cells (zb 64 (fun _ => 0)) 28)).rowOther (by omega)), ((Blk.new wr 64 28 (fun _ => 0)).row (r)), (zr (hb.alloc (by have := hb.size; simp; omega) (.cells (zb 64 (fun _ => 0)) 28)) (by omega) _)⟩
            rw [← hwo]
            clear hwo B0 B2 hU3 hb
            obtain ⟨B0, B2, hU3, B5, hb⟩ := hzQ
            obtain ⟨N2, hNN⟩ : ∃ n : Nat, n = wr.heap.size := ⟨_, rfl⟩
            rw [← hNN] at lt_B0 lt_B2 lt_hU3 lhb B5 ⊢
            clear hNN
            have zN2_0 := lt_B0
            have zN2_2 := lt_B2
            have zN2_4 := lt_hU3
            have zN2 := lhb
            clear lt_B0 lt_B2 lt_hU3 lhb
            try simp only [Act.put, pA, pB, pC]
            clear hrow1
            have lt2 := B0.lt
            have ltV := B2.lt
            go_wp2_with (first | (refine zlo rfl 142 (.tmp 2) rfl _ rfl 142 (.iface 114 (.agg (rsC (p : Int)).toArray)) B0 _ Try.underlying142 rfl ?_) | (refine zla (.tmp 11) B5 Try.underlying28 Try.size28 ?_) | (refine zla (.tmp 7) B2 Try.underlying28 Try.size28 ?_) | (go_at_call 216; refine (HC.out _).mono ?_; rintro e W5 ⟨rfl, h5⟩; replace B0 := B0.zw h5; replace B2 := B2.zw h5; replace hU3 := hU3.zw h5; replace hb := hb.trans (h5.mono hb.size)) | (refine wpList_store_sl rfl 28 (.tmp 49) (.tmp 48) rfl base g1 i c1 q _ (clr p r m) rfl rfl hU3.1.1 hql Try.size28 ?_; intro W6 hS6 hg6))
            rw [HST.out] at hS6
            have hb6 := hb.grown hg6 hb.size (fun r e => by cases e; omega)
            have hB6 := B0.grownB hg6 (by omega)
            have hV6 : Blk W6 (N1) 64 28 m := B2.grownT hg6 (top := top) (fun r e => by cases e; exact hgt) (by omega)
            have ht6 : top ≤ W6.heap.size := Nat.le_trans hU3.2 hg6.size
            go_roundw
            case rel => exact ⟨q + 1, by go_num, by omega, hb6, hB6, hV6, hS6, ht6⟩
            case measure => simp [intOf] <;> omega
          · have hqI : ¬ (q : Int) < (i : Int) := by omega
            obtain rfl : q = i := by omega
            have hmp : mqL (fun r => clr p r m) q R = R.map (fun r => clr p r m) := by rw [← hRn]; exact mqL_n _ R
            rw [hmp] at hS3
            have HML : (R.map (fun r => clr p r m)).length = q := by rw [List.length_map]; exact hRn
            have hown := hS3.own
            clear hmp htop3 hT3
            go_wp2_with (first | (refine zla (.tmp 7) B2 Try.underlying28 Try.size28 ?_) | (refine wpList_build1 rfl 30 _ (bl 64 m) 64 rfl 28 Try.underlying30 Try.elem28 (by decide) (by decide) (zl _ _) rfl ?_; intro wa hrow hba; have eS := hS3.zw hba; have eB := B0.zw hba; have ehb := hb.trans (hba.mono hb.size)) | (at_builtin; refine wpList_append_sl _ rfl _ _ 30 rfl base 28 (.agg (zb 64 fun _ => 0)) 64 64 Try.underlying30 Try.infoPoly (by simp [Value.cells, bl]) (by decide) (.slice a1 q c1) _ rfl eS wr.heap.size (bl 64 m) rfl (zl _ _) hrow.range (bl_one64 m) (by rw [plR_len, HML]; unfold maxLen; omega) (by rw [plR_len, HML]; omega) ?_; intro vp wp hSp hg1))
            have fhb := ehb.grown hg1 ehb.size (fun k e => Nat.le_trans hbw (hown k e))
            have fB := eB.grownO hg1 (base := base) (fun r e => hown r e) hb2
            rw [← plR_snoc, ← HR2.out] at hSp
            obtain ⟨a2, c2, rfl⟩ := hSp.form
            rw [plR_len] at hSp ⊢
            go_roundw
            case rel => exact ⟨j + 1, a2, _, c2, rfl, by go_num, by omega, Lib.hid rfl, fhb, fB, hSp⟩
            case measure => simp [intOf] <;> omega
  · have hjI : ¬ (j : Int) < (Ls.length : Int) := by omega
    obtain rfl : j = Ls.length := by omega
    obtain ⟨h1, h2, h3⟩ := HSM.out
    rw [← HLN.out] at h1 h2 h3
    have HN1 := Lib.hid hN1.out
    have HSO := Lib.hid (fun W hS B0 => SortFunc_any p (rdR p Ls Ls.length) a1 n1 c1 base (w.heap.size) W hN1.out.symm hS B0 hb2 hN4)
    have HE := Lib.hid (show isL n1 (rdR p Ls Ls.length) = Ls.foldl (ptL p) [] by rw [hN1.out]; exact h2)
    have HL3 := Lib.hid (show (Ls.foldl (ptL p) []).length = n1 by rw [hN1.out]; exact h3)
    have hown := hS.own
    clear h1 h2 h3 hN1
    go_wp2_with (first | (go_at_call 140; refine (HSO.out _ hS B0).mono ?_; rintro e W7 ⟨rfl, hS7, hG7⟩))
    have hb7 := hb.grown hG7 hb.size (fun k e => Nat.le_trans hbw (hown k e))
    rw [HE.out] at hS7
    go_ret
    exact ⟨a1, c1, by rw [HL3.out]; rfl, by rw [HL3.out]; exact hS7.base hbw, hb7⟩
end Go.Proofs.Ytelgefgphhebnaa
end
