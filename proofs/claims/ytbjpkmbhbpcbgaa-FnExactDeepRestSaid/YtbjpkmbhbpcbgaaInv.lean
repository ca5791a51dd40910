/-
  A region that draws its order, by one invariant over what has come up: one step an operation, whatever the order.
-/
import Derived.Test.YtbjpkmbhbpcbgaaBase
namespace Go.Proofs.Ytbjpkmbhbpcbgaa
open Go.RowKit

def setL (L : Nat → Bool) (i : Nat) : Nat → Bool := fun j => if j = i then true else L j
def updV (v : Nat → Value) (i : Nat) (y : Value) : Nat → Value := fun j => if j = i then y else v j
theorem setL_same (L : Nat → Bool) (i : Nat) : setL L i i = true := by simp [setL]
theorem setL_other (L : Nat → Bool) {i j : Nat} (h : j ≠ i) : setL L i j = L j := by simp [setL, h]

/-- the frame a0 with the value v i laid into the slot of operation i, for each i -/
def frL (a0 : Act) : List Oper → Nat → (Nat → Value) → Act
  | [], _, _ => a0
  | o :: os, k, v => frL (a0.put o.dst (v k)) os (k + 1) v
def fr (a0 : Act) (ops : Array Oper) (v : Nat → Value) : Act := frL a0 ops.toList 0 v

/-- all later edges lead back; no slot is written twice -/
def edgesOk (ops : Array Oper) : Bool := (List.range ops.size).all fun i => (ops[i]?.map fun o => o.after.all fun e => !Region.binds .any e || decide (e.on < i)).getD true
def dstsOkL : List Oper → Bool
  | [] => true
  | o :: os => (match o.dst with | none => true | some d => os.all fun q => q.dst != some d) && dstsOkL os
def frameOkL (a0 : Act) (os : List Oper) : Bool := os.all fun o => match o.dst with | none => true | some d => decide (d < a0.tmps.size)

theorem put_comm {a : Act} {d e : Option Tmp} {x y : Value} (h : d = none ∨ d ≠ e) : (a.put d x).put e y = (a.put e y).put d x := by
  cases d with
  | none => cases e <;> rfl
  | some d =>
    cases e with
    | none => rfl
    | some e =>
      have hne : d ≠ e := by
        rcases h with h | h
        · cases h
        · exact fun h' => h (by rw [h'])
      simp only [Act.put]
      congr 1
      apply Array.ext_getElem?
      intro j
      simp only [Array.getElem?_setIfInBounds, Array.size_setIfInBounds]
      by_cases h1 : e = j <;> by_cases h2 : d = j <;> simp_all
theorem put_twice {a : Act} {d : Option Tmp} {x y : Value} : (a.put d x).put d y = a.put d y := by
  cases d with
  | none => rfl
  | some d => simp [Act.put]
theorem frL_congr : ∀ (os : List Oper) (a0 : Act) (k : Nat) (v v' : Nat → Value), (∀ j, k ≤ j → v j = v' j) → frL a0 os k v = frL a0 os k v'
  | [], _, _, _, _, _ => rfl
  | o :: os, a0, k, v, v', h => by
    simp only [frL]
    rw [h k (Nat.le_refl _)]
    exact frL_congr os _ (k + 1) v v' fun j hj => h j (by omega)
theorem frL_put : ∀ (os : List Oper) (a0 : Act) (k : Nat) (v : Nat → Value) (d : Option Tmp) (y : Value), (d = none ∨ os.all (fun q => q.dst != d) = true) → (frL a0 os k v).put d y = frL (a0.put d y) os k v
  | [], _, _, _, _, _, _ => rfl
  | o :: os, a0, k, v, d, y, h => by
    simp only [frL]
    have h' : d = none ∨ os.all (fun q => q.dst != d) = true := by
      rcases h with h | h
      · exact .inl h
      · simp only [List.all_cons, Bool.and_eq_true] at h; exact .inr h.2
    rw [frL_put os _ (k + 1) v d y h']
    congr 1
    rcases h with h | h
    · subst h; rfl
    · simp only [List.all_cons, Bool.and_eq_true] at h
      have : o.dst ≠ d := by simpa using h.1
      exact put_comm (.inr this)
theorem frL_step : ∀ (os : List Oper) (a0 : Act) (k : Nat) (v : Nat → Value) (i : Nat) (o : Oper) (y : Value), dstsOkL os = true → os[i]? = some o → (frL a0 os k v).put o.dst y = frL a0 os k (updV v (k + i) y)
  | [], _, _, _, _, _, _, _, h => by simp at h
  | p :: os, a0, k, v, 0, o, y, hd, h => by
    simp only [List.getElem?_cons_zero, Option.some.injEq] at h
    subst h
    simp only [dstsOkL, Bool.and_eq_true] at hd
    have h' : p.dst = none ∨ os.all (fun q => q.dst != p.dst) = true := by
      cases hp : p.dst with
      | none => exact .inl rfl
      | some d => right; have := hd.1; rw [hp] at this; exact this
    simp only [frL, Nat.add_zero]
    rw [frL_put os _ (k + 1) v p.dst y h', put_twice]
    have : updV v k y k = y := by simp [updV]
    rw [this]
    exact frL_congr os _ (k + 1) _ _ fun j hj => by simp [updV, show j ≠ k by omega]
  | p :: os, a0, k, v, i + 1, o, y, hd, h => by
    simp only [dstsOkL, Bool.and_eq_true] at hd
    simp only [List.getElem?_cons_succ] at h
    simp only [frL]
    rw [frL_step os _ (k + 1) v i o y hd.2 h]
    have e1 : updV v (k + (i + 1)) y k = v k := by simp [updV]
    have e2 : k + 1 + i = k + (i + 1) := by omega
    rw [e1, e2]
theorem put_self {a : Act} {d : Option Tmp} : (a.put d ((d.map fun t => a.tmps.getD t undef).getD undef)) = a := by
  cases d with
  | none => rfl
  | some d =>
    simp only [Act.put, Option.map_some, Option.getD_some]
    cases a with
    | mk t ds =>
      congr 1
      apply Array.ext_getElem?
      intro j
      simp only [Array.getElem?_setIfInBounds]
      by_cases h : d = j
      · subst h
        by_cases hs : d < t.size <;> simp [hs]
      · simp [h]
theorem frL_start : ∀ (os : List Oper) (a0 : Act) (k : Nat) (v : Nat → Value), (∀ i o, os[i]? = some o → v (k + i) = ((o.dst.map fun t => a0.tmps.getD t undef).getD undef)) → frL a0 os k v = a0
  | [], _, _, _, _ => rfl
  | o :: os, a0, k, v, h => by
    simp only [frL]
    have h0 := h 0 o rfl
    rw [Nat.add_zero] at h0
    rw [h0, put_self]
    exact frL_start os a0 (k + 1) v fun i p hp => by
      have := h (i + 1) p (by simpa using hp)
      rw [show k + 1 + i = k + (i + 1) by omega]
      exact this
section
variable {P : Program} {ops : Array Oper} {Q : Exit → Act → World → Prop}

/-- what is asked of operation i -/
def StepOk (P : Program) (ops : Array Oper) (Q : Exit → Act → World → Prop) (a0 : Act) (Ψ : (Nat → Bool) → (Nat → Value) → World → Prop) (i : Nat) (o : Oper) : Prop :=
  ∀ (L : Nat → Bool) (v : Nat → Value) (w : World), (∀ e, e ∈ o.after → Region.binds .any e = true → L e.on = true) →
    (∀ j p, ops[j]? = some p → L j = true → ∀ e, e ∈ p.after → Region.binds .any e = true → e.on ≠ i) → Ψ L v w →
    ∀ K : Act → World → Prop, (∀ a' y w', a' = (fr a0 ops v).put o.dst y → Ψ (setL L i) (updV v i y) w' → K a' w') →
      if Region.wanted o (yielded ops (fr a0 ops v).tmps) = true then Oper.wp P o (fr a0 ops v) w K Q else K ((fr a0 ops v).put o.dst undef) w

theorem wpAny_inv {a0 : Act} {Ψ : (Nat → Bool) → (Nat → Value) → World → Prop} (hd : dstsOkL ops.toList = true) (he : edgesOk ops = true)
    (hstep : ∀ i o, ops[i]? = some o → StepOk P ops Q a0 Ψ i o)
    (hend : ∀ L v w, (∀ i, i < ops.size → L i = true) → Ψ L v w → Q .normal (fr a0 ops v) w) :
    ∀ (fuel : Nat) (listed : Array Bool) (v : Nat → Value) (w : World), listed.size = ops.size → (listed.toList.filter (!·)).length = fuel → Ψ (fun j => listed.getD j false) v w →
      (∀ j p, ops[j]? = some p → listed.getD j false = true → ∀ e, e ∈ p.after → Region.binds .any e = true → listed.getD e.on false = true) →
      wpAny P .any ops Q fuel listed (fr a0 ops v) w := by
  have hall : ∀ listed : Array Bool, listed.size = ops.size → Region.ready .any ops listed = [] → ∀ i, i < ops.size → listed.getD i false = true := by
    intro listed hs hr i
    induction i using Nat.strongRecOn with
    | _ i ih =>
      intro hi
      cases hb : listed.getD i false with
      | true => rfl
      | false =>
        exfalso
        have hmem : i ∈ Region.ready .any ops listed := by
          unfold Region.ready
          simp only [List.mem_filter, List.mem_range, hi, true_and, Bool.and_eq_true]
          have ho : ops[i]? = some ops[i] := Array.getElem?_eq_getElem hi
          constructor
          · have : listed.getD i true = false := by
              have h2 : i < listed.size := by omega
              simpa [Array.getD, h2] using hb
            simp [this]
          · rw [ho]
            simp only [Option.map_some, Option.getD_some, Array.all_eq_true_iff_forall_mem]
            intro e hem
            have hE := he
            unfold edgesOk at hE
            rw [List.all_eq_true] at hE
            have := hE i (by simpa using hi)
            rw [ho] at this
            simp only [Option.map_some, Option.getD_some, Array.all_eq_true_iff_forall_mem] at this
            have h3 := this e hem
            cases hbd : Region.binds .any e with
            | false => simp
            | true =>
              simp only [hbd, Bool.not_true, Bool.false_or, decide_eq_true_eq] at h3
              simp [ih e.on h3 (by omega)]
        rw [hr] at hmem
        cases hmem
  intro fuel
  induction fuel with
  | zero =>
    intro listed v w hs hc hI _
    have hl : ∀ i, i < ops.size → listed.getD i false = true := by
      intro i hi
      have h2 : i < listed.size := by omega
      cases hb : listed[i] with
      | true => simp [Array.getD, h2, hb]
      | false =>
        exfalso
        have : false ∈ listed.toList.filter (!·) := by
          rw [List.mem_filter]
          exact ⟨by rw [← hb]; simp, rfl⟩
        rw [List.length_eq_zero_iff.1 hc] at this
        cases this
    refine ⟨?_, hend _ v w hl hI⟩
    unfold Region.ready
    rw [List.filter_eq_nil_iff]
    intro i hi
    have hi' : i < ops.size := by simpa using hi
    have h2 : i < listed.size := by omega
    have := hl i hi'
    have h4 : listed.getD i true = true := by simpa [Array.getD, h2] using this
    simp [h4]
  | succ fuel ih =>
    intro listed v w hs hc hI hcl
    refine ⟨fun hr => hend _ v w (hall listed hs hr) hI, ?_⟩
    intro i hi
    unfold Region.ready at hi
    simp only [List.mem_filter, List.mem_range, Bool.and_eq_true] at hi
    obtain ⟨hin, hnl, haf⟩ := hi
    have ho : ops[i]? = some ops[i] := Array.getElem?_eq_getElem hin
    rw [ho] at haf
    simp only [Option.map_some, Option.getD_some, Array.all_eq_true_iff_forall_mem] at haf
    have h2 : i < listed.size := by omega
    have hfalse : listed[i] = false := by
      have : listed.getD i true = false := by simpa using hnl
      simpa [Array.getD, h2] using this
    refine wpOp_step ho fun K' hK => ?_
    refine hstep i _ ho _ v w ?_ ?_ hI K' ?_
    · intro e hem hb
      have := haf e hem
      simpa [hb] using this
    · intro j p hp hj e hem hb he'
      have := hcl j p hp hj e hem hb
      rw [he'] at this
      simp [Array.getD, h2, hfalse] at this
    · intro a' y w' ha' hΨ
      subst ha'
      refine hK _ _ ?_
      have hst : (fr a0 ops v).put ops[i].dst y = fr a0 ops (updV v i y) := by
        have := frL_step ops.toList a0 0 v i ops[i] y hd (by simp [hin])
        rw [Nat.zero_add] at this
        exact this
      rw [hst]
      have e : (fun j => (listed.setIfInBounds i true).getD j false) = setL (fun j => listed.getD j false) i := by
        funext j
        unfold setL
        by_cases h : j = i
        · subst h; simp [Array.getD, h2]
        · have h' : ¬ i = j := fun e => h e.symm
          simp only [h, if_false, Array.getD, Array.size_setIfInBounds]
          by_cases h3 : j < listed.size
          · simp [h3, h']
          · simp [h3]
      refine ih _ _ _ (by simpa using hs) ?_ ?_ ?_
      · have : ∀ (l : List Bool) (i : Nat) (h : i < l.length), l[i] = false → ((l.set i true).filter (!·)).length + 1 = (l.filter (!·)).length := by
          intro l
          induction l with
          | nil => intro i h; simp at h
          | cons b l ihl =>
            intro i h hf
            cases i with
            | zero => simp at hf; subst hf; simp
            | succ i =>
              simp only [List.set_cons_succ]
              have := ihl i (by simpa using h) (by simpa using hf)
              cases b <;> simp <;> omega
        have := this listed.toList i (by simpa using h2) (by simpa using hfalse)
        rw [Array.toList_setIfInBounds]
        omega
      · rw [e]
        exact hΨ
      · intro j p hp hj e2 hem hb
        have ej := congrFun e j
        have ee := congrFun e e2.on
        skip
        rw [ej] at hj
        rw [ee]
        unfold setL at hj ⊢
        by_cases h1 : e2.on = i
        · simp [h1]
        · simp only [h1, if_false]
          by_cases h2 : j = i
          · subst h2
            rw [ho] at hp
            simp only [Option.some.injEq] at hp
            subst hp
            have := haf e2 hem
            simpa [hb] using this
          · simp only [h2, if_false] at hj
            exact hcl j p hp hj e2 hem hb

theorem wp_region_psi {id : Nat} {a0 : Act} {w : World} (hm : P.follows .mixedOrders = true) (hd : dstsOkL ops.toList = true) (he : edgesOk ops = true)
    (Ψ : (Nat → Bool) → (Nat → Value) → World → Prop) (h0 : ∀ v, Ψ (fun _ => false) v w.drew)
    (hstep : ∀ i o, ops[i]? = some o → StepOk P ops Q a0 Ψ i o)
    (hend : ∀ L v w, (∀ i, i < ops.size → L i = true) → Ψ L v w → Q .normal (fr a0 ops v) w) : (Code.region id ops true).wp P Q a0 w := by
  refine wp_region_any hm ?_
  have hfr : fr a0 ops (fun i => ((ops[i]?.bind (·.dst)).map fun t => a0.tmps.getD t undef).getD undef) = a0 := by
    refine frL_start _ _ _ _ fun i o ho => ?_
    have ho' : ops[i]? = some o := by simpa using ho
    simp [ho']
  have key := wpAny_inv (P := P) (Q := Q) hd he hstep hend ops.size (Array.replicate ops.size false) (fun i => ((ops[i]?.bind (·.dst)).map fun t => a0.tmps.getD t undef).getD undef) w.drew (by simp) (by simp) (by
    have e : (fun j => (Array.replicate ops.size false).getD j false) = fun _ => false := by
      funext j; simp [Array.getD]
    rw [e]; exact h0 _) (by
    intro j p _ hj
    simp [Array.getD] at hj)
  rw [hfr] at key
  exact key

/-- what is asked of operation i, no guard before it; F: the frame, written out -/
def StepU (P : Program) (ops : Array Oper) (Q : Exit → Act → World → Prop) (F : (Nat → Value) → Act) (Ψ : (Nat → Bool) → (Nat → Value) → World → Prop) (i : Nat) (o : Oper) : Prop :=
  ∀ (L : Nat → Bool) (v : Nat → Value) (w : World), (∀ e, e ∈ o.after → Region.binds .any e = true → L e.on = true) →
    (∀ j p, ops[j]? = some p → L j = true → ∀ e, e ∈ p.after → Region.binds .any e = true → e.on ≠ i) → Ψ L v w →
    ∀ K : Act → World → Prop, (∀ a' y w', a' = (F v).put o.dst y → Ψ (setL L i) (updV v i y) w' → K a' w') → Oper.wp P o (F v) w K Q
inductive Steps (P : Program) (ops : Array Oper) (Q : Exit → Act → World → Prop) (F : (Nat → Value) → Act) (Ψ : (Nat → Bool) → (Nat → Value) → World → Prop) : List Oper → Nat → Prop
  | nil (k : Nat) : Steps P ops Q F Ψ [] k
  | cons {o : Oper} {os : List Oper} {k : Nat} (hg : o.guard = none) (h : StepU P ops Q F Ψ k o) (hs : Steps P ops Q F Ψ os (k + 1)) : Steps P ops Q F Ψ (o :: os) k
theorem steps_of {F : (Nat → Value) → Act} {Ψ : (Nat → Bool) → (Nat → Value) → World → Prop} : ∀ (os : List Oper) (k : Nat), Steps P ops Q F Ψ os k → ∀ i o, os[i]? = some o → o.guard = none ∧ StepU P ops Q F Ψ (k + i) o
  | [], _, _, _, _, h => by simp at h
  | p :: os, k, hs, 0, o, h => by
    simp only [List.getElem?_cons_zero, Option.some.injEq] at h
    subst h
    cases hs with
    | cons hg h _ => exact ⟨hg, h⟩
  | p :: os, k, hs, i + 1, o, h => by
    cases hs with
    | cons _ _ hs =>
      have := steps_of os (k + 1) hs i o (by simpa using h)
      rwa [show k + 1 + i = k + (i + 1) by omega] at this
theorem wp_region_steps {os : List Oper} {id : Nat} {a0 : Act} {w : World} (hm : P.follows .mixedOrders = true) (hd : dstsOkL os = true) (he : edgesOk os.toArray = true)
    {F : (Nat → Value) → Act} (hF : ∀ v, frL a0 os 0 v = F v)
    (Ψ : (Nat → Bool) → (Nat → Value) → World → Prop) (h0 : ∀ v, Ψ (fun _ => false) v w.drew)
    (hstep : Steps P os.toArray Q F Ψ os 0)
    (hend : ∀ L v w, (∀ i, i < os.length → L i = true) → Ψ L v w → Q .normal (F v) w) : (Code.region id os.toArray true).wp P Q a0 w := by
  refine wp_region_psi hm (by simpa using hd) he Ψ h0 (fun i o ho => ?_) (fun L v w hL hΨ => ?_)
  · obtain ⟨hg, hs⟩ := steps_of _ _ hstep i o (by simpa using ho)
    rw [Nat.zero_add] at hs
    intro L v w h1 h2 h3 K hK
    have hw : Region.wanted o (yielded os.toArray (fr a0 os.toArray v).tmps) = true := by simp [Region.wanted, hg]
    rw [if_pos hw]
    have hf : fr a0 os.toArray v = F v := hF v
    rw [hf] at hK ⊢
    exact hs L v w h1 h2 h3 K hK
  · have hf : fr a0 os.toArray v = F v := hF v
    rw [hf]
    exact hend L v w (by simpa using hL) hΨ
end
end Go.Proofs.Ytbjpkmbhbpcbgaa
