/-
  Arrays of bytes, compared.
-/
import Derived.Test.YtbjpkmbhbpcbgaaBase
import Derived.Laws.StructEq
namespace Go.Proofs.Ytbjpkmbhbpcbgaa
open Go Go.RowKit
/-- the first n cells are the same -/
def eqN (n : Nat) (f g : Nat → Nat) : Bool := (List.range n).all fun i => f i == g i
theorem eqN_iff {n : Nat} {f g : Nat → Nat} : eqN n f g = true ↔ ∀ i, i < n → f i = g i := by
  simp [eqN, List.all_eq_true]
section
variable {P : Program}
theorem run_part_byte (w : World) (e n i : Nat) (f : Nat → Nat) (he : P.underlying e = some (.int .u8)) (hi : i < n) : (part e (bcells n f) (i * 1)).run P w = .ok (.int .u8 (f i : Int)) w := by
  have h := bcells_get (f := f) hi
  rw [Nat.mul_one]
  unfold part isAgg
  simp only [Sem.run_bind, run_underlying he, Result.andThen_ok, Sem.run_pure]
  simp [h]
theorem run_equalIn_bytes (w : World) (d t e n : Nat) (f g : Nat → Nat) (hu : P.underlying t = some (.array n e)) (he : P.underlying e = some (.int .u8)) (hs : (P.info? e).map (·.size) = some 1) :
    (Op.equalIn (d + 2) t (.agg (bcells n f)) (.agg (bcells n g))).run P w = .ok (eqN n f g) w := by
  have hsz : (sizeOf e).run P w = .ok 1 w := by
    cases hq : P.info? e with
    | none => simp [hq] at hs
    | some i =>
      have : i.size = 1 := by simpa [hq] using hs
      simp [sizeOf, typeInfo, hq, this, Sem.run_bind]
  rw [Op.equalIn]
  simp only [Sem.run_bind, run_underlying hu, Result.andThen_ok, hsz]
  rw [Std.Legacy.Range.forIn_eq_forIn_range']
  have key : ∀ l : List Nat, (∀ i, i ∈ l → i < n) → (forIn l ((none : Option Bool), ()) fun i __s => (do
            let __do_lift ← part e (bcells n f) (i * 1)
            let __do_lift_1 ← part e (bcells n g) (i * 1)
            let __do_lift ← Op.equalIn (d + 1) e __do_lift __do_lift_1
            if (!__do_lift) = true then pure (ForInStep.done (some false, ())) else pure (ForInStep.yield (none, ())) : Sem (ForInStep (Option Bool × Unit)))).run P w = .ok (if (l.all fun i => f i == g i) then none else some false, ()) w := by
    intro l
    induction l with
    | nil => intro _; simp
    | cons i l ih =>
      intro hl
      have hi := hl i (by simp)
      rw [List.forIn_cons]
      simp only [Sem.run_bind, run_part_byte w e n i f he hi, run_part_byte w e n i g he hi, Result.andThen_ok, run_equalIn_int w d e .u8 .u8 _ _ he]
      by_cases h : f i = g i
      · have h' : ((f i : Int) == (g i : Int)) = true := by simp [h]
        rw [h']
        simp only [Bool.not_true, Bool.false_eq_true, if_false, Sem.run_pure, Result.andThen_ok, List.all_cons, h, beq_self_eq_true, Bool.true_and]
        exact ih (fun j hj => hl j (by simp [hj]))
      · have h' : ((f i : Int) == (g i : Int)) = false := by simp; omega
        rw [h']
        simp [List.all_cons, h]
  have hr := key (List.range' 0 n) (fun i hi => by simpa using hi)
  have e1 : (List.range' 0 n).all (fun i => f i == g i) = eqN n f g := by rw [eqN, List.range_eq_range']
  rw [e1] at hr
  have e2 : ([:n].size) = n := by simp [Std.Legacy.Range.size]
  rw [show (List.range' [:n].start [:n].size [:n].step) = List.range' 0 n by rw [e2]]
  rw [hr]
  cases eqN n f g <;> simp
/-- a load behind a guard that holds -/
theorem wpList_load_blk_g {ops : Array Oper} {rest : List Oper} {o : Oper} {a : Act} {w : World} {Q : Exit → Act → World → Prop} (hw : Region.wanted o (yielded ops a.tmps) = true) (ty : TypeId) (x : Operand) (ho : o.op = .load ty x)
    (b : Nat) (hx : a.eval x = .pointer (some ⟨b, 0, none⟩)) (n : Nat) (t : TypeId) (f : Nat → Nat) (hb : Blk w b n t f) (e : TypeId) (hu : P.underlying ty = some (.array n e)) (hi : (P.info? ty).map (·.size) = some n)
    (h : wpList P ops Q rest (a.put o.dst (.agg (bcells n f))) w) : wpList P ops Q (o :: rest) a w := by
  unfold wpList
  rw [if_pos hw]
  exact Or.inl (wp_load_blk ty x ho b hx n t f hb e hu hi h)
end
end Go.Proofs.Ytbjpkmbhbpcbgaa
