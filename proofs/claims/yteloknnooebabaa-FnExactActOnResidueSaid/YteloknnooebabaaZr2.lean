/-
  What the rows of this claim rest on: arrays of bytes, walks of the functions, plain mathematics.
-/
import Derived.Test.YteloknnooebabaaZr1
import Derived.Laws.Tables
import Derived.Laws.StructEq
import Derived.Maps.OwnOps
import Derived.DeepKeys4
import Derived.Carry
import Derived.Test.YteloknnooebabaaProg
import Derived.OwnWalk
import Derived.Deep.MidRow
import Derived.Great.BuildSlice
import Derived.RangeFuncNested
import Derived.RangeFuncBound
import Derived.RangeFuncCalls
import Derived.RangeFuncLeaves
import Derived.Shelf.Abstract
import Derived.Shelf.RegionOpen
import Derived.OwnWalkIn
import Derived.TacticsInMore
import Derived.LoopNIn
import Derived.LoopIn
import Derived.Deep.CutBlock
set_option maxRecDepth 100000
set_option maxHeartbeats 9000000
set_option linter.unusedVariables false
set_option linter.unusedSimpArgs false
namespace Go.Proofs.Yteloknnooebabaa
open Go.RowKit
attribute [local irreducible] deg invN dS qS stp stpr quoP resP
theorem one64 : zb 64 oneP = #[.int .u8 1, .int .u8 0, .int .u8 0, .int .u8 0, .int .u8 0, .int .u8 0, .int .u8 0, .int .u8 0, .int .u8 0, .int .u8 0, .int .u8 0, .int .u8 0, .int .u8 0, .int .u8 0, .int .u8 0, .int .u8 0, .int .u8 0, .int .u8 0, .int .u8 0, .int .u8 0, .int .u8 0, .int .u8 0, .int .u8 0, .int .u8 0, .int .u8 0, .int .u8 0, .int .u8 0, .int .u8 0, .int .u8 0, .int .u8 0, .int .u8 0, .int .u8 0, .int .u8 0, .int .u8 0, .int .u8 0, .int .u8 0, .int .u8 0, .int .u8 0, .int .u8 0, .int .u8 0, .int .u8 0, .int .u8 0, .int .u8 0, .int .u8 0, .int .u8 0, .int .u8 0, .int .u8 0, .int .u8 0, .int .u8 0, .int .u8 0, .int .u8 0, .int .u8 0, .int .u8 0, .int .u8 0, .int .u8 0, .int .u8 0, .int .u8 0, .int .u8 0, .int .u8 0, .int .u8 0, .int .u8 0, .int .u8 0, .int .u8 0, .int .u8 0] := by simp only [zb, bl, oneP]; kernel_rfl
theorem scaled_any (p : Nat) (f : Nat → Nat) (c : Nat) (w : World) (hp1 : 2 ≤ p) (hp2 : p ≤ 7) (hf : ∀ i, i < 64 → f i < p) (hc : c < p) :
 Calls Try.prog 178 #[.int .i64 (p : Int), .agg (zb 64 f), .int .u8 (c : Int)] w fun e w' => e = .returned (.agg (zb 64 (sclP p f c))) ∧ Below w.heap.size w w' := by
 go_enter Try.func178, Try.ntmps178
 go_wp2_with fail
 have HF := Lib.hid hf; clear hf
 rw [← z64]
 go_loopw [8] (fun i wr => ∃ k : Nat, k ≤ 64 ∧ i = .int .i64 (k : Int) ∧ Below w.heap.size w wr ∧ Blk wr w.heap.size 64 24 (fun i => if i < k then sclP p f c i else f i) ∧ Blk wr (w.heap.size + 1) 64 24 (fun _ => 0)) (fun i _ => 64 - (intOf i).toNat)
 case atStart =>
  refine ⟨0, by omega, rfl, (((Below.refl _ _).alloc (Nat.le_refl _) _).alloc (by simp) _), ?_, ?_⟩
  · exact ((Blk.new w _ _ _).alloc _).congr (by simp)
  have := (Blk.new (w.alloc (.cells (zb 64 f) 24)) 64 24 (fun _ => 0)); simpa using this
 case round =>
  obtain ⟨k, hk, rfl, hb, h0, h1⟩ := hrel
  by_cases hlt : k < 64
  · have c4 : wr.cell? ⟨w.heap.size, k, none⟩ = some (.int .u8 (f k : Int)) := by rw [h0.cell hlt]; simp
    have z4 := h0.frozen k
    have b1 : f k < p := HF.out k hlt
    obtain ⟨m1, m2⟩ := small_nat_mul hp2 b1 hc
    go_wp2_with fail
    go_roundw
    case rel =>
     refine ⟨k + 1, by omega, by go_num, (hb.setCell (by simp) _), ?_, ?_⟩
     · exact ((h0.set (v := sclP p f c k) (by unfold sclP; push_cast; rfl)).congr (fun i _ => upd_lt (a := sclP p f c) rfl i))
     exact (h1.setOther (by simp))
    case measure => simp [intOf]; omega
  have e : k = 64 := by omega
  subst e
  go_wp2_with (first | refine zlb rfl 24 _ rfl _ rfl 64 24 _ (h0) 5 Try.underlying24 Try.size24 ?_ | refine wpList_store_blk rfl 24 _ _ rfl _ 64 ((fun i => if i < 64 then sclP p f c i else f i)) rfl rfl 24 _ (h1) Try.size24 ?_)
  refine bodyPost_ret (zrb rfl _ _ _ 64 24 5 _ rfl (h1.row _) Try.underlying24 Try.size24) rfl ⟨?_, ?_⟩
  · rw [zbc (g := sclP p f c)]
    intro i hi; simp [hi]
  exact below_setRow hb (by omega) _
theorem l01One_any (w : World) : Calls Try.prog 128 #[] w fun e w' => e = .returned (.agg (zb 64 oneP)) ∧ Below w.heap.size w w' := by
 go_enter Try.func128, Try.ntmps128
 go_upto_region 1 with (fail)
 rw [← z64]
 have b0 := Blk.new w 64 24 (fun _ => 0)
 go_wp2_with (first | (refine wpList_store_blk rfl 24 _ _ rfl _ 64 oneP rfl (by rw [one64]; rfl) 24 _ b0 Try.size24 ?_))
 refine bodyPost_ret (zrb rfl _ _ _ 64 24 5 _ rfl (b0.row _) Try.underlying24 Try.size24) rfl ⟨rfl, zr (zal _ _) (Nat.le_refl _) _⟩
end Go.Proofs.Yteloknnooebabaa
namespace Go.Proofs.Yteloknnooebabaa
open Go Go.RowKit
section
variable {P : Program}
theorem wp_load_any {o : Oper} {a : Act} {w : World} {K : Act → World → Prop} {Q : Exit → Act → World → Prop} (ty : TypeId) (x : Operand) (ho : o.op = .load ty x)
 (b : Nat) (hx : a.eval x = .pointer (some ⟨b, 0, none⟩)) (n : Nat) (t : TypeId) (f : Nat → Nat) (hb : Blk w b n t f) (d : TypeDesc)
 (hu : P.underlying ty = some d) (hd : (match d with | .struct _ | .array _ _ => true | _ => false) = true) (hi : (P.info? ty).map (·.size) = some n) (h : K (a.put o.dst (.agg (zb n f))) w) : o.wp P a w K Q := by
 have hb' : w.heap[b]? = some (.cells (zb n f) t (0, 0)) := by unfold Blk at hb; exact hb
 exact wp_load_row ty x ho b hx t _ (0, 0) d hb' hu hd (by rw [zbs]; exact hi) h
theorem zlc {o : Oper} {a : Act} {w : World} {K : Act → World → Prop} {Q : Exit → Act → World → Prop} {ty : TypeId} {x : Operand} {b n : Nat} {t : TypeId} {f : Nat → Nat} {d : TypeDesc} (hb : Blk w b n t f) (hu : P.underlying ty = some d) (hi : (P.info? ty).map (·.size) = some n) (h : K (a.put o.dst (.agg (zb n f))) w) (ho : o.op = .load ty x := by rfl) (hx : a.eval x = .pointer (some ⟨b, 0, none⟩) := by rfl) (hd : (match d with | .struct _ | .array _ _ => true | _ => false) = true := by rfl) : o.wp P a w K Q := wp_load_any ty x ho b hx n t f hb d hu hd hi h
theorem wpList_load_any {ops : Array Oper} {rest : List Oper} {o : Oper} {a : Act} {w : World} {Q : Exit → Act → World → Prop} (hgd : o.guard = none) (ty : TypeId) (x : Operand) (ho : o.op = .load ty x)
 (b : Nat) (hx : a.eval x = .pointer (some ⟨b, 0, none⟩)) (n : Nat) (t : TypeId) (f : Nat → Nat) (hb : Blk w b n t f) (d : TypeDesc)
 (hu : P.underlying ty = some d) (hd : (match d with | .struct _ | .array _ _ => true | _ => false) = true) (hi : (P.info? ty).map (·.size) = some n)
 (h : wpList P ops Q rest (a.put o.dst (.agg (zb n f))) w) : wpList P ops Q (o :: rest) a w := by
 have hb' : w.heap[b]? = some (.cells (zb n f) t (0, 0)) := by unfold Blk at hb; exact hb
 exact wpList_load_row hgd ty x ho b hx t _ (0, 0) d hb' hu hd (by rw [zbs]; exact hi) h
theorem zla {ops : Array Oper} {rest : List Oper} {o : Oper} {a : Act} {w : World} {Q : Exit → Act → World → Prop} {ty : TypeId} {b n : Nat} {t : TypeId} {f : Nat → Nat} {d : TypeDesc} (x : Operand) (hb : Blk w b n t f) (hu : P.underlying ty = some d) (hi : (P.info? ty).map (·.size) = some n) (h : wpList P ops Q rest (a.put o.dst (.agg (zb n f))) w) (hgd : o.guard = none := by rfl) (ho : o.op = .load ty x := by rfl) (hx : a.eval x = .pointer (some ⟨b, 0, none⟩) := by rfl) (hd : (match d with | .struct _ | .array _ _ => true | _ => false) = true := by rfl) : wpList P ops Q (o :: rest) a w := wpList_load_any hgd ty x ho b hx n t f hb d hu hd hi h
theorem zsr {ops : Array Oper} {rest : List Oper} {o : Oper} {a : Act} {w : World} {Q : Exit → Act → World → Prop} {ty : TypeId} {b n : Nat} {t : TypeId} {f : Nat → Nat} (x y : Operand) (g : Nat → Nat) (hb : Blk w b n t f) (hi : (P.info? ty).map (·.size) = some n) (h : wpList P ops Q rest (a.put o.dst undef) (w.setRow b (zb n g))) (hgd : o.guard = none := by rfl) (ho : o.op = .store ty x y := by rfl) (hx : a.eval x = .pointer (some ⟨b, 0, none⟩) := by rfl) (hy : a.eval y = .agg (zb n g) := by rfl) : wpList P ops Q (o :: rest) a w := wpList_store_blk hgd ty x y ho b n g hx hy t f hb hi h
theorem zlg {ops : Array Oper} {rest : List Oper} {o : Oper} {a : Act} {w : World} {Q : Exit → Act → World → Prop} (hw : Region.wanted o (yielded ops a.tmps) = true) (ty : TypeId) (x : Operand) (ho : o.op = .load ty x)
 (b : Nat) (hx : a.eval x = .pointer (some ⟨b, 0, none⟩)) (n : Nat) (t : TypeId) (f : Nat → Nat) (hb : Blk w b n t f) (d : TypeDesc)
 (hu : P.underlying ty = some d) (hd : (match d with | .struct _ | .array _ _ => true | _ => false) = true) (hi : (P.info? ty).map (·.size) = some n)
 (h : wpList P ops Q rest (a.put o.dst (.agg (zb n f))) w) : wpList P ops Q (o :: rest) a w := by
 unfold wpList
 rw [if_pos hw]
 exact Or.inl (wp_load_any ty x ho b hx n t f hb d hu hd hi h)
theorem wp_build_of {o : Oper} {a : Act} {w : World} {K : Act → World → Prop} {Q : Exit → Act → World → Prop} (t : TypeId) (parts : Array (Nat × Operand)) (ho : o.op = .build t parts)
 (cells : Array Value) (hc : P.built t (parts.map fun (i, x) => (i, a.eval x)).toList = some cells) (h : K (a.put o.dst (.agg cells)) w) : o.wp P a w K Q := by
 refine wp_build t parts ho (by rw [hc]; rfl) ?_
 rw [hc]; exact h
theorem zbo {ops : Array Oper} {rest : List Oper} {o : Oper} {a : Act} {w : World} {Q : Exit → Act → World → Prop} (hg : o.guard = none) (t : TypeId) (parts : Array (Nat × Operand)) (ho : o.op = .build t parts)
 (cells : Array Value) (hc : P.built t (parts.map fun (i, x) => (i, a.eval x)).toList = some cells) (h : wpList P ops Q rest (a.put o.dst (.agg cells)) w) : wpList P ops Q (o :: rest) a w :=
 wpList_plain hg fun _ hK => wp_build_of t parts ho cells hc (hK _ _ h)
end
end Go.Proofs.Yteloknnooebabaa
namespace Go.Proofs.Yteloknnooebabaa
attribute [local irreducible] deg invN
def cs : Nat → (Nat → Int) → Int
 | 0, _ => 0
 | n + 1, t => cs n t + t n
theorem cs_z (t : Nat → Int) : cs 0 t = 0 := rfl
theorem cs_s (n : Nat) (t : Nat → Int) : cs (n + 1) t = cs n t + t n := rfl
theorem cs_congr {s t : Nat → Int} : ∀ n, (∀ i, i < n → s i = t i) → cs n s = cs n t
 | 0, _ => rfl
 | n + 1, h => by rw [cs_s, cs_s, cs_congr n (fun i hi => h i (by omega)), h n (by omega)]
theorem cs_add (s t : Nat → Int) : ∀ n, cs n (fun i => s i + t i) = cs n s + cs n t
 | 0 => rfl
 | n + 1 => by rw [cs_s, cs_s, cs_s, cs_add s t n]; omega
theorem cs_mul (c : Int) (t : Nat → Int) : ∀ n, cs n (fun i => c * t i) = c * cs n t
 | 0 => by rw [cs_z, cs_z, Int.mul_zero]
 | n + 1 => by rw [cs_s, cs_s, cs_mul c t n, Int.mul_add]
theorem cs_mulr (c : Int) (t : Nat → Int) (n : Nat) : cs n (fun i => t i * c) = cs n t * c := by
 rw [Int.mul_comm, ← cs_mul]
 exact cs_congr n (fun i _ => Int.mul_comm _ _)
theorem cs_zero {t : Nat → Int} : ∀ n, (∀ i, i < n → t i = 0) → cs n t = 0
 | 0, _ => rfl
 | n + 1, h => by rw [cs_s, cs_zero n (fun i hi => h i (by omega)), h n (by omega)]; rfl
theorem cs_front (t : Nat → Int) : ∀ n, cs (n + 1) t = t 0 + cs n (fun i => t (i + 1))
 | 0 => by rw [cs_s, cs_z, cs_z]; omega
 | n + 1 => by rw [cs_s, cs_front t n, cs_s]; omega
theorem cs_rev (t : Nat → Int) : ∀ n, cs (n + 1) t = cs (n + 1) (fun i => t (n - i))
 | 0 => rfl
 | n + 1 => by
  rw [cs_front (fun i => t (n + 1 - i)) (n + 1), cs_s, cs_rev t n, Nat.sub_zero]
  have : cs (n + 1) (fun i => t (n + 1 - (i + 1))) = cs (n + 1) (fun i => t (n - i)) := cs_congr _ (fun i _ => by rw [show n + 1 - (i + 1) = n - i by omega])
  omega
theorem cs_tri (F : Nat → Nat → Int) : ∀ n, cs (n + 1) (fun i => cs (i + 1) (fun j => F i j)) = cs (n + 1) (fun j => cs (n - j + 1) (fun l => F (j + l) j))
 | 0 => rfl
 | n + 1 => by
  rw [cs_s, cs_tri F n, cs_s (n + 1) (fun j => cs (n + 1 - j + 1) (fun l => F (j + l) j))]
  have h1 : cs (n + 1) (fun j => cs (n + 1 - j + 1) (fun l => F (j + l) j)) = cs (n + 1) (fun j => cs (n - j + 1) (fun l => F (j + l) j) + F (n + 1) j) := cs_congr _ (fun j hj => by
   rw [show n + 1 - j + 1 = (n - j + 1) + 1 by omega, cs_s, show j + (n - j + 1) = n + 1 by omega])
  have h2 : cs (n + 1 - (n + 1) + 1) (fun l => F (n + 1 + l) (n + 1)) = F (n + 1) (n + 1) := by
   rw [Nat.sub_self, cs_s, cs_z]; simp
  rw [h1, cs_add, h2, cs_s (n + 1) (fun j => F (n + 1) j)]
  have h3 : cs (n + 1) (F (n + 1)) = cs (n + 1) (fun j => F (n + 1) j) := rfl
  omega
theorem cs_dvd {p : Int} {t : Nat → Int} : ∀ n, (∀ i, i < n → p ∣ t i) → p ∣ cs n t
 | 0, _ => ⟨0, by rw [cs_z, Int.mul_zero]⟩
 | n + 1, h => by rw [cs_s]; exact Int.dvd_add (cs_dvd n (fun i hi => h i (by omega))) (h n (by omega))
theorem cs_but {p : Int} {t : Nat → Int} {j : Nat} : ∀ n, j < n → (∀ i, i < n → i ≠ j → p ∣ t i) → p ∣ cs n t - t j
 | 0, h, _ => by omega
 | n + 1, hj, h => by
  rw [cs_s]
  by_cases e : j = n
  · subst e
    have := cs_dvd (p := p) j (fun i hi => h i (by omega) (by omega))
    rwa [show cs j t + t j - t j = cs j t by omega]
  have h1 := cs_but n (by omega) (fun i hi hne => h i (by omega) hne)
  rw [show cs n t + t n - t j = (cs n t - t j) + t n by omega]
  exact Int.dvd_add h1 (h n (by omega) (fun e' => e e'.symm))
def mz (f g : Nat → Int) : Nat → Int := fun k => cs (k + 1) (fun i => f i * g (k - i))
theorem mz_comm (f g : Nat → Int) : mz f g = mz g f := by
 funext k
 unfold mz
 rw [cs_rev]
 exact cs_congr _ (fun i hi => by rw [show k - (k - i) = i by omega, Int.mul_comm])
theorem mz_assoc (f g h : Nat → Int) : mz (mz f g) h = mz f (mz g h) := by
 funext k
 unfold mz
 have h1 : cs (k + 1) (fun i => cs (i + 1) (fun j => f j * g (i - j)) * h (k - i)) = cs (k + 1) (fun i => cs (i + 1) (fun j => (fun i j => f j * g (i - j) * h (k - i)) i j)) := cs_congr _ (fun i _ => by
  rw [← cs_mulr])
 rw [h1, cs_tri]
 exact cs_congr _ (fun j hj => by
  rw [← cs_mul]
  exact cs_congr _ (fun l hl => by
   show f j * g (j + l - j) * h (k - (j + l)) = _
   rw [show j + l - j = l by omega, show k - (j + l) = k - j - l by omega, Int.mul_assoc]))
def az (f g : Nat → Int) : Nat → Int := fun k => f k + g k
def sz (f g : Nat → Int) : Nat → Int := fun k => f k - g k
def cz (c : Int) (f : Nat → Int) : Nat → Int := fun k => c * f k
theorem mz_az (f g h : Nat → Int) : mz (az f g) h = az (mz f h) (mz g h) := by
 funext k
 unfold mz az
 rw [← cs_add]
 exact cs_congr _ (fun i _ => Int.add_mul _ _ _)
theorem mz_cz (c : Int) (f h : Nat → Int) : mz (cz c f) h = cz c (mz f h) := by
 funext k
 unfold mz cz
 rw [← cs_mul]
 exact cs_congr _ (fun i _ => Int.mul_assoc _ _ _)
theorem mz_sz (f g h : Nat → Int) : mz (sz f g) h = sz (mz f h) (mz g h) := by
 have : sz f g = az f (cz (-1) g) := by funext k; unfold sz az cz; omega
 rw [this, mz_az, mz_cz]
 funext k; unfold sz az cz; omega
def fin (f : Nat → Int) : Prop := ∃ N, ∀ k, N ≤ k → f k = 0
theorem fin_az {f g : Nat → Int} (hf : fin f) (hg : fin g) : fin (az f g) := by
 obtain ⟨N, h⟩ := hf; obtain ⟨M, h'⟩ := hg
 exact ⟨N + M, fun k hk => by unfold az; rw [h k (by omega), h' k (by omega)]; rfl⟩
theorem fin_cz {f : Nat → Int} (c : Int) (hf : fin f) : fin (cz c f) := by
 obtain ⟨N, h⟩ := hf
 exact ⟨N, fun k hk => by unfold cz; rw [h k hk, Int.mul_zero]⟩
theorem fin_mz {f g : Nat → Int} (hf : fin f) (hg : fin g) : fin (mz f g) := by
 obtain ⟨N, h⟩ := hf; obtain ⟨M, h'⟩ := hg
 exact ⟨N + M, fun k hk => cs_zero _ (fun i hi => by
  by_cases h1 : N ≤ i
  · rw [h i h1, Int.zero_mul]
  rw [h' (k - i) (by omega), Int.mul_zero])⟩
def cg (p : Int) (f g : Nat → Int) : Prop := ∀ k, p ∣ f k - g k
theorem cg_refl (p : Int) (f : Nat → Int) : cg p f f := fun k => ⟨0, by omega⟩
theorem cg_mz {p : Int} {f f' g : Nat → Int} (h1 : cg p f f') : cg p (mz f g) (mz f' g) := fun k => by
 have : mz f g k - mz f' g k = mz (sz f f') g k := by rw [mz_sz]; rfl
 rw [this]
 exact cs_dvd _ (fun i _ => by
  obtain ⟨c, hc⟩ := h1 i
  exact ⟨c * g (k - i), by unfold sz; rw [hc, Int.mul_assoc]⟩)
def rm (p : Int) (m f g : Nat → Int) : Prop := ∃ q, fin q ∧ cg p (sz f g) (mz q m)
theorem rm_of_cg {p : Int} {m f g : Nat → Int} (h : cg p f g) : rm p m f g := by
 refine ⟨fun _ => 0, ⟨0, fun _ _ => rfl⟩, fun k => ?_⟩
 have : mz (fun _ => 0) m k = 0 := cs_zero _ (fun i _ => Int.zero_mul _)
 rw [this, Int.sub_zero]
 exact h k
theorem rm_refl (p : Int) (m f : Nat → Int) : rm p m f f := rm_of_cg (cg_refl p f)
theorem rm_symm {p : Int} {m f g : Nat → Int} (h : rm p m f g) : rm p m g f := by
 obtain ⟨q, hq, hc⟩ := h
 refine ⟨cz (-1) q, fin_cz _ hq, fun k => ?_⟩
 rw [mz_cz]
 have := hc k
 unfold cz sz at *
 rw [show g k - f k - -1 * mz q m k = -(f k - g k - mz q m k) by omega]
 exact Int.dvd_neg.2 this
theorem rm_az {p : Int} {m f g f' g' : Nat → Int} (h1 : rm p m f f') (h2 : rm p m g g') : rm p m (az f g) (az f' g') := by
 obtain ⟨q, hq, hc⟩ := h1; obtain ⟨r, hr, hd⟩ := h2
 refine ⟨az q r, fin_az hq hr, fun k => ?_⟩
 rw [mz_az]
 have h1 := hc k
 have h2 := hd k
 unfold az sz at *
 rw [show f k + g k - (f' k + g' k) - (mz q m k + mz r m k) = (f k - f' k - mz q m k) + (g k - g' k - mz r m k) by omega]
 exact Int.dvd_add h1 h2
theorem rm_trans {p : Int} {m f g h : Nat → Int} (h1 : rm p m f g) (h2 : rm p m g h) : rm p m f h := by
 obtain ⟨q, hq, hc⟩ := h1; obtain ⟨r, hr, hd⟩ := h2
 refine ⟨az q r, fin_az hq hr, fun k => ?_⟩
 rw [mz_az]
 have h1 := hc k
 have h2 := hd k
 unfold az sz at *
 rw [show f k - h k - (mz q m k + mz r m k) = (f k - g k - mz q m k) + (g k - h k - mz r m k) by omega]
 exact Int.dvd_add h1 h2
theorem rm_mz {p : Int} {m f f' g : Nat → Int} (hg : fin g) (h : rm p m f f') : rm p m (mz f g) (mz f' g) := by
 obtain ⟨q, hq, hc⟩ := h
 refine ⟨mz q g, fin_mz hq hg, ?_⟩
 rw [← mz_sz, mz_assoc, mz_comm g m, ← mz_assoc]
 exact cg_mz hc
theorem rm_mz2 {p : Int} {m f f' g g' : Nat → Int} (hg : fin g) (hf : fin f') (h1 : rm p m f f') (h2 : rm p m g g') : rm p m (mz f g) (mz f' g') := by
 refine rm_trans (rm_mz hg h1) ?_
 rw [mz_comm f' g, mz_comm f' g']
 exact rm_mz hf h2
theorem dvd_unit {p x y v : Int} (hv : p ∣ y * v - 1) (h : p ∣ x * y) : p ∣ x := by
 obtain ⟨a, ha⟩ := hv
 obtain ⟨b, hb⟩ := h
 refine ⟨b * v - x * a, ?_⟩
 have h1 : x * (y * v - 1) = x * (p * a) := by rw [ha]
 rw [Int.mul_sub, ← Int.mul_assoc, hb, Int.mul_one] at h1
 have h2 : p * b * v = p * (b * v) := Int.mul_assoc _ _ _
 have h3 : x * (p * a) = p * (x * a) := by rw [← Int.mul_assoc, Int.mul_comm x p, Int.mul_assoc]
 rw [Int.mul_sub]
 omega
theorem rm_unique {p : Int} {m f g : Nat → Int} {d : Nat} {v : Int} (hv : p ∣ m d * v - 1) (hm : ∀ k, d < k → m k = 0) (hd : ∀ k, d ≤ k → p ∣ f k - g k) (h : rm p m f g) : cg p f g := by
 obtain ⟨q, ⟨N, hN⟩, hc⟩ := h
 have key : ∀ i n, n + i = N → ∀ k, n ≤ k → p ∣ q k := by
  intro i
  induction i with
  | zero => intro n hn k hk; rw [hN k (by omega)]; exact ⟨0, by omega⟩
  | succ i ih =>
   intro n hn k hk
   have ih' := ih (n + 1) (by omega)
   by_cases e : k = n
   · subst e
     have h1 := hc (k + d)
     have h2 := hd (k + d) (by omega)
     have h3 : p ∣ mz q m (k + d) - q k * m (k + d - k) := cs_but (t := fun i => q i * m (k + d - i)) _ (by omega) (fun i hi hne => by
      by_cases hlt : i < k
      · rw [hm (k + d - i) (by omega), Int.mul_zero]; exact ⟨0, by omega⟩
      obtain ⟨c, hc'⟩ := ih' i (by omega)
      exact ⟨c * m (k + d - i), by rw [hc', Int.mul_assoc]⟩)
     rw [show k + d - k = d by omega] at h3
     have h4 : p ∣ q k * m d := by
      unfold sz at h1
      have := Int.dvd_sub (Int.dvd_sub h2 h1) h3
      rwa [show f (k + d) - g (k + d) - (f (k + d) - g (k + d) - mz q m (k + d)) - (mz q m (k + d) - q k * m d) = q k * m d by omega] at this
     exact dvd_unit hv h4
   exact ih' k (by omega)
 intro k
 have h1 := hc k
 have h2 : p ∣ mz q m k := cs_dvd _ (fun i _ => by
  obtain ⟨c, hc'⟩ := key N 0 (by omega) i (by omega)
  exact ⟨c * m (k - i), by rw [hc', Int.mul_assoc]⟩)
 have := Int.dvd_add h1 h2
 unfold sz at this
 rwa [show f k - g k - mz q m k + mz q m k = f k - g k by omega] at this
def pwz (f : Nat → Int) : Nat → (Nat → Int)
 | 0 => fun k => if k = 0 then 1 else 0
 | n + 1 => mz (pwz f n) f
theorem mz_one (f : Nat → Int) : mz (fun k => if k = 0 then 1 else 0) f = f := by
 funext k
 unfold mz
 rw [cs_front, cs_zero k (fun i hi => by show (if i + 1 = 0 then (1 : Int) else 0) * _ = 0; rw [if_neg (by omega), Int.zero_mul])]
 simp
theorem fin_one : fin (fun k => if k = 0 then 1 else 0) := ⟨1, fun k hk => by show (if k = 0 then (1 : Int) else 0) = 0; rw [if_neg (by omega)]⟩
theorem fin_pwz {f : Nat → Int} (hf : fin f) : ∀ n, fin (pwz f n)
 | 0 => fin_one
 | n + 1 => fin_mz (fin_pwz hf n) hf
theorem pwz_two (f : Nat → Int) : ∀ n, pwz f (2 * n) = pwz (mz f f) n
 | 0 => rfl
 | n + 1 => by
  rw [show 2 * (n + 1) = 2 * n + 1 + 1 by omega]
  show mz (mz (pwz f (2 * n)) f) f = mz (pwz (mz f f) n) (mz f f)
  rw [mz_assoc, pwz_two f n]
theorem rm_pwz {p : Int} {m f f' : Nat → Int} (hf : fin f) (hf' : fin f') (h : rm p m f f') : ∀ n, rm p m (pwz f n) (pwz f' n)
 | 0 => rm_refl _ _ _
 | n + 1 => rm_mz2 hf (fin_pwz hf' n) (rm_pwz hf hf' h n) h
def lz (f : Nat → Nat) : Nat → Int := fun k => (cut f k : Int)
theorem fin_lz (f : Nat → Nat) : fin (lz f) := ⟨64, fun k hk => by unfold lz; rw [zcz f hk]; rfl⟩
theorem mod_dvd (p : Nat) (x : Nat) : (p : Int) ∣ ((x % p : Nat) : Int) - (x : Int) := by
 have := Nat.div_add_mod x p
 refine ⟨-((x / p : Nat) : Int), ?_⟩
 rw [Int.mul_neg, ← Int.natCast_mul]
 omega
theorem cv_mz (p : Nat) (f g : Nat → Nat) (k : Nat) : ∀ i, (p : Int) ∣ (cv p f g i k : Int) - cs i (fun j => if j ≤ k then (f j : Int) * (g (k - j) : Int) else 0)
 | 0 => ⟨0, by rw [cv_zero, cs_z]; omega⟩
 | i + 1 => by
  rw [cv_succ, cs_s]
  have h1 := mod_dvd p (cv p f g i k + (if i ≤ k then f i * g (k - i) else 0))
  have h2 := cv_mz p f g k i
  have h3 : (((if i ≤ k then f i * g (k - i) else 0 : Nat)) : Int) = (if i ≤ k then (f i : Int) * (g (k - i) : Int) else 0) := by split <;> push_cast <;> rfl
  have := Int.dvd_add h1 h2
  rw [Int.natCast_add, h3] at this
  obtain ⟨c, hc⟩ := this
  exact ⟨c, by omega⟩
theorem cs_more {t : Nat → Int} (n : Nat) : ∀ d, (∀ i, n ≤ i → i < n + d → t i = 0) → cs (n + d) t = cs n t
 | 0, _ => rfl
 | d + 1, h => by
  rw [← Nat.add_assoc, cs_s, cs_more n d (fun i h1 h2 => h i h1 (by omega)), h (n + d) (by omega) (by omega)]
  omega
theorem prd_mz (p : Nat) (f g : Nat → Nat) (k : Nat) : (p : Int) ∣ (prd p f g k : Int) - mz (lz f) (lz g) k := by
 have h := cv_mz p (cut f) (cut g) k 64
 have e : cs 64 (fun j => if j ≤ k then (cut f j : Int) * (cut g (k - j) : Int) else 0) = mz (lz f) (lz g) k := by
  unfold mz lz
  by_cases hk : k + 1 ≤ 64
  · have := cs_more (t := fun j => if j ≤ k then (cut f j : Int) * (cut g (k - j) : Int) else 0) (k + 1) (64 - (k + 1)) (fun i h1 _ => by rw [if_neg (by omega)])
    rw [show k + 1 + (64 - (k + 1)) = 64 by omega] at this
    rw [this]
    exact cs_congr _ (fun i hi => by rw [if_pos (by omega)])
  have := cs_more (t := fun j => (cut f j : Int) * (cut g (k - j) : Int)) 64 (k + 1 - 64) (fun i h1 _ => by rw [zcz f h1]; simp)
  rw [show 64 + (k + 1 - 64) = k + 1 by omega] at this
  rw [this]
  exact cs_congr _ (fun i hi => by rw [if_pos (by omega)])
 rw [e] at h
 exact h
theorem prd_cg {p : Nat} {f g : Nat → Nat} (hp : 0 < p) (h : deg f + deg g ≤ 63) : cg p (lz (prd p f g)) (mz (lz f) (lz g)) := by
 intro k
 by_cases hk : k < 64
 · have := prd_mz p f g k
   unfold lz at this ⊢
   rwa [cut_in _ hk]
 have h0 := prd_above hp (f := f) (g := g) (k := k) (by omega)
 have := prd_mz p f g k
 unfold lz at this ⊢
 rw [zcz _ (by omega)]
 rwa [h0] at this
theorem lz_inj {p : Nat} {f g : Nat → Nat} (hf : ∀ k, k < 64 → f k < p) (hg : ∀ k, k < 64 → g k < p) (h : cg p (lz f) (lz g)) : ∀ k, k < 64 → f k = g k := by
 intro k hk
 have h1 := h k
 unfold lz at h1
 rw [cut_in _ hk, cut_in _ hk] at h1
 have h2 := hf k hk
 have h3 := hg k hk
 obtain ⟨c, hc⟩ := h1
 have : c = 0 := by
  have hp : (0 : Int) < p := by omega
  by_cases h4 : c = 0
  · exact h4
  exfalso
  by_cases h5 : 0 < c
  · have : (p : Int) * 1 ≤ p * c := Int.mul_le_mul_of_nonneg_left (by omega) (by omega)
    omega
  have : (p : Int) * c ≤ p * (-1) := Int.mul_le_mul_of_nonneg_left (by omega) (by omega)
  omega
 subst this
 omega
end Go.Proofs.Yteloknnooebabaa
section
namespace Go.Proofs.Yteloknnooebabaa
class Rg (R : Type) extends Add R, Mul R, Neg R where
 o : R
 e : R
 acomm : ∀ a b : R, a + b = b + a
 aassoc : ∀ a b c : R, a + b + c = a + (b + c)
 oadd : ∀ a : R, o + a = a
 nadd : ∀ a : R, -a + a = o
 mcomm : ∀ a b : R, a * b = b * a
 massoc : ∀ a b c : R, a * b * c = a * (b * c)
 emul : ∀ a : R, e * a = a
 madd : ∀ a b c : R, a * (b + c) = a * b + a * c
namespace Rg
variable {R : Type} [Rg R]
theorem addo (a : R) : a + o = a := by rw [acomm]; exact oadd a
theorem mule (a : R) : a * e = a := by rw [mcomm]; exact emul a
theorem addm (a b c : R) : (b + c) * a = b * a + c * a := by rw [mcomm, madd, mcomm a b, mcomm a c]
theorem alcomm (a b c : R) : a + (b + c) = b + (a + c) := by rw [← aassoc, acomm a b, aassoc]
theorem mlcomm (a b c : R) : a * (b * c) = b * (a * c) := by rw [← massoc, mcomm a b, massoc]
theorem cancel {a b c : R} (h : a + b = a + c) : b = c := by
 have h2 : -a + (a + b) = -a + (a + c) := by rw [h]
 rwa [← aassoc, ← aassoc, nadd, oadd, oadd] at h2
theorem mulo (a : R) : a * o = o := by
 have h : a * o + a * o = a * o + o := by rw [← madd, oadd, addo]
 exact cancel h
theorem omul (a : R) : o * a = o := by rw [mcomm]; exact mulo a
def pw (a : R) : Nat → R
 | 0 => e
 | n + 1 => a * pw a n
theorem pw_add (a : R) (m : Nat) : ∀ n, pw a (m + n) = pw a m * pw a n
 | 0 => by rw [Nat.add_zero]; exact (mule _).symm
 | n + 1 => by
  show a * pw a (m + n) = pw a m * (a * pw a n)
  rw [pw_add a m n, mlcomm]
theorem pw_one : ∀ n, pw (e : R) n = e
 | 0 => rfl
 | n + 1 => by show e * pw e n = e; rw [pw_one n, emul]
theorem pw_mul (a b : R) : ∀ n, pw (a * b) n = pw a n * pw b n
 | 0 => (emul _).symm
 | n + 1 => by
  show a * b * pw (a * b) n = a * pw a n * (b * pw b n)
  rw [pw_mul a b n, massoc, massoc, mlcomm b]
theorem pw_pw (a : R) (m : Nat) : ∀ n, pw (pw a m) n = pw a (m * n)
 | 0 => rfl
 | n + 1 => by
  show pw a m * pw (pw a m) n = pw a (m * n + m)
  rw [pw_pw a m n, pw_add, mcomm]
def nm : Nat → R → R
 | 0, _ => o
 | k + 1, a => nm k a + a
theorem nm_add (a : R) (j : Nat) : ∀ k, nm (j + k) a = nm j a + nm k a
 | 0 => (addo _).symm
 | k + 1 => by show nm (j + k) a + a = nm j a + (nm k a + a); rw [nm_add a j k, aassoc]
theorem nm_mul (a b : R) : ∀ k, nm k a * b = nm k (a * b)
 | 0 => omul b
 | k + 1 => by show (nm k a + a) * b = nm k (a * b) + a * b; rw [addm, nm_mul a b k]
theorem mul_nm (a b : R) (k : Nat) : a * nm k b = nm k (a * b) := by rw [mcomm, nm_mul, mcomm]
theorem nm_one (a : R) : nm 1 a = a := oadd a
theorem nm_nm (a : R) (j : Nat) : ∀ k, nm k (nm j a) = nm (j * k) a
 | 0 => rfl
 | k + 1 => by show nm k (nm j a) + nm j a = nm (j * k + j) a; rw [nm_nm a j k, nm_add]
theorem nm_char {p : Nat} (h : nm p (e : R) = o) (a : R) : nm p a = o := by
 have := nm_mul e a p
 rw [h, omul, emul] at this
 exact this.symm
theorem nm_mult {p : Nat} (h : nm p (e : R) = o) (k : Nat) (a : R) : nm (p * k) a = o := by
 have h0 : ∀ k, nm k (o : R) = o := by
  intro k
  induction k with
  | zero => rfl
  | succ k ih => show nm k o + o = o; rw [ih, oadd]
 rw [← nm_nm, nm_char h, h0]
def hm (x y : R) : List Nat → R
 | [] => o
 | c :: cs => nm c (pw y cs.length) + x * hm x y cs
def pas : Nat → List Nat → List Nat
 | q, [] => [q]
 | q, c :: cs => (q + c) :: pas c cs
theorem pas_len : ∀ q cs, (pas q cs).length = cs.length + 1
 | _, [] => rfl
 | _, c :: cs => by show (pas c cs).length + 1 = _; rw [pas_len c cs]; rfl
theorem hm_pas (x y : R) : ∀ (q : Nat) (cs : List Nat), hm x y (pas q cs) = nm q (pw y cs.length) + (x + y) * hm x y cs
 | q, [] => by
  show nm q (pw y 0) + x * o = nm q (pw y 0) + (x + y) * o
  rw [mulo, mulo]
 | q, c :: cs => by
  show nm (q + c) (pw y (pas c cs).length) + x * hm x y (pas c cs) = nm q (pw y (cs.length + 1)) + (x + y) * (nm c (pw y cs.length) + x * hm x y cs)
  rw [hm_pas x y c cs, pas_len, nm_add, aassoc]
  congr 1
  have h1 : nm c (pw y (cs.length + 1)) = y * nm c (pw y cs.length) := (mul_nm _ _ _).symm
  rw [h1, madd, madd, addm, addm, aassoc, mlcomm (x + y) x, addm]
  exact alcomm _ _ _
def row : Nat → List Nat
 | 0 => [1]
 | n + 1 => pas 0 (row n)
theorem binom (x y : R) : ∀ n, pw (x + y) n = hm x y (row n)
 | 0 => by show e = nm 1 (pw y 0) + x * o; rw [mulo, addo, nm_one]; rfl
 | n + 1 => by
  show (x + y) * pw (x + y) n = hm x y (pas 0 (row n))
  rw [hm_pas, binom x y n]
  exact (oadd _).symm
theorem frob_add {p : Nat} (hp : p = 2 ∨ p = 3 ∨ p = 5 ∨ p = 7) (hc : nm p (e : R) = o) (x y : R) : pw (x + y) p = pw x p + pw y p := by
 rw [binom]
 have h2 : ∀ k (a : R), nm (p * k) a = o := nm_mult hc
 rcases hp with rfl | rfl | rfl | rfl
 · show nm 1 (pw y 2) + x * (nm (2 * 1) (pw y 1) + x * (nm 1 (pw y 0) + x * o)) = x * (x * e) + pw y 2
   rw [h2, mulo, addo, nm_one, nm_one, oadd, acomm]; rfl
 · show nm 1 (pw y 3) + x * (nm (3 * 1) (pw y 2) + x * (nm (3 * 1) (pw y 1) + x * (nm 1 (pw y 0) + x * o))) = x * (x * (x * e)) + pw y 3
   rw [h2, h2, mulo, addo, nm_one, nm_one, oadd, oadd, acomm]; rfl
 · show nm 1 (pw y 5) + x * (nm (5 * 1) (pw y 4) + x * (nm (5 * 2) (pw y 3) + x * (nm (5 * 2) (pw y 2) + x * (nm (5 * 1) (pw y 1) + x * (nm 1 (pw y 0) + x * o))))) = x * (x * (x * (x * (x * e)))) + pw y 5
   simp only [h2, mulo, addo, nm_one, oadd]; rw [acomm]; rfl
 show nm 1 (pw y 7) + x * (nm (7 * 1) (pw y 6) + x * (nm (7 * 3) (pw y 5) + x * (nm (7 * 5) (pw y 4) + x * (nm (7 * 5) (pw y 3) + x * (nm (7 * 3) (pw y 2) + x * (nm (7 * 1) (pw y 1) + x * (nm 1 (pw y 0) + x * o))))))) = x * (x * (x * (x * (x * (x * (x * e)))))) + pw y 7
 simp only [h2, mulo, addo, nm_one, oadd]; rw [acomm]; rfl
def fr' (p : Nat) (i : Nat) (x : R) : R := pw x (p ^ i)
theorem fr_s (p i : Nat) (x : R) : fr' p (i + 1) x = pw (fr' p i x) p := by
 unfold fr'; rw [pw_pw, Nat.pow_succ]
theorem fr_z (p : Nat) (x : R) : fr' p 0 x = x := by
 show x * e = x; exact mule x
theorem fr_sum {p : Nat} (hp : p = 2 ∨ p = 3 ∨ p = 5 ∨ p = 7) (hc : nm p (e : R) = o) (x y : R) : ∀ i, fr' p i (x + y) = fr' p i x + fr' p i y
 | 0 => by rw [fr_z, fr_z, fr_z]
 | i + 1 => by rw [fr_s, fr_sum hp hc x y i, frob_add hp hc, ← fr_s, ← fr_s]
theorem fr_mul (p i : Nat) (x y : R) : fr' p i (x * y) = fr' p i x * fr' p i y := pw_mul x y _
theorem fr_one (p i : Nat) : fr' p i (e : R) = e := pw_one _
theorem pw_o {n : Nat} (h : 0 < n) : pw (o : R) n = o := by
 obtain ⟨m, rfl⟩ : ∃ m, n = m + 1 := ⟨n - 1, by omega⟩
 exact omul _
theorem fr_o {p : Nat} (hp : 0 < p) (i : Nat) : fr' p i (o : R) = o := pw_o (Nat.pow_pos hp)
theorem fr_nm {p : Nat} (hp : p = 2 ∨ p = 3 ∨ p = 5 ∨ p = 7) (hc : nm p (e : R) = o) (i : Nat) : ∀ k, fr' p i (nm k (e : R)) = nm k e
 | 0 => fr_o (by omega) i
 | k + 1 => by show fr' p i (nm k e + e) = nm k e + e; rw [fr_sum hp hc, fr_nm hp hc i k, fr_one]
def pe : List Nat → R → R
 | [], _ => o
 | c :: cs, x => nm c e + x * pe cs x
theorem fr_pe {p : Nat} (hp : p = 2 ∨ p = 3 ∨ p = 5 ∨ p = 7) (hc : nm p (e : R) = o) (i : Nat) (x : R) : ∀ cs, fr' p i (pe cs x) = pe cs (fr' p i x)
 | [] => fr_o (by omega) i
 | c :: cs => by
  show fr' p i (nm c e + x * pe cs x) = nm c e + fr' p i x * pe cs (fr' p i x)
  rw [fr_sum hp hc, fr_nm hp hc, fr_mul, fr_pe hp hc i x cs]
end Rg
end Go.Proofs.Yteloknnooebabaa
namespace Go.Proofs.Yteloknnooebabaa
open Rg
def zS : Nat → Int := fun _ => 0
def oneS : Nat → Int := fun k => if k = 0 then 1 else 0
def TS : Nat → Int := fun k => if k = 1 then 1 else 0
theorem fin_zS : fin zS := ⟨0, fun _ _ => rfl⟩
theorem fin_TS : fin TS := ⟨2, fun k hk => by unfold TS; rw [if_neg (by omega)]⟩
theorem fin_oneS : fin oneS := fin_one
theorem az_comm (f g : Nat → Int) : az f g = az g f := by funext k; unfold az; omega
theorem az_assoc (f g h : Nat → Int) : az (az f g) h = az f (az g h) := by funext k; unfold az; omega
theorem zS_az (f : Nat → Int) : az zS f = f := by funext k; unfold az zS; omega
theorem neg_az (f : Nat → Int) : az (cz (-1) f) f = zS := by funext k; unfold az zS cz; omega
theorem mz_az2 (f g h : Nat → Int) : mz f (az g h) = az (mz f g) (mz f h) := by
 rw [mz_comm, mz_az, mz_comm g, mz_comm h]
theorem rm_cz {p : Int} {m f f' : Nat → Int} (c : Int) (h : rm p m f f') : rm p m (cz c f) (cz c f') := by
 obtain ⟨q, hq, hc⟩ := h
 refine ⟨cz c q, fin_cz c hq, fun k => ?_⟩
 rw [mz_cz]
 obtain ⟨x, hx⟩ := hc k
 unfold cz sz at *
 refine ⟨c * x, ?_⟩
 have : c * (f k - f' k - mz q m k) = c * (p * x) := by rw [hx]
 rw [Int.mul_sub, Int.mul_sub] at this
 rw [this, Int.mul_left_comm]
def Res (p : Int) (m : Nat → Int) : Type := Quot (fun f g : { f : Nat → Int // fin f } => rm p m f.1 g.1)
section
variable {p : Int} {m : Nat → Int}
def cl (f : Nat → Int) (hf : fin f) : Res p m := Quot.mk _ ⟨f, hf⟩
theorem cl_eq {f g : Nat → Int} {hf : fin f} {hg : fin g} : (cl f hf : Res p m) = cl g hg ↔ rm p m f g := by
 constructor
 · intro h
   have key : ∀ x y : { f : Nat → Int // fin f }, (Quot.mk (fun f g : { f : Nat → Int // fin f } => rm p m f.1 g.1) x) = Quot.mk _ y → rm p m x.1 y.1 := by
    intro x y hxy
    have h1 := congrArg (Quot.lift (fun z : { f : Nat → Int // fin f } => rm p m x.1 z.1) (by
     intro a b hab
     exact propext ⟨fun h => rm_trans h hab, fun h => rm_trans h (rm_symm hab)⟩)) hxy
    have h2 : rm p m x.1 x.1 = rm p m x.1 y.1 := h1
    rw [← h2]; exact rm_refl _ _ _
   exact key _ _ h
 intro h; exact Quot.sound h
def rAdd (x y : Res p m) : Res p m := Quot.lift (fun f => Quot.lift (fun g => cl (az f.1 g.1) (fin_az f.2 g.2)) (by
 intro a b h; exact cl_eq.2 (rm_az (rm_refl _ _ _) h)) y) (by
 intro a b h
 induction y using Quot.ind with
 | mk g => exact cl_eq.2 (rm_az h (rm_refl _ _ _))) x
def rMul (x y : Res p m) : Res p m := Quot.lift (fun f => Quot.lift (fun g => cl (mz f.1 g.1) (fin_mz f.2 g.2)) (by
 intro a b h; exact cl_eq.2 (rm_mz2 a.2 f.2 (rm_refl _ _ _) h)) y) (by
 intro a b h
 induction y using Quot.ind with
 | mk g => exact cl_eq.2 (rm_mz g.2 h)) x
def rNeg (x : Res p m) : Res p m := Quot.lift (fun f => cl (cz (-1) f.1) (fin_cz _ f.2)) (by
 intro a b h; exact cl_eq.2 (rm_cz _ h)) x
theorem rAdd_cl {f g : Nat → Int} {hf : fin f} {hg : fin g} : rAdd (cl f hf : Res p m) (cl g hg) = cl (az f g) (fin_az hf hg) := rfl
theorem rMul_cl {f g : Nat → Int} {hf : fin f} {hg : fin g} : rMul (cl f hf : Res p m) (cl g hg) = cl (mz f g) (fin_mz hf hg) := rfl
theorem cl_congr {f g : Nat → Int} {hf : fin f} {hg : fin g} (h : f = g) : (cl f hf : Res p m) = cl g hg := by subst h; rfl
theorem res_ind {P : Res p m → Prop} (h : ∀ f hf, P (cl f hf)) (x : Res p m) : P x := by
 induction x using Quot.ind with
 | mk f => exact h f.1 f.2
instance resRg : Rg (Res p m) where
 add := rAdd
 mul := rMul
 neg := rNeg
 o := cl zS fin_zS
 e := cl oneS fin_oneS
 acomm a b := by
  induction a using res_ind with | h f hf => induction b using res_ind with | h g hg => exact cl_congr (az_comm f g)
 aassoc a b c := by
  induction a using res_ind with | h f hf => induction b using res_ind with | h g hg => induction c using res_ind with | h h hh => exact cl_congr (az_assoc f g h)
 oadd a := by induction a using res_ind with | h f hf => exact cl_congr (zS_az f)
 nadd a := by induction a using res_ind with | h f hf => exact cl_congr (neg_az f)
 mcomm a b := by
  induction a using res_ind with | h f hf => induction b using res_ind with | h g hg => exact cl_congr (mz_comm f g)
 massoc a b c := by
  induction a using res_ind with | h f hf => induction b using res_ind with | h g hg => induction c using res_ind with | h h hh => exact cl_congr (mz_assoc f g h)
 emul a := by induction a using res_ind with | h f hf => exact cl_congr (mz_one f)
 madd a b c := by
  induction a using res_ind with | h f hf => induction b using res_ind with | h g hg => induction c using res_ind with | h h hh => exact cl_congr (mz_az2 f g h)
def tt : Res p m := cl TS fin_TS
theorem pw_cl {f : Nat → Int} (hf : fin f) : ∀ n, pw (cl f hf : Res p m) n = cl (pwz f n) (fin_pwz hf n)
 | 0 => rfl
 | n + 1 => by
  show rMul (cl f hf) (pw (cl f hf) n) = _
  rw [pw_cl hf n, rMul_cl]
  exact cl_congr (mz_comm _ _)
theorem fin_c (c : Nat) : fin (fun k => if k = 0 then (c : Int) else 0) := ⟨1, fun k hk => by show (if k = 0 then (c : Int) else 0) = 0; rw [if_neg (by omega)]⟩
theorem nm_cl : ∀ c : Nat, (nm c Rg.e : Res p m) = cl (fun k => if k = 0 then (c : Int) else 0) (fin_c c)
 | 0 => cl_congr (by funext k; unfold zS; split <;> rfl)
 | c + 1 => by
  show rAdd (nm c Rg.e) (cl oneS fin_oneS) = _
  rw [nm_cl c, rAdd_cl]
  exact cl_congr (by funext k; unfold az oneS; by_cases h : k = 0 <;> simp [h])
theorem mz_TS (f : Nat → Int) : mz TS f = fun k => if k = 0 then 0 else f (k - 1) := by
 funext k
 unfold mz
 cases k with
 | zero => rw [cs_s, cs_z]; simp [TS]
 | succ k =>
  rw [cs_front, cs_front, cs_zero k (fun i hi => by unfold TS; rw [if_neg (by omega), Int.zero_mul])]
  simp [TS]
def ser (cs : List Nat) : Nat → Int := fun k => ((cs.getD k 0 : Nat) : Int)
theorem fin_ser (cs : List Nat) : fin (ser cs) := ⟨cs.length, fun k hk => by unfold ser; simp [hk]⟩
theorem pe_cl : ∀ cs : List Nat, (pe cs tt : Res p m) = cl (ser cs) (fin_ser cs)
 | [] => cl_congr (by funext k; unfold zS ser; simp)
 | c :: cs => by
  show rAdd (nm c Rg.e) (rMul (cl TS fin_TS) (pe cs tt)) = _
  rw [pe_cl cs, nm_cl, rMul_cl, rAdd_cl]
  refine cl_congr ?_
  rw [mz_TS]
  funext k
  unfold az ser
  cases k with
  | zero => simp
  | succ k => simp
theorem mz_mono (c : Int) (j : Nat) (m : Nat → Int) (k : Nat) : mz (fun i => if i = j then c else 0) m k = if j ≤ k then c * m (k - j) else 0 := by
 unfold mz
 by_cases h : j ≤ k
 · rw [if_pos h]
   have h1 : cs (k + 1) (fun i => (if i = j then c else 0) * m (k - i)) = cs (j + 1 + (k - j)) (fun i => (if i = j then c else 0) * m (k - i)) := by rw [show j + 1 + (k - j) = k + 1 by omega]
   have more : ∀ d, cs (j + 1 + d) (fun i => (if i = j then c else 0) * m (k - i)) = cs (j + 1) (fun i => (if i = j then c else 0) * m (k - i)) := by
    intro d
    induction d with
    | zero => rfl
    | succ d ih => rw [← Nat.add_assoc, cs_s, ih, if_neg (by omega), Int.zero_mul, Int.add_zero]
   rw [h1, more, cs_s, cs_zero j (fun i hi => by rw [if_neg (by omega), Int.zero_mul]), if_pos rfl]
   omega
 rw [if_neg h]
 exact cs_zero _ (fun i hi => by show (if i = j then c else 0) * _ = 0; rw [if_neg (by omega), Int.zero_mul])
theorem fin_mono (c : Int) (j : Nat) : fin (fun i => if i = j then c else 0) := ⟨j + 1, fun k hk => by show (if k = j then c else 0) = 0; rw [if_neg (by omega)]⟩
end
end Go.Proofs.Yteloknnooebabaa
namespace Go.Proofs.Yteloknnooebabaa
attribute [local irreducible] deg invN
def lw (f : Nat → Nat) : Nat → Int := fun k => if k < 128 then (f k : Int) else 0
theorem lw_cut (f : Nat → Nat) : lw (cut f) = lz f := by
 funext k; unfold lw lz
 by_cases h : k < 128
 · rw [if_pos h]
 rw [if_neg h, zcz f (by omega)]; rfl
def ln (f : Nat → Nat) : Nat → Int := fun k => (f k : Int)
theorem lz_above {b : Nat → Nat} {m : Nat} (hb : deg b = (m : Int)) {k : Nat} (hk : m < k) : lz b k = 0 := by
 unfold lz
 by_cases h : k < 64
 · rw [cut_in b h, zero_above (f := b) (k := k) (by omega) h]; rfl
 rw [zcz b (by omega)]; rfl
theorem take_dvd {p A c b : Nat} (hc : c ≤ p) : (p : Int) ∣ (A : Int) - ((c : Int) * (b : Int) + (((A + (p - c) * b) % p : Nat) : Int)) := by
 have h1 := mod_dvd p (A + (p - c) * b)
 have h2 : ((A + (p - c) * b : Nat) : Int) = (A : Int) + (p : Int) * (b : Int) - (c : Int) * (b : Int) := by
  have : ((p - c : Nat) : Int) = (p : Int) - (c : Int) := by omega
  rw [Int.natCast_add, Int.natCast_mul, this, Int.sub_mul]; omega
 rw [h2] at h1
 obtain ⟨x, hx⟩ := h1
 refine ⟨-x - (b : Int), ?_⟩
 rw [Int.mul_sub, Int.mul_neg]
 omega
theorem stp_cg {p inv m n : Nat} {b a : Nat → Nat} (hp : 0 < p) (hb : deg b = (m : Int)) (hmn : m ≤ n) (hn : n < 128) :
 cg p (lw a) (az (mz (fun i => if i = n - m then ((a n * inv % p : Nat) : Int) else 0) (lz b)) (lw (stp p inv m b n a))) := by
 obtain ⟨hm6, _, _⟩ := deg_top hb
 intro k
 obtain ⟨c, hc⟩ : ∃ c, c = a n * inv % p := ⟨_, rfl⟩
 have hcp : c < p := by rw [hc]; exact Nat.mod_lt _ hp
 unfold az
 rw [mz_mono, ← hc]
 unfold lw stp
 by_cases hk : k < 128
 · rw [if_pos hk, if_pos hk]
   by_cases h : n - m ≤ k ∧ k ≤ n
   · rw [if_pos h, if_pos h.1, ← hc]
     have : lz b (k - (n - m)) = (b (k - (n - m)) : Int) := by unfold lz; rw [cut_in b (by omega)]
     rw [this]
     exact take_dvd (by omega)
   rw [if_neg h]
   by_cases h1 : n - m ≤ k
   · rw [if_pos h1, lz_above hb (by omega)]; exact ⟨0, by omega⟩
   rw [if_neg h1]; exact ⟨0, by omega⟩
 rw [if_neg hk, if_neg hk, if_pos (by omega), lz_above hb (by omega)]; exact ⟨0, by omega⟩
theorem qS_fin (p inv m : Nat) (b a : Nat → Nat) (i : Nat) : fin (ln (qS p inv m b a i)) := ⟨128, fun k hk => by unfold ln qS; rw [if_neg (by omega)]; rfl⟩
theorem qS_az {p inv m : Nat} (b a : Nat → Nat) {i : Nat} (hi : i + m ≤ 127) : ln (qS p inv m b a (i + 1)) = az (ln (qS p inv m b a i)) (fun j => if j = 127 - i - m then ((dS p inv m b a i (127 - i) * inv % p : Nat) : Int) else 0) := by
 funext k
 show ((qS p inv m b a (i + 1) k : Nat) : Int) = ((qS p inv m b a i k : Nat) : Int) + (if k = 127 - i - m then ((dS p inv m b a i (127 - i) * inv % p : Nat) : Int) else 0)
 rw [← qS_next b a hi k]
 unfold upd
 by_cases h : k = 127 - i - m
 · rw [if_pos h, if_pos h]
   have : qS p inv m b a i k = 0 := by unfold qS; rw [if_neg (by omega)]
   rw [this]; simp
 rw [if_neg h, if_neg h]; simp
theorem dS_cg {p inv m : Nat} {b a : Nat → Nat} (hp : 0 < p) (hb : deg b = (m : Int)) : ∀ i, i + m ≤ 128 → cg p (lw a) (az (mz (ln (qS p inv m b a i)) (lz b)) (lw (dS p inv m b a i)))
 | 0, _ => by
  intro k
  unfold az
  have : mz (ln (qS p inv m b a 0)) (lz b) k = 0 := cs_zero _ (fun j _ => by unfold ln; rw [qS_zero]; simp)
  rw [this, dS_zero]; exact ⟨0, by omega⟩
 | i + 1, hi => by
  have ih := dS_cg (inv := inv) (b := b) (a := a) hp hb i (by omega)
  have hs := stp_cg (inv := inv) (a := dS p inv m b a i) hp hb (n := 127 - i) (by omega) (by omega)
  rw [qS_az b a (by omega), mz_az, dS_succ]
  intro k
  have h1 := ih k
  have h2 := hs k
  unfold az at *
  have := Int.dvd_add h1 h2
  rw [show lw a k - (mz (ln (qS p inv m b a i)) (lz b) k + lw (dS p inv m b a i) k) + (lw (dS p inv m b a i) k - (mz (fun j => if j = 127 - i - m then ((dS p inv m b a i (127 - i) * inv % p : Nat) : Int) else 0) (lz b) k + lw (stp p inv m b (127 - i) (dS p inv m b a i)) k)) = lw a k - (mz (ln (qS p inv m b a i)) (lz b) k + mz (fun j => if j = 127 - i - m then ((dS p inv m b a i (127 - i) * inv % p : Nat) : Int) else 0) (lz b) k + lw (stp p inv m b (127 - i) (dS p inv m b a i)) k) by omega] at this
  exact this
theorem divW {p inv m : Nat} {b a : Nat → Nat} (hp : 0 < p) (hb : deg b = (m : Int)) : cg p (lw a) (az (mz (ln (quoW p inv m b a)) (lz b)) (lw (resW p inv m b a))) := by
 obtain ⟨hm6, _, _⟩ := deg_top hb
 exact dS_cg hp hb (128 - m) (by omega)
theorem rmW {p inv m : Nat} {b a : Nat → Nat} (hp : 0 < p) (hb : deg b = (m : Int)) : rm p (lz b) (lw a) (lw (resW p inv m b a)) := by
 refine ⟨_, qS_fin p inv m b a (128 - m), fun k => ?_⟩
 have := divW (inv := inv) (a := a) hp hb k
 unfold az at this
 unfold sz
 show (p : Int) ∣ lw a k - lw (resW p inv m b a) k - mz (ln (quoW p inv m b a)) (lz b) k
 rwa [show lw a k - lw (resW p inv m b a) k - mz (ln (quoW p inv m b a)) (lz b) k = lw a k - (mz (ln (quoW p inv m b a)) (lz b) k + lw (resW p inv m b a) k) by omega]
theorem quoP_out {p : Nat} {a b : Nat → Nat} (hp : 0 < p) (ha : ∀ k, k < 64 → a k < p) (hb : 0 ≤ deg b) {k : Nat} (hk : 64 ≤ k) : quoP p a b k = 0 := by
 obtain ⟨m, hm⟩ : ∃ m : Nat, deg b = (m : Int) := ⟨(deg b).toNat, by omega⟩
 rw [quoP_at hm]
 unfold quoW qS
 split
 · rename_i h
   unfold qd
   rw [dS_stay (N := 64) (fun j _ => cut_all hp ha j) (fun j h1 _ => zcz a h1) _ (by omega) _ (by omega), zcz a (by omega), Nat.zero_mul, Nat.zero_mod]
 rfl
theorem resP_out {p : Nat} {a b : Nat → Nat} (hp : p = 2 ∨ p = 3 ∨ p = 5 ∨ p = 7) (ha : ∀ k, k < 64 → a k < p) (hbp : ∀ k, k < 64 → b k < p) (hb : 0 ≤ deg b) {k : Nat} (hk : 64 ≤ k) (hk2 : k < 128) : resP p a b k = 0 := by
 have hp0 : 0 < p := by omega
 obtain ⟨m, hm⟩ : ∃ m : Nat, deg b = (m : Int) := ⟨(deg b).toNat, by omega⟩
 obtain ⟨m1, m2, m3⟩ := deg_top hm
 rw [resP_at hm]
 unfold resW
 exact dS_top hp0 (fun j _ => cut_all hp0 ha j) (invF hp m2 (hbp m m1)).2.2.1 _ (by omega) k (by omega) hk2
theorem divP {p : Nat} {a b : Nat → Nat} (hp : p = 2 ∨ p = 3 ∨ p = 5 ∨ p = 7) (ha : ∀ k, k < 64 → a k < p) (hbp : ∀ k, k < 64 → b k < p) (hb : 0 ≤ deg b) : cg p (lz a) (az (mz (lz (quoP p a b)) (lz b)) (lz (resP p a b))) := by
 have hp0 : 0 < p := by omega
 obtain ⟨m, hm⟩ : ∃ m : Nat, deg b = (m : Int) := ⟨(deg b).toNat, by omega⟩
 have h := divW (inv := invN p (b m)) (a := cut a) hp0 hm
 rw [lw_cut, ← quoP_at hm, ← resP_at hm] at h
 have e1 : ln (quoP p a b) = lz (quoP p a b) := by
  funext k; unfold ln lz
  by_cases hk : k < 64
  · rw [cut_in _ hk]
  rw [zcz _ (by omega), quoP_out hp0 ha hb (by omega)]
 have e2 : lw (resP p a b) = lz (resP p a b) := by
  funext k; unfold lw lz
  by_cases hk : k < 64
  · rw [cut_in _ hk, if_pos (by omega)]
  rw [zcz _ (by omega)]
  by_cases hk2 : k < 128
  · rw [if_pos hk2, resP_out hp ha hbp hb (by omega) hk2]
  rw [if_neg hk2]; rfl
 rw [e1, e2] at h
 exact h
theorem mz_zS (f : Nat → Int) : mz f zS = zS := by
 funext k; exact cs_zero _ (fun i _ => Int.mul_zero _)
end Go.Proofs.Yteloknnooebabaa
namespace Go.Proofs.Yteloknnooebabaa
attribute [local irreducible] deg invN quoP resP
theorem lz_neg {f : Nat → Nat} (hf : deg f < 0) : lz f = zS := by
 funext k; unfold lz zS
 by_cases hk : k < 64
 · rw [cut_in f hk, deg_neg hf k hk]; rfl
 rw [zcz f (by omega)]; rfl
theorem sclP_cg {p : Nat} (f : Nat → Nat) (c : Nat) : cg p (lz (sclP p f c)) (cz (c : Int) (lz f)) := by
 intro k
 show (p : Int) ∣ ((cut (sclP p f c) k : Nat) : Int) - (c : Int) * ((cut f k : Nat) : Int)
 by_cases hk : k < 64
 · rw [cut_in _ hk, cut_in _ hk]
   unfold sclP
   have h1 := mod_dvd p (f k * c)
   rwa [Int.natCast_mul, Int.mul_comm (f k : Int)] at h1
 rw [zcz _ (by omega), zcz _ (by omega)]; exact ⟨0, by simp⟩
def mon (f : Nat → Nat) (d : Nat) : Prop := deg f = (d : Int) ∧ f d = 1
end Go.Proofs.Yteloknnooebabaa
namespace Go.Proofs.Yteloknnooebabaa
attribute [local irreducible] deg invN quoP resP
def monL (p n : Nat) : List Nat := List.range' (p ^ n) (p ^ n)
def dvo (p : Nat) (m : Nat → Nat) : Nat → (Nat → Nat) → Nat × (Nat → Nat)
 | 0, a => (0, a)
 | f + 1, a => if deg (resP p a m) < 0 then ((dvo p m f (quoP p a m)).1 + 1, (dvo p m f (quoP p a m)).2) else (0, a)
end Go.Proofs.Yteloknnooebabaa
namespace Go.Proofs.Yteloknnooebabaa
attribute [local irreducible] deg invN quoP resP
def foR (p : Nat) : List Nat → (Nat → Nat) → List (Nat × Nat) × (Nat → Nat)
 | [], a => ([], a)
 | N :: ms, a => ((if 0 < (dvo p (ofN p N) 64 a).1 then [(N, (dvo p (ofN p N) 64 a).1)] else []) ++ (foR p ms (dvo p (ofN p N) 64 a).2).1, (foR p ms (dvo p (ofN p N) 64 a).2).2)
def run (p : Nat) : Nat → Nat → (Nat → Nat) → List (Nat × Nat)
 | 0, _, _ => []
 | f + 1, n, a => if deg a ≤ 0 then [] else (foR p (monL p n) a).1 ++ run p f (n + 1) (foR p (monL p n) a).2
end Go.Proofs.Yteloknnooebabaa
namespace Go.Proofs.Yteloknnooebabaa
attribute [local irreducible] deg invN quoP resP
theorem one_lz : lz oneP = oneS := by
 funext k; unfold lz oneS
 by_cases hk : k < 64
 · rw [cut_in _ hk]; unfold oneP; split <;> rfl
 rw [zcz _ (by omega), if_neg (by omega)]; rfl
theorem res_rm {p : Nat} {a m : Nat → Nat} (hp : p = 2 ∨ p = 3 ∨ p = 5 ∨ p = 7) (ha : ∀ k, k < 64 → a k < p) (hm : ∀ k, k < 64 → m k < p) (h0 : 0 ≤ deg m) : rm p (lz m) (lz a) (lz (resP p a m)) := by
 refine ⟨_, fin_lz (quoP p a m), fun k => ?_⟩
 have := divP hp ha hm h0 k
 unfold az at this
 unfold sz
 rwa [show lz a k - lz (resP p a m) k - mz (lz (quoP p a m)) (lz m) k = lz a k - (mz (lz (quoP p a m)) (lz m) k + lz (resP p a m) k) by omega]
end Go.Proofs.Yteloknnooebabaa
namespace Go.Proofs.Yteloknnooebabaa
attribute [local irreducible] deg invN quoP resP
def mmP (p : Nat) (a b m : Nat → Nat) : Nat → Nat := resW p (invN p (m (deg m).toNat)) (deg m).toNat m (prd p a b)
theorem mmP_at {p d : Nat} {a b m : Nat → Nat} (h : deg m = (d : Int)) : mmP p a b m = resW p (invN p (m d)) d m (prd p a b) := by unfold mmP; rw [h]; rfl
theorem mmP_lt {p : Nat} {a b m : Nat → Nat} (hp : 0 < p) : ∀ k, k < 128 → mmP p a b m k < p := by
 intro k hk
 unfold mmP resW
 exact dS_lt (N := 128) hp (fun j _ => prd_lt hp j) _ k hk
theorem mmP_out {p d : Nat} {a b m : Nat → Nat} (hp : p = 2 ∨ p = 3 ∨ p = 5 ∨ p = 7) (hm : ∀ k, k < 64 → m k < p) (hd : deg m = (d : Int)) {k : Nat} (h1 : d ≤ k) (h2 : k < 128) : mmP p a b m k = 0 := by
 have hp0 : 0 < p := by omega
 obtain ⟨m1, m2, m3⟩ := deg_top hd
 rw [mmP_at hd]
 unfold resW
 exact dS_top hp0 (fun j _ => prd_lt hp0 j) (invF hp m2 (hm d m1)).2.2.1 _ (by omega) k (by omega) h2
theorem mmP_deg {p : Nat} {a b m : Nat → Nat} (hp : p = 2 ∨ p = 3 ∨ p = 5 ∨ p = 7) (hm : ∀ k, k < 64 → m k < p) (h0 : 0 ≤ deg m) : deg (mmP p a b m) < deg m := by
 obtain ⟨d, hd⟩ : ∃ d : Nat, deg m = (d : Int) := ⟨(deg m).toNat, by omega⟩
 have := deg_le (f := mmP p a b m) (d := (d : Int) - 1) (by omega) (fun k hk hk2 => mmP_out hp hm hd (by omega) (by omega))
 omega
theorem mz_far {a b : Nat → Nat} {k : Nat} (hk : 127 ≤ k) : mz (lz a) (lz b) k = 0 := by
 refine cs_zero _ (fun i _ => ?_)
 unfold lz
 by_cases h : i < 64
 · rw [zcz b (by omega)]; simp
 rw [zcz a (by omega)]; simp
theorem prd_lw (p : Nat) (a b : Nat → Nat) : cg p (lw (prd p a b)) (mz (lz a) (lz b)) := by
 intro k
 unfold lw
 by_cases h : k < 128
 · rw [if_pos h]; exact prd_mz p a b k
 rw [if_neg h, mz_far (by omega)]; exact ⟨0, by omega⟩
theorem mmP_rm {p : Nat} {a b m : Nat → Nat} (hp : p = 2 ∨ p = 3 ∨ p = 5 ∨ p = 7) (hm : ∀ k, k < 64 → m k < p) (h0 : 0 ≤ deg m) : rm p (lz m) (mz (lz a) (lz b)) (lz (mmP p a b m)) := by
 have hp0 : 0 < p := by omega
 obtain ⟨d, hd⟩ : ∃ d : Nat, deg m = (d : Int) := ⟨(deg m).toNat, by omega⟩
 have h := rmW (p := p) (inv := invN p (m d)) (a := prd p a b) hp0 hd
 rw [← mmP_at hd] at h
 have e : lw (mmP p a b m) = lz (mmP p a b m) := by
  funext k; unfold lw lz
  obtain ⟨d6, _, _⟩ := deg_top hd
  by_cases hk : k < 64
  · rw [cut_in _ hk, if_pos (by omega)]
  rw [zcz _ (by omega)]
  by_cases hk2 : k < 128
  · rw [if_pos hk2, mmP_out hp hm hd (by omega) hk2]
  rw [if_neg hk2]; rfl
 rw [e] at h
 exact rm_trans (rm_symm (rm_of_cg (prd_lw p a b))) h
def upF (p : Nat) (a m : Nat → Nat) : Nat := a ((deg m).toNat - 1) * invN p (m (deg m).toNat) % p
def shA (a : Nat → Nat) (n : Nat) : Nat → Nat := fun k => if 1 ≤ k ∧ k < n then a (k - 1) else 0
def upP (p : Nat) (a m : Nat → Nat) : Nat → Nat := fun k => if (k : Int) < deg m then (shA a (deg m).toNat k + (p - upF p a m) * m k) % p else 0
theorem upP_lt {p : Nat} {a m : Nat → Nat} (hp : 0 < p) (k : Nat) : upP p a m k < p := by
 unfold upP; split
 · exact Nat.mod_lt _ hp
 exact hp
theorem upP_rm {p : Nat} {a m : Nat → Nat} (hp : p = 2 ∨ p = 3 ∨ p = 5 ∨ p = 7) (ha : ∀ k, k < 64 → a k < p) (hm : ∀ k, k < 64 → m k < p) (h0 : 0 ≤ deg m) (hlt : deg a < deg m) : rm p (lz m) (mz TS (lz a)) (lz (upP p a m)) := by
 have hp0 : 0 < p := by omega
 obtain ⟨d, hd⟩ : ∃ d : Nat, deg m = (d : Int) := ⟨(deg m).toNat, by omega⟩
 obtain ⟨d6, m2, m3⟩ := deg_top hd
 obtain ⟨_, _, i3, _⟩ := invF hp m2 (hm d d6)
 obtain ⟨f, hf⟩ : ∃ f, f = upF p a m := ⟨_, rfl⟩
 have hfp : f < p := by rw [hf]; exact Nat.mod_lt _ hp0
 have hfd : f = a (d - 1) * invN p (m d) % p := by rw [hf]; unfold upF; rw [hd]; rfl
 refine ⟨fun i => if i = 0 then (f : Int) else 0, fin_mono _ 0, fun k => ?_⟩
 rw [mz_mono, if_pos (Nat.zero_le _), Nat.sub_zero, mz_TS]
 have hup : upP p a m k = if (k : Int) < deg m then (shA a (deg m).toNat k + (p - f) * m k) % p else 0 := by rw [hf]; rfl
 have hdt : (deg m).toNat = d := by rw [hd]; rfl
 rw [hdt] at hup
 show (p : Int) ∣ (if k = 0 then 0 else lz a (k - 1)) - lz (upP p a m) k - (f : Int) * lz m k
 by_cases hk : k < d
 · have e1 : lz (upP p a m) k = (((shA a d k + (p - f) * m k) % p : Nat) : Int) := by
    unfold lz; rw [cut_in _ (by omega), hup, if_pos (by omega)]
   have e2 : lz m k = (m k : Int) := by unfold lz; rw [cut_in _ (by omega)]
   have e3 : (if k = 0 then (0 : Int) else lz a (k - 1)) = (shA a d k : Int) := by
    unfold shA
    by_cases h : k = 0
    · rw [if_pos h, if_neg (by omega)]; rfl
    rw [if_neg h, if_pos (by omega)]; unfold lz; rw [cut_in _ (by omega)]
   rw [e1, e2, e3]
   have := take_dvd (p := p) (A := shA a d k) (c := f) (b := m k) (by omega)
   rwa [show (shA a d k : Int) - (((shA a d k + (p - f) * m k) % p : Nat) : Int) - (f : Int) * (m k : Int) = (shA a d k : Int) - ((f : Int) * (m k : Int) + (((shA a d k + (p - f) * m k) % p : Nat) : Int)) by omega]
 have e1 : lz (upP p a m) k = 0 := by
  unfold lz
  by_cases h : k < 64
  · rw [cut_in _ h, hup, if_neg (by omega)]; rfl
  rw [zcz _ (by omega)]; rfl
 rw [e1]
 by_cases e : k = d
 · subst e
   have e2 : lz m k = (m k : Int) := by unfold lz; rw [cut_in _ d6]
   rw [e2]
   by_cases h : k = 0
   · rw [if_pos h]
     have : a (k - 1) = 0 := by rw [h]; exact zero_above (f := a) (k := 0) (by omega) (by omega)
     rw [this, Nat.zero_mul, Nat.zero_mod] at hfd
     rw [hfd]; exact ⟨0, by simp⟩
   rw [if_neg h]
   have e3 : lz a (k - 1) = (a (k - 1) : Int) := by unfold lz; rw [cut_in _ (by omega)]
   rw [e3]
   have h1 : (f * m k) % p = a (k - 1) := by
    rw [hfd, Nat.mod_mul_mod, Nat.mul_assoc, Nat.mul_mod, i3, Nat.mul_one, Nat.mod_mod, Nat.mod_eq_of_lt (ha _ (by omega))]
   have := mod_dvd p (f * m k)
   rw [h1, Int.natCast_mul] at this
   rwa [Int.sub_zero]
 have e2 : lz m k = 0 := lz_above hd (by omega)
 have e3 : (if k = 0 then (0 : Int) else lz a (k - 1)) = 0 := by
  rw [if_neg (by omega)]
  unfold lz
  by_cases h : k - 1 < 64
  · rw [cut_in _ h, zero_above (f := a) (k := k - 1) (by omega) h]; rfl
  rw [zcz _ (by omega)]; rfl
 rw [e2, e3]; exact ⟨0, by simp⟩
theorem addK_cg {p : Nat} {f g : Nat → Nat} {c : Int} (hp : 0 < p) : cg p (lz (addK p f g c)) (az (lz f) (cz c (lz g))) := by
 intro k
 show (p : Int) ∣ ((cut (addK p f g c) k : Nat) : Int) - (((cut f k : Nat) : Int) + c * ((cut g k : Nat) : Int))
 by_cases hk : k < 64
 · rw [cut_in _ hk, cut_in _ hk, cut_in _ hk]
   unfold addK
   have h1 : 0 ≤ ((f k : Int) + c * (g k : Int)) % (p : Int) := Int.emod_nonneg _ (by omega)
   rw [Int.toNat_of_nonneg h1]
   have := Int.dvd_self_sub_emod (x := (f k : Int) + c * (g k : Int)) (m := (p : Int))
   have h2 := Int.dvd_neg.2 this
   rwa [Int.neg_sub] at h2
 rw [zcz _ (by omega), zcz _ (by omega), zcz _ (by omega)]; exact ⟨0, by simp⟩
theorem addK_lt {p : Nat} {f g : Nat → Nat} {c : Int} (hp : 0 < p) (k : Nat) : addK p f g c k < p := by
 unfold addK
 have h1 : 0 ≤ ((f k : Int) + c * (g k : Int)) % (p : Int) := Int.emod_nonneg _ (by omega)
 have h2 := Int.emod_lt_of_pos ((f k : Int) + c * (g k : Int)) (b := (p : Int)) (by omega)
 omega
def hmR (p : Nat) (a b m : Nat → Nat) (n : Nat) : Nat → Nat → Nat
 | 0 => fun _ => 0
 | j + 1 => resP p (addK p (upP p (hmR p a b m n j) m) a (b (n - j) : Int)) m
theorem hmR_z (p : Nat) (a b m : Nat → Nat) (n : Nat) : hmR p a b m n 0 = fun _ => 0 := rfl
theorem hmR_s (p : Nat) (a b m : Nat → Nat) (n j : Nat) : hmR p a b m n (j + 1) = resP p (addK p (upP p (hmR p a b m n j) m) a (b (n - j) : Int)) m := rfl
def tlS (b : Nat → Nat) (n j : Nat) : Nat → Int := fun k => if k < j then (b (n + 1 - j + k) : Int) else 0
theorem fin_tlS (b : Nat → Nat) (n j : Nat) : fin (tlS b n j) := ⟨j, fun k hk => by unfold tlS; rw [if_neg (by omega)]⟩
theorem hmR_spec {p n : Nat} {a b m : Nat → Nat} (hp : p = 2 ∨ p = 3 ∨ p = 5 ∨ p = 7) (ha : ∀ k, k < 64 → a k < p) (hm : ∀ k, k < 64 → m k < p) (h0 : 0 ≤ deg m) : ∀ j, j ≤ n + 1 →
 (∀ k, k < 64 → hmR p a b m n j k < p) ∧ deg (hmR p a b m n j) < deg m ∧ rm p (lz m) (mz (lz a) (tlS b n j)) (lz (hmR p a b m n j))
 | 0, _ => by
  have hp0 : 0 < p := by omega
  have hz : deg (fun _ => 0) < 0 := deg_neg_iff.2 (fun _ _ => rfl)
  refine ⟨fun _ _ => hp0, by rw [hmR_z]; omega, ?_⟩
  have e : tlS b n 0 = zS := by funext k; unfold tlS zS; rw [if_neg (by omega)]
  rw [e, mz_zS, hmR_z, lz_neg hz]
  exact rm_refl _ _ _
 | j + 1, hj => by
  have hp0 : 0 < p := by omega
  obtain ⟨i1, i2, i3⟩ := hmR_spec (n := n) (b := b) hp ha hm h0 j (by omega)
  have hadd : ∀ k, k < 64 → addK p (upP p (hmR p a b m n j) m) a (b (n - j) : Int) k < p := fun k _ => addK_lt hp0 k
  rw [hmR_s]
  refine ⟨fun k hk => resP_lt hp0 hadd k hk, (resP_deg hp hadd hm h0).1, ?_⟩
  refine rm_trans ?_ (res_rm hp hadd hm h0)
  refine rm_trans ?_ (rm_symm (rm_of_cg (addK_cg hp0)))
  have e : tlS b n (j + 1) = az (mz TS (tlS b n j)) (cz (b (n - j) : Int) oneS) := by
   rw [mz_TS]
   funext k
   unfold tlS az cz oneS
   cases k with
   | zero => simp
   | succ k =>
    simp
    by_cases h : k < j
    · rw [if_pos h, if_pos h]
      congr 1
      congr 1
      omega
    rw [if_neg h, if_neg h]
  rw [e, mz_az2]
  refine rm_az ?_ ?_
  · rw [mz_comm TS, ← mz_assoc, mz_comm _ TS]
    refine rm_trans (rm_mz2 (fin_mz (fin_lz a) (fin_tlS b n j)) fin_TS (rm_refl _ _ _) i3) (upP_rm hp i1 hm h0 i2)
  rw [mz_comm, mz_cz]
  have h1 : mz oneS (lz a) = lz a := mz_one _
  rw [h1]; exact rm_refl _ _ _
theorem hmR_mmP {p n : Nat} {a b m : Nat → Nat} (hp : p = 2 ∨ p = 3 ∨ p = 5 ∨ p = 7) (ha : ∀ k, k < 64 → a k < p) (hm : ∀ k, k < 64 → m k < p) (h0 : 0 ≤ deg m) (hb : deg b + 1 = (n : Int)) : ∀ k, k < 64 → hmR p a b m (n - 1) n k = mmP p a b m k := by
 have hp0 : 0 < p := by omega
 obtain ⟨b1, b2⟩ := zdb b
 have key : (∀ k, k < 64 → hmR p a b m (n - 1) n k < p) ∧ deg (hmR p a b m (n - 1) n) < deg m ∧ rm p (lz m) (mz (lz a) (tlS b (n - 1) n)) (lz (hmR p a b m (n - 1) n)) := hmR_spec hp ha hm h0 n (by omega)
 obtain ⟨i1, i2, i3⟩ := key
 have e : tlS b (n - 1) n = lz b := by
  funext k; unfold tlS lz
  by_cases h : k < n
  · rw [if_pos h, cut_in b (by omega)]; congr 2; omega
  rw [if_neg h]
  by_cases hk : k < 64
  · rw [cut_in b hk, zero_above (f := b) (k := k) (by omega) hk]; rfl
  rw [zcz b (by omega)]; rfl
 rw [e] at i3
 obtain ⟨d, hd⟩ : ∃ d : Nat, deg m = (d : Int) := ⟨(deg m).toNat, by omega⟩
 obtain ⟨d6, m2, m3⟩ := deg_top hd
 obtain ⟨_, _, iv3, _⟩ := invF hp m2 (hm d d6)
 have low : ∀ (f : Nat → Nat), deg f < (d : Int) → ∀ k, d ≤ k → lz f k = 0 := by
  intro f hf k hk
  unfold lz
  by_cases hk2 : k < 64
  · rw [cut_in _ hk2, zero_above (f := f) (k := k) (by omega) hk2]; rfl
  rw [zcz _ (by omega)]; rfl
 have hu := rm_unique (d := d) (v := (invN p (m d) : Int)) (m := lz m) (f := lz (hmR p a b m (n - 1) n)) (g := lz (mmP p a b m)) (p := p) (by
  unfold lz; rw [cut_in m d6]
  have := mod_dvd p (invN p (m d) * m d)
  rw [iv3] at this
  obtain ⟨x, hx⟩ := this
  rw [Int.natCast_mul, Int.mul_comm] at hx
  exact ⟨-x, by rw [Int.mul_neg]; omega⟩) (fun k hk => lz_above hd hk) (fun k hk => by
  rw [low _ (by omega) k hk, low _ (by have := mmP_deg (a := a) (b := b) hp hm h0; omega) k hk]; exact ⟨0, by omega⟩) (rm_trans (rm_symm i3) (mmP_rm hp hm h0))
 exact lz_inj i1 (fun k hk => mmP_lt hp0 k (by omega)) hu
end Go.Proofs.Yteloknnooebabaa
end
namespace Go.Proofs.Yteloknnooebabaa
open Go.RowKit
attribute [local irreducible] deg invN dS qS stp stpr quoP resP oneP
def monUp (c : Int) (f : Nat → Nat) : Bool := decide (1 ≤ deg f ∧ deg f ≤ c ∧ f (deg f).toNat = 1)
def monB (f : Nat → Nat) : Bool := decide (0 ≤ deg f ∧ f (deg f).toNat = 1)
theorem monUp_no1 {c : Int} {f : Nat → Nat} (h : ¬ 1 ≤ deg f) : monUp c f = false := by unfold monUp; simp; intro h2; omega
theorem monUp_no2 {c : Int} {f : Nat → Nat} (h : ¬ deg f ≤ c) : monUp c f = false := by unfold monUp; simp; intro _ h2; omega
theorem monUp_at {c : Int} {f : Nat → Nat} {m : Nat} (hm : deg f = (m : Int)) (h1 : 1 ≤ m) (h2 : (m : Int) ≤ c) : monUp c f = ((f m : Int) == 1) := by
 unfold monUp
 rw [hm, Int.toNat_natCast, Bool.eq_iff_iff]
 simp
 omega
theorem monB_no {f : Nat → Nat} (h : ¬ 0 ≤ deg f) : monB f = false := by unfold monB; simp; intro h2; omega
theorem monB_at {f : Nat → Nat} {m : Nat} (hm : deg f = (m : Int)) : monB f = ((f m : Int) == 1) := by
 unfold monB
 rw [hm, Int.toNat_natCast, Bool.eq_iff_iff]
 simp
 omega
theorem monUp_B {c : Int} {f : Nat → Nat} : monUp c f = (monB f && decide (1 ≤ deg f ∧ deg f ≤ c)) := by
 unfold monUp monB
 rw [Bool.eq_iff_iff]
 simp
 constructor
 · rintro ⟨a, b, c⟩; exact ⟨⟨by omega, c⟩, a, b⟩
 rintro ⟨⟨a, b⟩, c, d⟩; exact ⟨c, d, b⟩
theorem mon_up {c : Int} {f : Nat → Nat} (h : monUp c f = true) : ∃ d : Nat, mon f d ∧ 1 ≤ d ∧ (d : Int) ≤ c := by
 unfold monUp at h
 simp at h
 obtain ⟨d, hd⟩ : ∃ d : Nat, deg f = (d : Int) := ⟨(deg f).toNat, by omega⟩
 refine ⟨d, ⟨hd, ?_⟩, by omega, by omega⟩
 have := h.2.2
 rwa [hd, Int.toNat_natCast] at this
theorem isMonicUpTo_any (c : Int) (f : Nat → Nat) (hf : byte f) (w : World) (c1 : 0 ≤ c) (c2 : c ≤ 63) :
 Calls Try.prog 132 #[.int .i64 c, .agg (zb 64 f)] w fun e w' => e = .returned (.bool (monUp c f)) ∧ Below w.heap.size w w' := by
 obtain ⟨fb1, fb2⟩ := zdb f
 go_enter Try.func132, Try.ntmps132
 go_upto_region 1 with (fail)
 obtain ⟨W1, hwo⟩ : ∃ v : World, v = (w.alloc (.cells (zb 64 (f)) 24)) := ⟨_, rfl⟩
 have B0 : Blk W1 (w.heap.size) 64 24 (f) := by subst hwo; have := (Blk.new w 64 24 (f)); simpa using this
 have hb : Below w.heap.size w W1 := by subst hwo; exact ((Below.refl _ _).alloc (Nat.le_refl _) _)
 rw [← hwo]
 clear hwo
 go_upto_region 2 with (first | (refine zla (.tmp 3) B0 Try.underlying24 Try.size24 ?_) | (go_at_call 150; refine (degree_any f _).mono ?_; rintro e W2 ⟨rfl, hW2⟩; replace B0 := B0.zw hW2; replace hb := (hb).trans (hW2.mono (hb).size)))
 by_cases h1 : 1 ≤ deg f
 · by_cases h2 : deg f ≤ c
   · obtain ⟨m, hm⟩ : ∃ m : Nat, deg f = (m : Int) := ⟨(deg f).toNat, by omega⟩
     have HV := Lib.hid (monUp_at (c := c) hm (by omega) (by omega))
     rw [hm]
     have cc := B0.cell (i := m) (by omega)
     have hfm := hf m
     have g1 : (1 : Int) ≤ (m : Int) := by omega
     have g2 : (m : Int) ≤ c := by omega
     have g3 : m < 64 := by omega
     clear hm h1 h2
     go_wp2_with fail
     go_ret
     exact ⟨ret_bool HV.out.symm, hb⟩
   have HV := Lib.hid (monUp_no2 (c := c) h2)
   have h3 : c < deg f := by omega
   clear h2
   go_wp2_with fail
   go_ret
   exact ⟨ret_bool HV.out.symm, hb⟩
 have HV := Lib.hid (monUp_no1 (c := c) h1)
 have h3 : deg f < 1 := by omega
 clear h1
 go_wp2_with fail
 go_ret
 exact ⟨ret_bool HV.out.symm, hb⟩
theorem l01Monic_any (f : Nat → Nat) (hf : byte f) (w : World) : Calls Try.prog 123 #[.agg (zb 64 f)] w fun e w' => e = .returned (.bool (monB f)) ∧ Below w.heap.size w w' := by
 obtain ⟨fb1, fb2⟩ := zdb f
 go_enter Try.func123, Try.ntmps123
 go_upto_region 1 with (fail)
 obtain ⟨W1, hwo⟩ : ∃ v : World, v = (w.alloc (.cells (zb 64 (f)) 24)) := ⟨_, rfl⟩
 have B0 : Blk W1 (w.heap.size) 64 24 (f) := by subst hwo; have := (Blk.new w 64 24 (f)); simpa using this
 have hb : Below w.heap.size w W1 := by subst hwo; exact ((Below.refl _ _).alloc (Nat.le_refl _) _)
 rw [← hwo]
 clear hwo
 go_upto_region 2 with (first | (refine zla (.tmp 1) B0 Try.underlying24 Try.size24 ?_) | (go_at_call 124; refine (l01Deg_any f _).mono ?_; rintro e W2 ⟨rfl, hW2⟩; replace B0 := B0.zw hW2; replace hb := (hb).trans (hW2.mono (hb).size)))
 by_cases h1 : 0 ≤ deg f
 · obtain ⟨m, hm⟩ : ∃ m : Nat, deg f = (m : Int) := ⟨(deg f).toNat, by omega⟩
   have HV := Lib.hid (monB_at hm)
   rw [hm]
   have cc := B0.cell (i := m) (by omega)
   have hfm := hf m
   have g3 : m < 64 := by omega
   clear hm h1
   go_wp2_with fail
   go_ret
   exact ⟨ret_bool HV.out.symm, hb⟩
 have HV := Lib.hid (monB_no h1)
 have h3 : deg f < 0 := by omega
 clear h1
 go_wp2_with fail
 go_ret
 exact ⟨ret_bool HV.out.symm, hb⟩
end Go.Proofs.Yteloknnooebabaa
namespace Go.Proofs.Yteloknnooebabaa
open Go.RowKit
attribute [local irreducible] deg invN dS qS stp stpr quoP resP oneP
theorem l01Mod_any (p : Nat) (f m : Nat → Nat) (w : World) (hpr : p = 2 ∨ p = 3 ∨ p = 5 ∨ p = 7) (lf : ∀ k, k < 64 → f k < p) (lm : ∀ k, k < 64 → m k < p) (h0 : 0 ≤ deg m) :
 Calls Try.prog 129 #[.int .i64 (p : Int), .agg (zb 64 f), .agg (zb 64 m)] w fun e w' => e = .returned (.agg (zb 64 (resP p f m))) ∧ Below w.heap.size w w' := by
 go_enter Try.func129, Try.ntmps129
 go_upto_region 1 with (fail)
 rw [← z64]
 obtain ⟨W1, hwo⟩ : ∃ v : World, v = (((w.alloc (.cells (zb 64 (f)) 24)).alloc (.cells (zb 64 (m)) 24)).alloc (.cells (zb 64 fun _ => 0) 24)) := ⟨_, rfl⟩
 have B0 : Blk W1 (w.heap.size) 64 24 (f) := by subst hwo; have := (((Blk.new w 64 24 (f)).alloc (.cells (zb 64 (m)) 24)).alloc (.cells (zb 64 fun _ => 0) 24)); simpa using this
 have B1 : Blk W1 (w.heap.size + 1) 64 24 (m) := by subst hwo; have := ((Blk.new (w.alloc (.cells (zb 64 (f)) 24)) 64 24 (m)).alloc (.cells (zb 64 fun _ => 0) 24)); simpa using this
 have B2 : Blk W1 (w.heap.size + 1 + 1) 64 24 (fun _ => 0) := by subst hwo; have := (Blk.new ((w.alloc (.cells (zb 64 (f)) 24)).alloc (.cells (zb 64 (m)) 24)) 64 24 (fun _ => 0)); simpa using this
 have hb : Below w.heap.size w W1 := by subst hwo; exact ((((Below.refl _ _).alloc (Nat.le_refl _) _).alloc (by simp) _).alloc (by simp; omega) _)
 rw [← hwo]
 clear hwo
 have lt_B0 := B0.lt
 have lt_B1 := B1.lt
 have lt_B2 := B2.lt
 go_upto_region 2 with (first | rw [← z64] | (refine zla (.tmp 4) B0 Try.underlying24 Try.size24 ?_) | (refine zla (.tmp 5) B1 Try.underlying24 Try.size24 ?_) | (go_at_call 130; refine (l01Divide_any p f m _ hpr lf lm h0).mono ?_; rintro e W2 ⟨rfl, hW2⟩; replace B0 := B0.zw hW2; replace B1 := B1.zw hW2; replace B2 := B2.zw hW2; replace hb := (hb).trans (hW2.mono (hb).size)) | (refine wpList_store_blk rfl 24 (.tmp 7) (.tmp 14) rfl _ 64 (quoP p f m) rfl rfl 24 _ (((Blk.new W2 64 24 (fun _ => 0)).alloc (.cells (zb 64 fun _ => 0) 24))) Try.size24 ?_; try simp only [Act.put]) | (refine wpList_store_blk rfl 24 (.tmp 8) (.tmp 15) rfl _ 64 (resP p f m) rfl rfl 24 _ (((show Blk ((W2.alloc (.cells (zb 64 fun _ => 0) 24)).alloc (.cells (zb 64 fun _ => 0) 24)) (W2.heap.size + 1) 64 24 (fun _ => 0) by have := Blk.new (W2.alloc (.cells (zb 64 fun _ => 0) 24)) 64 24 (fun _ => 0); simpa using this).rowOther (by omega))) Try.size24 ?_; try simp only [Act.put]))
 have lt_B0 := B0.lt
 have lt_B1 := B1.lt
 have lt_B2 := B2.lt
 have lhb := hb.size
 obtain ⟨W3, hwo, hzQ⟩ : ∃ v : World, v = ((((W2.alloc (.cells (zb 64 fun _ => 0) 24)).alloc (.cells (zb 64 fun _ => 0) 24)).setRow (W2.heap.size) (zb 64 (quoP p f m))).setRow (W2.heap.size + 1) (zb 64 (resP p f m))) ∧ Blk v (w.heap.size) 64 24 (f) ∧ Blk v (w.heap.size + 1) 64 24 (m) ∧ Blk v (w.heap.size + 1 + 1) 64 24 (fun _ => 0) ∧ Blk v (W2.heap.size) 64 24 (quoP p f m) ∧ Blk v (W2.heap.size + 1) 64 24 (resP p f m) ∧ Below w.heap.size w v := ⟨_, rfl, ((((B0.alloc (.cells (zb 64 fun _ => 0) 24)).alloc (.cells (zb 64 fun _ => 0) 24)).rowOther (by omega)).rowOther (by omega)), ((((B1.alloc (.cells (zb 64 fun _ => 0) 24)).alloc (.cells (zb 64 fun _ => 0) 24)).rowOther (by omega)).rowOther (by omega)), ((((B2.alloc (.cells (zb 64 fun _ => 0) 24)).alloc (.cells (zb 64 fun _ => 0) 24)).rowOther (by omega)).rowOther (by omega)), ((((Blk.new W2 64 24 (fun _ => 0)).alloc (.cells (zb 64 fun _ => 0) 24)).row (quoP p f m)).rowOther (by omega)), (((show Blk ((W2.alloc (.cells (zb 64 fun _ => 0) 24)).alloc (.cells (zb 64 fun _ => 0) 24)) (W2.heap.size + 1) 64 24 (fun _ => 0) by have := Blk.new (W2.alloc (.cells (zb 64 fun _ => 0) 24)) 64 24 (fun _ => 0); simpa using this).rowOther (by omega)).row (resP p f m)), (zr (zr ((hb.alloc (by have := hb.size; simp; omega) (.cells (zb 64 fun _ => 0) 24)).alloc (by have := hb.size; simp; omega) (.cells (zb 64 fun _ => 0) 24)) (by omega) _) (by omega) _)⟩
 rw [← hwo]
 clear hwo B0 B1 B2 hb
 obtain ⟨B0, B1, B2, B3, B4, hb⟩ := hzQ
 obtain ⟨N1, hNN⟩ : ∃ n : Nat, n = W2.heap.size := ⟨_, rfl⟩
 rw [← hNN] at lt_B0 lt_B1 lt_B2 lhb B3 B4 ⊢
 clear hNN
 have zN1_0 := lt_B0
 have zN1_1 := lt_B1
 have zN1_2 := lt_B2
 have zN1 := lhb
 clear lt_B0 lt_B1 lt_B2 lhb
 try simp only [Act.put, pA, pB, pC]
 have lt_B0 := B0.lt
 have lt_B1 := B1.lt
 have lt_B2 := B2.lt
 have lt_B3 := B3.lt
 have lt_B4 := B4.lt
 go_wp2_with (first | rw [← z64] | (refine zla (.tmp 8) B4 Try.underlying24 Try.size24 ?_) | (refine zsr (.tmp 6) (.tmp 16) (resP p f m) B2 Try.size24 ?_; try simp only [Act.put]))
 obtain ⟨W4, hwo, hzQ⟩ : ∃ v : World, v = (W3.setRow (w.heap.size + 1 + 1) (zb 64 (resP p f m))) ∧ Blk v (w.heap.size) 64 24 (f) ∧ Blk v (w.heap.size + 1) 64 24 (m) ∧ Blk v (w.heap.size + 1 + 1) 64 24 (resP p f m) ∧ Blk v (N1) 64 24 (quoP p f m) ∧ Blk v (N1 + 1) 64 24 (resP p f m) ∧ Below w.heap.size w v := ⟨_, rfl, (B0.rowOther (by omega)), (B1.rowOther (by omega)), (B2.row (resP p f m)), (B3.rowOther (by omega)), (B4.rowOther (by omega)), (zr hb (by omega) _)⟩
 rw [← hwo]
 clear hwo B0 B1 B2 B3 B4 hb
 obtain ⟨B0, B1, B2, B3, B4, hb⟩ := hzQ
 try simp only [Act.put, pA, pB, pC]
 refine bodyPost_ret (zrb rfl _ _ _ 64 24 5 _ rfl B2 Try.underlying24 Try.size24) rfl ⟨rfl, hb⟩
end Go.Proofs.Yteloknnooebabaa
namespace Go.Proofs.Yteloknnooebabaa
open Go.RowKit
attribute [local irreducible] deg invN dS qS stp stpr quoP resP oneP upP upF hmR mmP shA
theorem restOf_any (p : Nat) (f m : Nat → Nat) (w : World) (hpr : p = 2 ∨ p = 3 ∨ p = 5 ∨ p = 7) (lf : ∀ k, k < 64 → f k < p) (lm : ∀ k, k < 64 → m k < p) (h0 : 0 ≤ deg m) :
 Calls Try.prog 121 #[.int .i64 (p : Int), .agg (zb 64 f), .agg (zb 64 m)] w fun e w' => e = .returned (.agg (zb 64 (resP p f m))) ∧ Below w.heap.size w w' := by
 go_enter Try.func121, Try.ntmps121
 go_upto_region 1 with (fail)
 rw [← z64]
 obtain ⟨W1, hwo⟩ : ∃ v : World, v = (((w.alloc (.cells (zb 64 (f)) 24)).alloc (.cells (zb 64 (m)) 24)).alloc (.cells (zb 64 fun _ => 0) 24)) := ⟨_, rfl⟩
 have B0 : Blk W1 (w.heap.size) 64 24 (f) := by subst hwo; have := (((Blk.new w 64 24 (f)).alloc (.cells (zb 64 (m)) 24)).alloc (.cells (zb 64 fun _ => 0) 24)); simpa using this
 have B1 : Blk W1 (w.heap.size + 1) 64 24 (m) := by subst hwo; have := ((Blk.new (w.alloc (.cells (zb 64 (f)) 24)) 64 24 (m)).alloc (.cells (zb 64 fun _ => 0) 24)); simpa using this
 have B2 : Blk W1 (w.heap.size + 1 + 1) 64 24 (fun _ => 0) := by subst hwo; have := (Blk.new ((w.alloc (.cells (zb 64 (f)) 24)).alloc (.cells (zb 64 (m)) 24)) 64 24 (fun _ => 0)); simpa using this
 have hb : Below w.heap.size w W1 := by subst hwo; exact ((((Below.refl _ _).alloc (Nat.le_refl _) _).alloc (by simp) _).alloc (by simp; omega) _)
 rw [← hwo]
 clear hwo
 have lt_B0 := B0.lt
 have lt_B1 := B1.lt
 have lt_B2 := B2.lt
 go_upto_region 2 with (first | rw [← z64] | (refine zla (.tmp 4) B0 Try.underlying24 Try.size24 ?_) | (refine zla (.tmp 5) B1 Try.underlying24 Try.size24 ?_) | (go_at_call 136; refine (quotientAndRest_any p f m _ hpr lf lm h0).mono ?_; rintro e W2 ⟨rfl, hW2⟩; replace B0 := B0.zw hW2; replace B1 := B1.zw hW2; replace B2 := B2.zw hW2; replace hb := (hb).trans (hW2.mono (hb).size)) | (refine wpList_store_blk rfl 24 (.tmp 7) (.tmp 14) rfl _ 64 (quoP p f m) rfl rfl 24 _ (((Blk.new W2 64 24 (fun _ => 0)).alloc (.cells (zb 64 fun _ => 0) 24))) Try.size24 ?_; try simp only [Act.put]) | (refine wpList_store_blk rfl 24 (.tmp 8) (.tmp 15) rfl _ 64 (resP p f m) rfl rfl 24 _ (((show Blk ((W2.alloc (.cells (zb 64 fun _ => 0) 24)).alloc (.cells (zb 64 fun _ => 0) 24)) (W2.heap.size + 1) 64 24 (fun _ => 0) by have := Blk.new (W2.alloc (.cells (zb 64 fun _ => 0) 24)) 64 24 (fun _ => 0); simpa using this).rowOther (by omega))) Try.size24 ?_; try simp only [Act.put]))
 have lt_B0 := B0.lt
 have lt_B1 := B1.lt
 have lt_B2 := B2.lt
 have lhb := hb.size
 obtain ⟨W3, hwo, hzQ⟩ : ∃ v : World, v = ((((W2.alloc (.cells (zb 64 fun _ => 0) 24)).alloc (.cells (zb 64 fun _ => 0) 24)).setRow (W2.heap.size) (zb 64 (quoP p f m))).setRow (W2.heap.size + 1) (zb 64 (resP p f m))) ∧ Blk v (w.heap.size) 64 24 (f) ∧ Blk v (w.heap.size + 1) 64 24 (m) ∧ Blk v (w.heap.size + 1 + 1) 64 24 (fun _ => 0) ∧ Blk v (W2.heap.size) 64 24 (quoP p f m) ∧ Blk v (W2.heap.size + 1) 64 24 (resP p f m) ∧ Below w.heap.size w v := ⟨_, rfl, ((((B0.alloc (.cells (zb 64 fun _ => 0) 24)).alloc (.cells (zb 64 fun _ => 0) 24)).rowOther (by omega)).rowOther (by omega)), ((((B1.alloc (.cells (zb 64 fun _ => 0) 24)).alloc (.cells (zb 64 fun _ => 0) 24)).rowOther (by omega)).rowOther (by omega)), ((((B2.alloc (.cells (zb 64 fun _ => 0) 24)).alloc (.cells (zb 64 fun _ => 0) 24)).rowOther (by omega)).rowOther (by omega)), ((((Blk.new W2 64 24 (fun _ => 0)).alloc (.cells (zb 64 fun _ => 0) 24)).row (quoP p f m)).rowOther (by omega)), (((show Blk ((W2.alloc (.cells (zb 64 fun _ => 0) 24)).alloc (.cells (zb 64 fun _ => 0) 24)) (W2.heap.size + 1) 64 24 (fun _ => 0) by have := Blk.new (W2.alloc (.cells (zb 64 fun _ => 0) 24)) 64 24 (fun _ => 0); simpa using this).rowOther (by omega)).row (resP p f m)), (zr (zr ((hb.alloc (by have := hb.size; simp; omega) (.cells (zb 64 fun _ => 0) 24)).alloc (by have := hb.size; simp; omega) (.cells (zb 64 fun _ => 0) 24)) (by omega) _) (by omega) _)⟩
 rw [← hwo]
 clear hwo B0 B1 B2 hb
 obtain ⟨B0, B1, B2, B3, B4, hb⟩ := hzQ
 obtain ⟨N1, hNN⟩ : ∃ n : Nat, n = W2.heap.size := ⟨_, rfl⟩
 rw [← hNN] at lt_B0 lt_B1 lt_B2 lhb B3 B4 ⊢
 clear hNN
 have zN1_0 := lt_B0
 have zN1_1 := lt_B1
 have zN1_2 := lt_B2
 have zN1 := lhb
 clear lt_B0 lt_B1 lt_B2 lhb
 try simp only [Act.put, pA, pB, pC]
 have lt_B0 := B0.lt
 have lt_B1 := B1.lt
 have lt_B2 := B2.lt
 have lt_B3 := B3.lt
 have lt_B4 := B4.lt
 go_wp2_with (first | rw [← z64] | (refine zla (.tmp 8) B4 Try.underlying24 Try.size24 ?_) | (refine zsr (.tmp 6) (.tmp 16) (resP p f m) B2 Try.size24 ?_; try simp only [Act.put]))
 obtain ⟨W4, hwo, hzQ⟩ : ∃ v : World, v = (W3.setRow (w.heap.size + 1 + 1) (zb 64 (resP p f m))) ∧ Blk v (w.heap.size) 64 24 (f) ∧ Blk v (w.heap.size + 1) 64 24 (m) ∧ Blk v (w.heap.size + 1 + 1) 64 24 (resP p f m) ∧ Blk v (N1) 64 24 (quoP p f m) ∧ Blk v (N1 + 1) 64 24 (resP p f m) ∧ Below w.heap.size w v := ⟨_, rfl, (B0.rowOther (by omega)), (B1.rowOther (by omega)), (B2.row (resP p f m)), (B3.rowOther (by omega)), (B4.rowOther (by omega)), (zr hb (by omega) _)⟩
 rw [← hwo]
 clear hwo B0 B1 B2 B3 B4 hb
 obtain ⟨B0, B1, B2, B3, B4, hb⟩ := hzQ
 try simp only [Act.put, pA, pB, pC]
 refine bodyPost_ret (zrb rfl _ _ _ 64 24 5 _ rfl B2 Try.underlying24 Try.size24) rfl ⟨rfl, hb⟩
theorem l01Up_any (p : Nat) (f m : Nat → Nat) (w : World) (hpr : p = 2 ∨ p = 3 ∨ p = 5 ∨ p = 7) (lf : ∀ k, k < 64 → f k < p) (lm : ∀ k, k < 64 → m k < p) (h0 : 0 ≤ deg m) :
 Calls Try.prog 227 #[.int .i64 (p : Int), .agg (zb 64 f), .agg (zb 64 m)] w fun e w' => e = .returned (.agg (zb 64 (upP p f m))) ∧ Below w.heap.size w w' := by
 have p2 : 2 ≤ p := by omega
 have p7 : p ≤ 7 := by omega
 obtain ⟨d, hd⟩ : ∃ d : Nat, deg m = (d : Int) := ⟨(deg m).toNat, by omega⟩
 obtain ⟨d6, md, _⟩ := deg_top hd
 have HD := Lib.hid hd
 clear h0 hd
 go_enter Try.func227, Try.ntmps227
 go_upto_region 1 with (fail)
 rw [← z64]
 obtain ⟨W1, hwo⟩ : ∃ v : World, v = (((w.alloc (.cells (zb 64 (f)) 24)).alloc (.cells (zb 64 (m)) 24)).alloc (.cells (zb 64 fun _ => 0) 24)) := ⟨_, rfl⟩
 have B0 : Blk W1 (w.heap.size) 64 24 (f) := by subst hwo; have := (((Blk.new w 64 24 (f)).alloc (.cells (zb 64 (m)) 24)).alloc (.cells (zb 64 fun _ => 0) 24)); simpa using this
 have B1 : Blk W1 (w.heap.size + 1) 64 24 (m) := by subst hwo; have := ((Blk.new (w.alloc (.cells (zb 64 (f)) 24)) 64 24 (m)).alloc (.cells (zb 64 fun _ => 0) 24)); simpa using this
 have B2 : Blk W1 (w.heap.size + 1 + 1) 64 24 (fun _ => 0) := by subst hwo; have := (Blk.new ((w.alloc (.cells (zb 64 (f)) 24)).alloc (.cells (zb 64 (m)) 24)) 64 24 (fun _ => 0)); simpa using this
 have hb : Below w.heap.size w W1 := by subst hwo; exact ((((Below.refl _ _).alloc (Nat.le_refl _) _).alloc (by simp) _).alloc (by simp; omega) _)
 rw [← hwo]
 clear hwo
 go_upto_region 2 with (first | (refine zla (.tmp 5) B1 Try.underlying24 Try.size24 ?_) | (go_at_call 124; refine (l01Deg_any m _).mono ?_; rintro e W2 ⟨rfl, hW2⟩; replace B0 := B0.zw hW2; replace B1 := B1.zw hW2; replace B2 := B2.zw hW2; replace hb := (hb).trans (hW2.mono (hb).size); rw [HD.out]))
 by_cases hd0 : d = 0
 · have HV := Lib.hid (show zb 64 (upP p f m) = zb 64 (fun _ => 0) from zbc (fun i _ => by unfold upP; rw [HD.out, if_neg (by omega)]))
   subst hd0
   go_upto_region 3 with (fail)
   have lt_B0 := B0.lt
   have lt_B1 := B1.lt
   have lt_B2 := B2.lt
   go_wp2_with (first | rw [← z64] | (refine zsr (.tmp 6) (.tmp 17) (fun _ => 0) B2 Try.size24 ?_; try simp only [Act.put]))
   obtain ⟨W3, hwo, hzQ⟩ : ∃ v : World, v = (W2.setRow (w.heap.size + 1 + 1) (zb 64 (fun _ => 0))) ∧ Blk v (w.heap.size) 64 24 (f) ∧ Blk v (w.heap.size + 1) 64 24 (m) ∧ Blk v (w.heap.size + 1 + 1) 64 24 (fun _ => 0) ∧ Below w.heap.size w v := ⟨_, rfl, (B0.rowOther (by omega)), (B1.rowOther (by omega)), (B2.row (fun _ => 0)), (zr hb (by omega) _)⟩
   rw [← hwo]
   clear hwo B0 B1 B2 hb
   obtain ⟨B0, B1, B2, hb⟩ := hzQ
   try simp only [Act.put, pA, pB, pC]
   refine bodyPost_ret (zrb rfl _ _ _ 64 24 5 _ rfl B2 Try.underlying24 Try.size24) rfl ⟨by rw [HV.out], hb⟩
 obtain ⟨D, rfl⟩ : ∃ D, d = D + 1 := ⟨d - 1, by omega⟩
 have e1 : ((D + 1 : Nat) : Int) = (D : Int) + 1 := by push_cast; rfl
 have HE := Lib.hid e1
 rw [e1]
 clear e1
 have cc := B0.cell (i := D) (by omega)
 have hfD := lf D (by omega)
 go_upto_region 4 with (fail)
 have lt_B0 := B0.lt
 have lt_B1 := B1.lt
 have lt_B2 := B2.lt
 go_upto_region 5 with (first | rw [← z64] | (refine wpList_store_blk rfl 24 (.tmp 9) (.tmp 23) rfl _ 64 (fun _ => 0) rfl rfl 24 _ ((Blk.new W2 64 24 (fun _ => 0))) Try.size24 ?_; try simp only [Act.put]))
 have lt_B0 := B0.lt
 have lt_B1 := B1.lt
 have lt_B2 := B2.lt
 have lhb := hb.size
 obtain ⟨W3, hwo, hzQ⟩ : ∃ v : World, v = ((W2.alloc (.cells (zb 64 fun _ => 0) 24)).setRow (W2.heap.size) (zb 64 (fun _ => 0))) ∧ Blk v (w.heap.size) 64 24 (f) ∧ Blk v (w.heap.size + 1) 64 24 (m) ∧ Blk v (w.heap.size + 1 + 1) 64 24 (fun _ => 0) ∧ Blk v (W2.heap.size) 64 24 (fun _ => 0) ∧ Below w.heap.size w v := ⟨_, rfl, ((B0.alloc (.cells (zb 64 fun _ => 0) 24)).rowOther (by omega)), ((B1.alloc (.cells (zb 64 fun _ => 0) 24)).rowOther (by omega)), ((B2.alloc (.cells (zb 64 fun _ => 0) 24)).rowOther (by omega)), ((Blk.new W2 64 24 (fun _ => 0)).row (fun _ => 0)), (zr (hb.alloc (by have := hb.size; simp; omega) (.cells (zb 64 fun _ => 0) 24)) (by omega) _)⟩
 rw [← hwo]
 clear hwo B0 B1 B2 hb
 obtain ⟨B0, B1, B2, B3, hb⟩ := hzQ
 obtain ⟨N1, hNN⟩ : ∃ n : Nat, n = W2.heap.size := ⟨_, rfl⟩
 rw [← hNN] at lt_B0 lt_B1 lt_B2 lhb B3 ⊢
 clear hNN
 have zN1_0 := lt_B0
 have zN1_1 := lt_B1
 have zN1_2 := lt_B2
 have zN1 := lhb
 clear lt_B0 lt_B1 lt_B2 lhb
 try simp only [Act.put, pA, pB, pC]
 clear cc
 go_wp2_with fail
 go_loopw [10] (fun i wr => ∃ k : Nat, 1 ≤ k ∧ k ≤ D + 1 ∧ i = .int .i64 (k : Int) ∧ Below w.heap.size w wr ∧ Blk wr w.heap.size 64 24 f ∧ Blk wr (w.heap.size + 1) 64 24 m ∧ Blk wr (w.heap.size + 1 + 1) 64 24 (fun _ => 0) ∧ Blk wr N1 64 24 (shA f k)) (fun i _ => D + 1 - (intOf i).toNat)
 case atStart => exact ⟨1, by omega, by omega, rfl, hb, B0, B1, B2, B3.congr (fun i _ => by unfold shA; rw [if_neg (by omega)])⟩
 case round =>
  clear hb B0 B1 B2 B3
  obtain ⟨k, hk1, hk2, rfl, hb, B0, B1, B2, B3⟩ := hrel
  by_cases hlt : k < D + 1
  · obtain ⟨j, rfl⟩ : ∃ j, k = j + 1 := ⟨k - 1, by omega⟩
    have c1 := B0.cell (i := j) (by omega)
    have c2 := B3.cell (i := j + 1) (by omega)
    have z2 := B3.frozen (j + 1)
    have hfj := lf j (by omega)
    have e1 : ((j + 1 : Nat) : Int) = (j : Int) + 1 := by push_cast; rfl
    have HJ := Lib.hid e1
    rw [e1]
    clear e1
    have hltI : (j : Int) + 1 < (D : Int) + 1 := by omega
    go_wp2_with fail
    go_roundw
    case rel =>
     refine ⟨j + 1 + 1, by omega, by omega, by rw [show ((j + 1 + 1 : Nat) : Int) = (j : Int) + 1 + 1 by omega], hb.setCell (by simp; omega) _, B0.setOther (by simp; omega), B1.setOther (by simp; omega), B2.setOther (by simp; omega), ?_⟩
     refine (B3.set (v := f j) rfl).congr (fun i _ => ?_)
     unfold upd shA
     by_cases h : i = j + 1
     · subst h; rw [if_pos rfl, if_pos (by omega), show j + 1 - 1 = j by omega]
     rw [if_neg h]
     by_cases h2 : 1 ≤ i ∧ i < j + 1
     · rw [if_pos h2, if_pos (by omega)]
     rw [if_neg h2, if_neg (by omega)]
    case measure => simp [intOf] <;> omega
  obtain rfl : k = D + 1 := by omega
  have cm := B1.cell (i := D + 1) (by omega)
  have hmD := lm (D + 1) d6
  obtain ⟨iv1, iv2, iv3, _⟩ := invF hpr md hmD
  obtain ⟨inv, hinv⟩ : ∃ v, v = invN p (m (D + 1)) := ⟨_, rfl⟩
  have HN := Lib.hid (fun W => l01Inverse_any p (m (D + 1)) W hpr md hmD)
  rw [← hinv] at iv1 iv2 iv3 HN
  obtain ⟨m1, m2⟩ := small_nat_mul p7 hfD iv2
  obtain ⟨F, hF⟩ : ∃ F, F = f D * inv % p := ⟨_, rfl⟩
  have hFp : F < p := by rw [hF]; exact Nat.mod_lt _ (by omega)
  have hFe : ((f D : Int) * (inv : Int)).tmod (p : Int) = (F : Int) := by rw [hF, Int.tmod_eq_emod_of_nonneg m2]; push_cast; rfl
  have hFe2 : (f D : Int) * (inv : Int) % (p : Int) = (F : Int) := by rw [hF]; push_cast; rfl
  have HUF := Lib.hid (show upF p f m = F by unfold upF; rw [HD.out, Int.toNat_natCast, ← hinv, hF]; rfl)
  have HI := Lib.hid (And.intro hinv hF)
  clear hinv hF iv3
  go_wp2_with (go_at_call 176; refine (HN.out _).mono ?_; rintro e wS ⟨rfl, rfl⟩)
  clear cm hFe hFe2 m1 m2 HN
  go_loopw [12] (fun i wr => ∃ k : Nat, k ≤ D + 1 ∧ i = .int .i64 (k : Int) ∧ Below w.heap.size w wr ∧ Blk wr w.heap.size 64 24 f ∧ Blk wr (w.heap.size + 1) 64 24 m ∧ Blk wr (w.heap.size + 1 + 1) 64 24 (fun _ => 0) ∧ Blk wr N1 64 24 (fun i => if i < k then upP p f m i else shA f (D + 1) i)) (fun i _ => D + 1 - (intOf i).toNat)
  case atStart => exact ⟨0, by omega, rfl, hb, B0, B1, B2, B3.congr (fun i _ => by rw [if_neg (by omega)])⟩
  case round =>
   clear hb B0 B1 B2 B3
   obtain ⟨k, hk, rfl, hb, B0, B1, B2, B3⟩ := hrel
   by_cases hlt : k < D + 1
   · have c4 := B3.cell (i := k) (by omega)
     rw [if_neg (Nat.lt_irrefl k)] at c4
     have c5 := B1.cell (i := k) (by omega)
     have z4 := B3.frozen k
     obtain ⟨A, hA⟩ : ∃ A, A = shA f (D + 1) k := ⟨_, rfl⟩
     obtain ⟨M, hM⟩ : ∃ M, M = m k := ⟨_, rfl⟩
     have hAp : A < p := by
      rw [hA]; unfold shA; split
      · exact lf _ (by omega)
      omega
     have hMp : M < p := by rw [hM]; exact lm k (by omega)
     have HU := Lib.hid (show upP p f m k = (A + (p - F) * M) % p by
      unfold upP; rw [HD.out, if_pos (by omega), Int.toNat_natCast, HUF.out, hA, hM])
     rw [← hA] at c4
     rw [← hM] at c5
     clear hA hM
     obtain ⟨m1, m2⟩ := small_nat_mul p7 hFp hMp
     have t1 : -(p : Int) < ((A : Int) - (F : Int) * (M : Int)).tmod p := by
      have := Int.tmod_lt_of_pos (-((A : Int) - (F : Int) * (M : Int))) (b := (p : Int)) (by omega)
      rw [Int.neg_tmod] at this; omega
     have t2 : ((A : Int) - (F : Int) * (M : Int)).tmod p < (p : Int) := Int.tmod_lt_of_pos _ (by omega)
     have hX : Hid (((A : Int) - (F : Int) * (M : Int)).tmod p % p % 256 = (upP p f m k : Int)) := by
      have e1 : ((A : Int) - (F : Int) * (M : Int)).tmod p % p = ((A : Int) - (F : Int) * (M : Int)) % p := by rw [Int.tmod_def, Int.sub_mul_emod_self_left]
      have e2 := Int.emod_nonneg ((A : Int) - (F : Int) * (M : Int)) (b := (p : Int)) (by omega)
      have e3 := Int.emod_lt_of_pos ((A : Int) - (F : Int) * (M : Int)) (b := (p : Int)) (by omega)
      rw [HU.out, e1, ← take_off (by omega : F ≤ p)]
      exact Int.emod_eq_of_lt e2 (by omega)
     have hm0 : (0 : Int) ≤ ((A : Int) - (F : Int) * (M : Int)).tmod p + p := by omega
     have hltI : (k : Int) < (D : Int) + 1 := by omega
     go_wp2_with fail
     go_region
     go_wp2_with fail
     go_roundw
     case rel =>
      refine ⟨k + 1, by omega, by go_num, (hb.setCell (by simp; omega) _).drew, (B0.setOther (by simp; omega)).drew, (B1.setOther (by simp; omega)).drew, (B2.setOther (by simp; omega)).drew, ?_⟩
      exact ((B3.set (v := upP p f m k) hX.out).congr (fun i _ => upd_lt (a := upP p f m) rfl i)).drew
     case measure => simp [intOf] <;> omega
   obtain rfl : k = D + 1 := by omega
   have HV := Lib.hid (show zb 64 (fun i => if i < D + 1 then upP p f m i else shA f (D + 1) i) = zb 64 (upP p f m) from zbc (fun i _ => by
    by_cases h : i < D + 1
    · rw [if_pos h]
    rw [if_neg h]; unfold shA upP; rw [if_neg (by omega), HD.out, if_neg (by omega)]))
   have hltI : ¬ ((D : Int) + 1 < (D : Int) + 1) := by omega
   rw [show (((D + 1 : Nat) : Int)) = (D : Int) + 1 by push_cast; rfl]
   go_wp2_with (first | (refine zla (.tmp 9) B3 Try.underlying24 Try.size24 ?_) | (refine wpList_store_blk rfl 24 (.tmp 6) (.tmp 70) rfl _ 64 _ rfl rfl 24 _ B2 Try.size24 ?_))
   refine bodyPost_ret (zrb rfl _ _ _ 64 24 5 _ rfl (B2.row _) Try.underlying24 Try.size24) rfl ⟨by rw [HV.out], zr hb (by omega) _⟩
end Go.Proofs.Yteloknnooebabaa
namespace Go.Proofs.Yteloknnooebabaa
open Go.RowKit
attribute [local irreducible] deg invN dS qS stp stpr quoP resP oneP upP upF hmR mmP shA addK
theorem l01MulMod_any (p : Nat) (f g m : Nat → Nat) (w : World) (hpr : p = 2 ∨ p = 3 ∨ p = 5 ∨ p = 7) (lf : ∀ k, k < 64 → f k < p) (lg : ∀ k, k < 64 → g k < p) (lm : ∀ k, k < 64 → m k < p) (h0 : 0 ≤ deg m) :
 Calls Try.prog 188 #[.int .i64 (p : Int), .agg (zb 64 f), .agg (zb 64 g), .agg (zb 64 m)] w fun e w' => e = .returned (.agg (zb 64 (mmP p f g m))) ∧ Below w.heap.size w w' := by
 have p0 : 0 < p := by omega
 have p2 : 2 ≤ p := by omega
 have p7 : p ≤ 7 := by omega
 obtain ⟨gb1, gb2⟩ := zdb g
 obtain ⟨NN, hNN⟩ : ∃ NN : Nat, deg g + 1 = (NN : Int) := ⟨(deg g + 1).toNat, by omega⟩
 have HD := Lib.hid (show deg g = (NN : Int) - 1 by omega)
 have HV := Lib.hid (zbc (hmR_mmP (a := f) hpr lf lm h0 hNN))
 have HS := Lib.hid (fun j (hj : j ≤ NN - 1 + 1) => hmR_spec (n := NN - 1) (b := g) hpr lf lm h0 j hj)
 have hN6 : NN ≤ 64 := by omega
 have HUP := Lib.hid (fun (a : Nat → Nat) (ha : ∀ k, k < 64 → a k < p) W => l01Up_any p a m W hpr ha lm h0)
 have HMO := Lib.hid (fun (a : Nat → Nat) (ha : ∀ k, k < 64 → a k < p) W => l01Mod_any p a m W hpr ha lm h0)
 clear hNN
 go_enter Try.func188, Try.ntmps188
 go_upto_region 1 with (fail)
 rw [← z64]
 obtain ⟨W1, hwo⟩ : ∃ v : World, v = ((((w.alloc (.cells (zb 64 (f)) 24)).alloc (.cells (zb 64 (g)) 24)).alloc (.cells (zb 64 (m)) 24)).alloc (.cells (zb 64 fun _ => 0) 24)) := ⟨_, rfl⟩
 have B0 : Blk W1 (w.heap.size) 64 24 (f) := by subst hwo; have := ((((Blk.new w 64 24 (f)).alloc (.cells (zb 64 (g)) 24)).alloc (.cells (zb 64 (m)) 24)).alloc (.cells (zb 64 fun _ => 0) 24)); simpa using this
 have B1 : Blk W1 (w.heap.size + 1) 64 24 (g) := by subst hwo; have := (((Blk.new (w.alloc (.cells (zb 64 (f)) 24)) 64 24 (g)).alloc (.cells (zb 64 (m)) 24)).alloc (.cells (zb 64 fun _ => 0) 24)); simpa using this
 have B2 : Blk W1 (w.heap.size + 1 + 1) 64 24 (m) := by subst hwo; have := ((Blk.new ((w.alloc (.cells (zb 64 (f)) 24)).alloc (.cells (zb 64 (g)) 24)) 64 24 (m)).alloc (.cells (zb 64 fun _ => 0) 24)); simpa using this
 have B3 : Blk W1 (w.heap.size + 1 + 1 + 1) 64 24 (fun _ => 0) := by subst hwo; have := (Blk.new (((w.alloc (.cells (zb 64 (f)) 24)).alloc (.cells (zb 64 (g)) 24)).alloc (.cells (zb 64 (m)) 24)) 64 24 (fun _ => 0)); simpa using this
 have hb : Below w.heap.size w W1 := by subst hwo; exact (((((Below.refl _ _).alloc (Nat.le_refl _) _).alloc (by simp) _).alloc (by simp; omega) _).alloc (by simp; omega) _)
 rw [← hwo]
 clear hwo
 have lt_B0 := B0.lt
 have lt_B1 := B1.lt
 have lt_B2 := B2.lt
 have lt_B3 := B3.lt
 go_upto_region 2 with (first | rw [← z64] | (refine wpList_store_blk rfl 24 (.tmp 9) (.tmp 11) rfl _ 64 (fun _ => 0) rfl rfl 24 _ ((Blk.new W1 64 24 (fun _ => 0))) Try.size24 ?_; try simp only [Act.put]))
 have lt_B0 := B0.lt
 have lt_B1 := B1.lt
 have lt_B2 := B2.lt
 have lt_B3 := B3.lt
 have lhb := hb.size
 obtain ⟨W2, hwo, hzQ⟩ : ∃ v : World, v = ((W1.alloc (.cells (zb 64 fun _ => 0) 24)).setRow (W1.heap.size) (zb 64 (fun _ => 0))) ∧ Blk v (w.heap.size) 64 24 (f) ∧ Blk v (w.heap.size + 1) 64 24 (g) ∧ Blk v (w.heap.size + 1 + 1) 64 24 (m) ∧ Blk v (w.heap.size + 1 + 1 + 1) 64 24 (fun _ => 0) ∧ Blk v (W1.heap.size) 64 24 (fun _ => 0) ∧ Below w.heap.size w v := ⟨_, rfl, ((B0.alloc (.cells (zb 64 fun _ => 0) 24)).rowOther (by omega)), ((B1.alloc (.cells (zb 64 fun _ => 0) 24)).rowOther (by omega)), ((B2.alloc (.cells (zb 64 fun _ => 0) 24)).rowOther (by omega)), ((B3.alloc (.cells (zb 64 fun _ => 0) 24)).rowOther (by omega)), ((Blk.new W1 64 24 (fun _ => 0)).row (fun _ => 0)), (zr (hb.alloc (by have := hb.size; simp; omega) (.cells (zb 64 fun _ => 0) 24)) (by omega) _)⟩
 rw [← hwo]
 clear hwo B0 B1 B2 B3 hb
 obtain ⟨B0, B1, B2, B3, B4, hb⟩ := hzQ
 obtain ⟨N1, hNN⟩ : ∃ n : Nat, n = W1.heap.size := ⟨_, rfl⟩
 rw [← hNN] at lt_B0 lt_B1 lt_B2 lt_B3 lhb B4 ⊢
 clear hNN
 have zN1_0 := lt_B0
 have zN1_1 := lt_B1
 have zN1_2 := lt_B2
 have zN1_3 := lt_B3
 have zN1 := lhb
 clear lt_B0 lt_B1 lt_B2 lt_B3 lhb
 try simp only [Act.put, pA, pB, pC]
 go_upto_region 99 with (first | (refine zla (.tmp 6) B1 Try.underlying24 Try.size24 ?_) | (go_at_call 124; refine (l01Deg_any g _).mono ?_; rintro e W3 ⟨rfl, hW3⟩; replace B0 := B0.zw hW3; replace B1 := B1.zw hW3; replace B2 := B2.zw hW3; replace B3 := B3.zw hW3; replace B4 := B4.zw hW3; replace hb := (hb).trans (hW3.mono (hb).size); rw [HD.out]))
 go_loopw [10] (fun i wr => ∃ q j : Nat, Hid (q + j = NN) ∧ i = .int .i64 ((q : Int) - 1) ∧ Below w.heap.size w wr ∧ Blk wr w.heap.size 64 24 f ∧ Blk wr (w.heap.size + 1) 64 24 g ∧ Blk wr (w.heap.size + 1 + 1) 64 24 m ∧ Blk wr (w.heap.size + 1 + 1 + 1) 64 24 (fun _ => 0) ∧ Blk wr (N1) 64 24 (hmR p f g m (NN - 1) j)) (fun i _ => (intOf i + 1).toNat)
 case atStart => exact ⟨NN, 0, Lib.hid (by omega), rfl, hb, B0, B1, B2, B3, by rw [hmR_z]; exact B4⟩
 case round =>
  clear hb B0 B1 B2 B3 B4
  obtain ⟨q, j, hqj, rfl, hb, B0, B1, B2, B3, B4⟩ := hrel
  by_cases hq0 : q = 0
  · subst hq0
    have ej : j = NN := by have := hqj.out; omega
    rw [ej] at B4
    clear hqj ej
    go_upto_region 7 with (fail)
    have lt_B0 := B0.lt
    have lt_B1 := B1.lt
    have lt_B2 := B2.lt
    have lt_B3 := B3.lt
    have lt_B4 := B4.lt
    go_wp2_with (first | rw [← z64] | (refine zla (.tmp 9) B4 Try.underlying24 Try.size24 ?_) | (refine zsr (.tmp 8) (.tmp 33) (hmR p f g m (NN - 1) NN) B3 Try.size24 ?_; try simp only [Act.put]))
    obtain ⟨W4, hwo, hzQ⟩ : ∃ v : World, v = (wr.setRow (w.heap.size + 1 + 1 + 1) (zb 64 (hmR p f g m (NN - 1) NN))) ∧ Blk v (w.heap.size) 64 24 (f) ∧ Blk v (w.heap.size + 1) 64 24 (g) ∧ Blk v (w.heap.size + 1 + 1) 64 24 (m) ∧ Blk v (w.heap.size + 1 + 1 + 1) 64 24 (hmR p f g m (NN - 1) NN) ∧ Blk v (N1) 64 24 (hmR p f g m (NN - 1) NN) ∧ Below w.heap.size w v := ⟨_, rfl, (B0.rowOther (by omega)), (B1.rowOther (by omega)), (B2.rowOther (by omega)), (B3.row (hmR p f g m (NN - 1) NN)), (B4.rowOther (by omega)), (zr hb (by omega) _)⟩
    rw [← hwo]
    clear hwo B0 B1 B2 B3 B4 hb
    obtain ⟨B0, B1, B2, B3, B4, hb⟩ := hzQ
    try simp only [Act.put, pA, pB, pC]
    refine bodyPost_ret (zrb rfl _ _ _ 64 24 5 _ rfl B3 Try.underlying24 Try.size24) rfl ⟨by rw [HV.out], hb⟩
  obtain ⟨q, rfl⟩ : ∃ t, q = t + 1 := ⟨q - 1, by omega⟩
  rw [show ((q + 1 : Nat) : Int) - 1 = (q : Int) by omega]
  have hq6 : q < 64 := by have := hqj.out; omega
  obtain ⟨s1, s2, _⟩ := HS.out j (by have := hqj.out; omega)
  have HS1 := Lib.hid s1
  have hgq := lg q hq6
  obtain ⟨C, hC⟩ : ∃ C, C = g q := ⟨_, rfl⟩
  rw [← hC] at hgq
  have HC := Lib.hid hC
  clear hC s1 s2
  have HA := Lib.hid (fun W => l01Add_any p (upP p (hmR p f g m (NN - 1) j) m) f (C : Int) W p2 p7 (by omega) (by omega) (fun k _ => upP_lt p0 k) lf)
  have HR := Lib.hid (show resP p (addK p (upP p (hmR p f g m (NN - 1) j) m) f (C : Int)) m = hmR p f g m (NN - 1) (j + 1) by
   rw [hmR_s, HC.out, show NN - 1 - j = q by have := hqj.out; omega])
  have HM2 := Lib.hid (show ∀ W, Calls Try.prog 129 #[.int .i64 (p : Int), .agg (zb 64 (addK p (upP p (hmR p f g m (NN - 1) j) m) f (C : Int))), .agg (zb 64 m)] W fun e w' => e = .returned (.agg (zb 64 (hmR p f g m (NN - 1) (j + 1)))) ∧ Below W.heap.size W w' by
   intro W
   have := HMO.out (addK p (upP p (hmR p f g m (NN - 1) j) m) f (C : Int)) (fun k _ => addK_lt p0 k) W
   rwa [HR.out] at this)
  go_upto_region 5 with (fail)
  have lt_B0 := B0.lt
  have lt_B1 := B1.lt
  have lt_B2 := B2.lt
  have lt_B3 := B3.lt
  have lt_B4 := B4.lt
  go_upto_region 6 with (first | rw [← z64] | (refine zla (.tmp 9) B4 Try.underlying24 Try.size24 ?_) | (refine zla (.tmp 7) B2 Try.underlying24 Try.size24 ?_) | (go_at_call 227; refine (HUP.out _ HS1.out _).mono ?_; rintro e W4 ⟨rfl, hW4⟩; replace B0 := B0.zw hW4; replace B1 := B1.zw hW4; replace B2 := B2.zw hW4; replace B3 := B3.zw hW4; replace B4 := B4.zw hW4; replace hb := (hb).trans (hW4.mono (hb).size)) | (refine zsr (.tmp 9) (.tmp 21) (upP p (hmR p f g m (NN - 1) j) m) B4 Try.size24 ?_; try simp only [Act.put]))
  obtain ⟨W5, hwo, hzQ⟩ : ∃ v : World, v = (W4.setRow (N1) (zb 64 (upP p (hmR p f g m (NN - 1) j) m))) ∧ Blk v (w.heap.size) 64 24 (f) ∧ Blk v (w.heap.size + 1) 64 24 (g) ∧ Blk v (w.heap.size + 1 + 1) 64 24 (m) ∧ Blk v (w.heap.size + 1 + 1 + 1) 64 24 (fun _ => 0) ∧ Blk v (N1) 64 24 (upP p (hmR p f g m (NN - 1) j) m) ∧ Below w.heap.size w v := ⟨_, rfl, (B0.rowOther (by omega)), (B1.rowOther (by omega)), (B2.rowOther (by omega)), (B3.rowOther (by omega)), (B4.row (upP p (hmR p f g m (NN - 1) j) m)), (zr hb (by omega) _)⟩
  rw [← hwo]
  clear hwo B0 B1 B2 B3 B4 hb
  obtain ⟨B0, B1, B2, B3, B4, hb⟩ := hzQ
  try simp only [Act.put, pA, pB, pC]
  have lt_B0 : (w.heap.size) < W5.heap.size := B0.lt
  have lt_B1 : (w.heap.size + 1) < W5.heap.size := B1.lt
  have lt_B2 : (w.heap.size + 1 + 1) < W5.heap.size := B2.lt
  have lt_B3 : (w.heap.size + 1 + 1 + 1) < W5.heap.size := B3.lt
  have lt_B4 : (N1) < W5.heap.size := B4.lt
  have hbase : w.heap.size ≤ W5.heap.size := hb.size
  refine zq Try.mixed (by kernel_rfl) (by kernel_rfl) (fun v => by (simp only [frL, Act.put, pA, pB, pC, Nat.reduceAdd, Nat.zero_add]; exact rfl))
   (fun L v W6 => Below w.heap.size w W6 ∧ W5.heap.size ≤ W6.heap.size ∧ Blk W6 (w.heap.size) 64 24 (f) ∧ Blk W6 (w.heap.size + 1) 64 24 (g) ∧ Blk W6 (w.heap.size + 1 + 1) 64 24 (m) ∧ Blk W6 (w.heap.size + 1 + 1 + 1) 64 24 (fun _ => 0) ∧ (∃ g, Blk W6 (N1) 64 24 (g)) ∧ (L 11 = false → Blk W6 (N1) 64 24 (upP p (hmR p f g m (NN - 1) j) m)) ∧ (L 11 = true → Blk W6 (N1) 64 24 (hmR p f g m (NN - 1) (j + 1))) ∧ (L 0 = true → v 0 = (.int .i64 (p : Int))) ∧ (L 1 = true → v 1 = (.int .i64 (p : Int))) ∧ (L 2 = true → v 2 = (.agg (zb 64 (upP p (hmR p f g m (NN - 1) j) m)))) ∧ (L 3 = true → v 3 = (.agg (zb 64 (f)))) ∧ (L 4 = true → v 4 = (.int .i64 (q : Int))) ∧ (L 5 = true → v 5 = (.pointer (some ⟨w.heap.size + 1, q, none⟩))) ∧ (L 6 = true → v 6 = (.int .u8 (C : Int))) ∧ (L 7 = true → v 7 = (.int .i64 (C : Int))) ∧ (L 8 = true → v 8 = (.agg (zb 64 (addK p (upP p (hmR p f g m (NN - 1) j) m) f (C : Int))))) ∧ (L 9 = true → v 9 = (.agg (zb 64 (m)))) ∧ (L 10 = true → v 10 = (.agg (zb 64 (hmR p f g m (NN - 1) (j + 1)))))) ?_ ?_ ?_
  · intro v hv0
    exact ⟨hb.drew, Nat.le_refl _, B0.drew, B1.drew, B2.drew, B3.drew, ⟨_, B4.drew⟩, (fun _ => B4.drew), (fun h => by cases h), (fun h => by cases h), (fun h => by cases h), (fun h => by cases h), (fun h => by cases h), (fun h => by cases h), (fun h => by cases h), (fun h => by cases h), (fun h => by cases h), (fun h => by cases h), (fun h => by cases h), (fun h => by cases h)⟩
  · refine (.cons rfl ?_ (.cons rfl ?_ (.cons rfl ?_ (.cons rfl ?_ (.cons rfl ?_ (.cons rfl ?_ (.cons rfl ?_ (.cons rfl ?_ (.cons rfl ?_ (.cons rfl ?_ (.cons rfl ?_ (.cons rfl ?_ (.nil _)))))))))))))
    all_goals intro L v W6 hd hn ⟨hB, hz, s0, s1, s2, s3, x4, q4, n4, h0, h1, h2, h3, h4, h5, h6, h7, h8, h9, h10⟩ K hK
    · go_wp2_with fail
      exact hK _ (.int .i64 (p : Int)) _ (by simp only [Act.put, pA, pB, pC ]) ⟨hB, hz, s0, s1, s2, s3, x4, q4, n4, (fun _ => rfl), h1, h2, h3, h4, h5, h6, h7, h8, h9, h10⟩
    · go_wp2_with fail
      exact hK _ (.int .i64 (p : Int)) _ (by simp only [Act.put, pA, pB, pC ]) ⟨hB, hz, s0, s1, s2, s3, x4, q4, n4, h0, (fun _ => rfl), h2, h3, h4, h5, h6, h7, h8, h9, h10⟩
    · have s4 := q4 (by
       cases hL : L 11 with
       | false => rfl
       | true => exact absurd rfl (hn 11 _ rfl hL ⟨2, .phase⟩ (by simp) rfl))
      refine zlc s4 Try.underlying24 Try.size24 ?_
      exact hK _ _ _ rfl ⟨hB, hz, s0, s1, s2, s3, x4, q4, n4, h0, h1, (fun _ => rfl), h3, h4, h5, h6, h7, h8, h9, h10⟩
    · refine zlc s0 Try.underlying24 Try.size24 ?_
      exact hK _ _ _ rfl ⟨hB, hz, s0, s1, s2, s3, x4, q4, n4, h0, h1, h2, (fun _ => rfl), h4, h5, h6, h7, h8, h9, h10⟩
    · go_wp2_with fail
      exact hK _ (.int .i64 (q : Int)) _ (by simp only [Act.put, pA, pB, pC ]) ⟨hB, hz, s0, s1, s2, s3, x4, q4, n4, h0, h1, h2, h3, (fun _ => rfl), h5, h6, h7, h8, h9, h10⟩
    · have e4 := h4 (zdq hd 4 rfl)
      go_wp2_with fail
      exact hK _ (.pointer (some ⟨w.heap.size + 1, q, none⟩)) _ (by simp only [Act.put, pA, pB, pC, e4]) ⟨hB, hz, s0, s1, s2, s3, x4, q4, n4, h0, h1, h2, h3, h4, (fun _ => rfl), h6, h7, h8, h9, h10⟩
    · have e5 := h5 (zdq hd 5 rfl)
      have cc := s1.cell (i := q) hq6
      rw [← HC.out] at cc
      go_wp2_with fail
      exact hK _ (.int .u8 (C : Int)) _ (by simp only [Act.put, pA, pB, pC, e5]) ⟨hB, hz, s0, s1, s2, s3, x4, q4, n4, h0, h1, h2, h3, h4, h5, (fun _ => rfl), h7, h8, h9, h10⟩
    · have e6 := h6 (zdq hd 6 rfl)
      go_wp2_with fail
      exact hK _ (.int .i64 (C : Int)) _ (by simp only [Act.put, pA, pB, pC, e6]) ⟨hB, hz, s0, s1, s2, s3, x4, q4, n4, h0, h1, h2, h3, h4, h5, h6, (fun _ => rfl), h8, h9, h10⟩
    · have e1 := h1 (zdq hd 1 rfl)
      have e2 := h2 (zdq hd 2 rfl)
      have e3 := h3 (zdq hd 3 rfl)
      have e7 := h7 (zdq hd 7 rfl)
      go_wp2_with (go_at_call 127; refine (HA.out _).mono ?_; rintro e wy ⟨rfl, hy⟩)
      exact hK _ (.agg (zb 64 (addK p (upP p (hmR p f g m (NN - 1) j) m) f (C : Int)))) _ (by simp only [Act.put, pA, pB, pC, e1, e2, e3, e7]) ⟨hB.trans (hy.mono hB.size), (Nat.le_trans hz hy.size), s0.zw hy, s1.zw hy, s2.zw hy, s3.zw hy, (let ⟨g, h⟩ := x4; ⟨g, h.zw hy⟩), (fun h => (q4 h).below hy (q4 h).lt), (fun h => (n4 h).below hy (n4 h).lt), h0, h1, h2, h3, h4, h5, h6, h7, (fun _ => rfl), h9, h10⟩
    · refine zlc s2 Try.underlying24 Try.size24 ?_
      exact hK _ _ _ rfl ⟨hB, hz, s0, s1, s2, s3, x4, q4, n4, h0, h1, h2, h3, h4, h5, h6, h7, h8, (fun _ => rfl), h10⟩
    · have e0 := h0 (zdq hd 0 rfl)
      have e8 := h8 (zdq hd 8 rfl)
      have e9 := h9 (zdq hd 9 rfl)
      go_wp2_with (go_at_call 129; refine (HM2.out _).mono ?_; rintro e wy ⟨rfl, hy⟩)
      exact hK _ (.agg (zb 64 (hmR p f g m (NN - 1) (j + 1)))) _ (by simp only [Act.put, pA, pB, pC, e0, e8, e9]) ⟨hB.trans (hy.mono hB.size), (Nat.le_trans hz hy.size), s0.zw hy, s1.zw hy, s2.zw hy, s3.zw hy, (let ⟨g, h⟩ := x4; ⟨g, h.zw hy⟩), (fun h => (q4 h).below hy (q4 h).lt), (fun h => (n4 h).below hy (n4 h).lt), h0, h1, h2, h3, h4, h5, h6, h7, h8, h9, (fun _ => rfl)⟩
    have e10 := h10 (zdq hd 10 rfl)
    obtain ⟨gz, hk⟩ := x4
    refine zsb 24 _ _ rfl _ 64 (hmR p f g m (NN - 1) (j + 1)) rfl e10 24 gz hk Try.size24 ?_
    exact hK _ undef _ rfl ⟨zr hB (by omega) _, (by simpa [World.setRow] using hz), (s0).rowOther (by omega), (s1).rowOther (by omega), (s2).rowOther (by omega), (s3).rowOther (by omega), ⟨_, hk.row _⟩, (fun h => absurd h (by simp [setL])), (fun _ => hk.row _), h0, h1, h2, h3, h4, h5, h6, h7, h8, h9, h10⟩
  intro L v W6 hL ⟨hB, hz, s0, s1, s2, s3, x4, q4, n4, h0, h1, h2, h3, h4, h5, h6, h7, h8, h9, h10⟩
  have r4 := n4 (hL 11 (by decide))
  have e0 := h0 (hL 0 (by decide))
  have e1 := h1 (hL 1 (by decide))
  have e2 := h2 (hL 2 (by decide))
  have e3 := h3 (hL 3 (by decide))
  have e4 := h4 (hL 4 (by decide))
  have e5 := h5 (hL 5 (by decide))
  have e6 := h6 (hL 6 (by decide))
  have e7 := h7 (hL 7 (by decide))
  have e8 := h8 (hL 8 (by decide))
  have e9 := h9 (hL 9 (by decide))
  have e10 := h10 (hL 10 (by decide))
  clear hL x4 q4 n4 h0 h1 h2 h3 h4 h5 h6 h7 h8 h9 h10
  simp only [Exit.then, e0, e1, e2, e3, e4, e5, e6, e7, e8, e9, e10]
  clear e0 e1 e2 e3 e4 e5 e6 e7 e8 e9 e10
  replace B0 := s0
  clear s0
  replace B1 := s1
  clear s1
  replace B2 := s2
  clear s2
  replace B3 := s3
  clear s3
  replace B4 := r4
  clear r4
  replace hb := hB
  clear hB
  clear hbase hz lt_B0 lt_B1 lt_B2 lt_B3 lt_B4
  go_wp2_with fail
  go_roundw
  case rel => exact ⟨q, j + 1, Lib.hid (by have := hqj.out; omega), rfl, hb, B0, B1, B2, B3, B4⟩
  case measure => simp [intOf] <;> omega
end Go.Proofs.Yteloknnooebabaa
namespace Go.Proofs.Yteloknnooebabaa
open Go.RowKit
attribute [local irreducible] deg invN dS qS stp stpr quoP resP oneP upP upF hmR mmP shA addK
def pmR (p : Nat) (m : Nat → Nat) : Nat → Nat → (Nat → Nat) → (Nat → Nat) → (Nat → Nat)
 | 0, _, o, _ => o
 | f + 1, k, o, s => if k = 0 then o else pmR p m f (k / 2) (if k % 2 = 1 then mmP p o s m else o) (mmP p s s m)
theorem pmR_z {p f : Nat} {m o s : Nat → Nat} : pmR p m f 0 o s = o := by cases f <;> simp [pmR]
theorem pmR_odd {p f k : Nat} {m o s : Nat → Nat} (h0 : k ≠ 0) (h : k % 2 = 1) : pmR p m (f + 1) k o s = pmR p m f (k / 2) (mmP p o s m) (mmP p s s m) := by rw [pmR, if_neg h0, if_pos h]
theorem pmR_even {p f k : Nat} {m o s : Nat → Nat} (h0 : k ≠ 0) (h : ¬ k % 2 = 1) : pmR p m (f + 1) k o s = pmR p m f (k / 2) o (mmP p s s m) := by rw [pmR, if_neg h0, if_neg h]
def pmP (p : Nat) (a : Nat → Nat) (k : Nat) (m : Nat → Nat) : Nat → Nat := pmR p m 64 k (resP p oneP m) (resP p a m)
theorem pmR_spec {p : Nat} {m : Nat → Nat} (hp : p = 2 ∨ p = 3 ∨ p = 5 ∨ p = 7) (hm : ∀ k, k < 64 → m k < p) (h0 : 0 ≤ deg m) : ∀ (f k : Nat) (o s : Nat → Nat), k < 2 ^ f → (∀ i, i < 64 → o i < p) → (∀ i, i < 64 → s i < p) → deg o < deg m →
 (∀ i, i < 64 → pmR p m f k o s i < p) ∧ deg (pmR p m f k o s) < deg m ∧ rm p (lz m) (lz (pmR p m f k o s)) (mz (lz o) (pwz (lz s) k))
 | 0, k, o, s, hk, ho, hs, hd => by
  rw [Nat.pow_zero] at hk
  obtain rfl : k = 0 := by omega
  refine ⟨ho, hd, ?_⟩
  have : mz (lz o) (pwz (lz s) 0) = lz o := by rw [mz_comm]; exact mz_one _
  rw [this]; exact rm_refl _ _ _
 | f + 1, k, o, s, hk, ho, hs, hd => by
  have hp0 : 0 < p := by omega
  by_cases hz : k = 0
  · subst hz
    rw [pmR_z]
    refine ⟨ho, hd, ?_⟩
    have : mz (lz o) (pwz (lz s) 0) = lz o := by rw [mz_comm]; exact mz_one _
    rw [this]; exact rm_refl _ _ _
  have hk2 : k / 2 < 2 ^ f := by rw [Nat.pow_succ] at hk; omega
  have hss : ∀ i, i < 64 → mmP p s s m i < p := fun i hi => mmP_lt hp0 i (by omega)
  have sq : rm p (lz m) (pwz (lz (mmP p s s m)) (k / 2)) (pwz (lz s) (2 * (k / 2))) := by
   rw [pwz_two]
   exact rm_symm (rm_pwz (fin_mz (fin_lz s) (fin_lz s)) (fin_lz _) (mmP_rm hp hm h0) _)
  by_cases ho2 : k % 2 = 1
  · rw [pmR_odd hz ho2]
    obtain ⟨a1, a2, a3⟩ := pmR_spec hp hm h0 f (k / 2) (mmP p o s m) (mmP p s s m) hk2 (fun i hi => mmP_lt hp0 i (by omega)) hss (mmP_deg hp hm h0)
    refine ⟨a1, a2, rm_trans a3 ?_⟩
    have e : mz (lz o) (pwz (lz s) k) = mz (mz (lz o) (lz s)) (pwz (lz s) (2 * (k / 2))) := by
     have : k = 2 * (k / 2) + 1 := by omega
     conv => lhs; rw [this]
     show mz (lz o) (mz (pwz (lz s) (2 * (k / 2))) (lz s)) = _
     rw [mz_comm (pwz (lz s) (2 * (k / 2))), ← mz_assoc]
    rw [e]
    exact rm_mz2 (fin_pwz (fin_lz _) _) (fin_mz (fin_lz o) (fin_lz s)) (rm_symm (mmP_rm hp hm h0)) sq
  rw [pmR_even hz ho2]
  obtain ⟨a1, a2, a3⟩ := pmR_spec hp hm h0 f (k / 2) o (mmP p s s m) hk2 ho hss hd
  refine ⟨a1, a2, rm_trans a3 ?_⟩
  have e : k = 2 * (k / 2) := by omega
  conv => rhs; rw [e]
  exact rm_mz2 (fin_pwz (fin_lz _) _) (fin_lz o) (rm_refl _ _ _) sq
theorem pmP_spec {p k : Nat} {a m : Nat → Nat} (hp : p = 2 ∨ p = 3 ∨ p = 5 ∨ p = 7) (ha : ∀ i, i < 64 → a i < p) (hm : ∀ k, k < 64 → m k < p) (h0 : 0 ≤ deg m) (hk : k < 2 ^ 64) :
 (∀ i, i < 64 → pmP p a k m i < p) ∧ deg (pmP p a k m) < deg m ∧ rm p (lz m) (lz (pmP p a k m)) (pwz (lz a) k) := by
 have hp0 : 0 < p := by omega
 have h1 : ∀ i, i < 64 → oneP i < p := fun i _ => by unfold oneP; split <;> omega
 obtain ⟨r1, r2, r3⟩ := pmR_spec hp hm h0 64 k (resP p oneP m) (resP p a m) hk (resP_lt hp0 h1) (resP_lt hp0 ha) (resP_deg hp h1 hm h0).1
 refine ⟨r1, r2, rm_trans r3 ?_⟩
 have e1 := res_rm hp h1 hm h0
 rw [one_lz] at e1
 have e2 := rm_pwz (fin_lz a) (fin_lz (resP p a m)) (res_rm hp ha hm h0) k
 have := rm_mz2 (fin_pwz (fin_lz (resP p a m)) k) fin_oneS (rm_symm e1) (rm_symm e2)
 have e3 : mz oneS (pwz (lz a) k) = pwz (lz a) k := mz_one _
 rwa [e3] at this
theorem l01PowMod_any (p : Nat) (f : Nat → Nat) (k0 : Nat) (m : Nat → Nat) (w : World) (hpr : p = 2 ∨ p = 3 ∨ p = 5 ∨ p = 7) (lf : ∀ k, k < 64 → f k < p) (lm : ∀ k, k < 64 → m k < p) (h0 : 0 ≤ deg m) (hk0 : (k0 : Int) ≤ 1000000000000) :
 Calls Try.prog 100 #[.int .i64 (p : Int), .agg (zb 64 f), .int .i64 (k0 : Int), .agg (zb 64 m)] w fun e w' => e = .returned (.agg (zb 64 (pmP p f k0 m))) ∧ Below w.heap.size w w' := by
 have p0 : 0 < p := by omega
 have l1 : ∀ i, i < 64 → oneP i < p := fun i _ => by unfold oneP; split <;> omega
 have HM1 := Lib.hid (fun W => l01Mod_any p oneP m W hpr l1 lm h0)
 have HM2 := Lib.hid (fun W => l01Mod_any p f m W hpr lf lm h0)
 have HMO := Lib.hid (show ∀ (x : Nat → Nat), (∀ k, k < 64 → x k < p) → ∀ W, Calls Try.prog 129 #[.int .i64 (p : Int), .agg (zb 64 x), .agg (zb 64 m)] W fun e w' => e = .returned (.agg (zb 64 (resP p x m))) ∧ Below W.heap.size W w' from fun x hx W => l01Mod_any p x m W hpr hx lm h0)
 have HL1 := Lib.hid l1; have HLF := Lib.hid lf
 have HMM := Lib.hid (fun (x y : Nat → Nat) (hx : ∀ k, k < 64 → x k < p) (hy : ∀ k, k < 64 → y k < p) W => l01MulMod_any p x y m W hpr hx hy lm h0)
 go_enter Try.func100, Try.ntmps100
 go_upto_region 1 with (fail)
 rw [← z64]
 obtain ⟨W1, hwo⟩ : ∃ v : World, v = (((w.alloc (.cells (zb 64 (f)) 24)).alloc (.cells (zb 64 (m)) 24)).alloc (.cells (zb 64 fun _ => 0) 24)) := ⟨_, rfl⟩
 have B0 : Blk W1 (w.heap.size) 64 24 (f) := by subst hwo; have := (((Blk.new w 64 24 (f)).alloc (.cells (zb 64 (m)) 24)).alloc (.cells (zb 64 fun _ => 0) 24)); simpa using this
 have B1 : Blk W1 (w.heap.size + 1) 64 24 (m) := by subst hwo; have := ((Blk.new (w.alloc (.cells (zb 64 (f)) 24)) 64 24 (m)).alloc (.cells (zb 64 fun _ => 0) 24)); simpa using this
 have B2 : Blk W1 (w.heap.size + 1 + 1) 64 24 (fun _ => 0) := by subst hwo; have := (Blk.new ((w.alloc (.cells (zb 64 (f)) 24)).alloc (.cells (zb 64 (m)) 24)) 64 24 (fun _ => 0)); simpa using this
 have hb : Below w.heap.size w W1 := by subst hwo; exact ((((Below.refl _ _).alloc (Nat.le_refl _) _).alloc (by simp) _).alloc (by simp; omega) _)
 rw [← hwo]
 clear hwo
 have lt_B0 : (w.heap.size) < W1.heap.size := B0.lt
 have lt_B1 : (w.heap.size + 1) < W1.heap.size := B1.lt
 have lt_B2 : (w.heap.size + 1 + 1) < W1.heap.size := B2.lt
 have hbase : w.heap.size ≤ W1.heap.size := hb.size
 refine zq Try.mixed (by kernel_rfl) (by kernel_rfl) (fun v => by (simp only [frL, Act.put, pA, pB, pC, Nat.reduceAdd, Nat.zero_add]; exact rfl))
  (fun L v W2 => Below w.heap.size w W2 ∧ W1.heap.size ≤ W2.heap.size ∧ Blk W2 (w.heap.size) 64 24 (f) ∧ Blk W2 (w.heap.size + 1) 64 24 (m) ∧ Blk W2 (w.heap.size + 1 + 1) 64 24 (fun _ => 0) ∧ (L 0 = true → v 0 = (.int .i64 (p : Int))) ∧ (L 1 = true → v 1 = (.agg (zb 64 (oneP)))) ∧ (L 2 = true → v 2 = (.agg (zb 64 (m)))) ∧ (L 3 = true → v 3 = (.agg (zb 64 (resP p oneP m)))) ∧ (L 4 = true → v 4 = (.int .i64 (p : Int))) ∧ (L 5 = true → v 5 = (.agg (zb 64 (f)))) ∧ (L 6 = true → v 6 = (.agg (zb 64 (m)))) ∧ (L 7 = true → v 7 = (.agg (zb 64 (resP p f m)))) ∧ (L 8 = true → AF (v 8) W2 W1.heap.size 64 24) ∧ (L 9 = true → AF (v 9) W2 W1.heap.size 64 24) ∧ (L 10 = true → PF (v 8) W2 W1.heap.size 64 24 (resP p oneP m)) ∧ (L 11 = true → PF (v 9) W2 W1.heap.size 64 24 (resP p f m)) ∧ (L 8 = true → L 9 = true → v 8 ≠ v 9)) ?_ ?_ ?_
 · intro v hv0
   exact ⟨hb.drew, Nat.le_refl _, B0.drew, B1.drew, B2.drew, (fun h => by cases h), (fun h => by cases h), (fun h => by cases h), (fun h => by cases h), (fun h => by cases h), (fun h => by cases h), (fun h => by cases h), (fun h => by cases h), (fun h => by cases h), (fun h => by cases h), (fun h => by cases h), (fun h => by cases h), (fun h => by cases h)⟩
 · refine (.cons rfl ?_ (.cons rfl ?_ (.cons rfl ?_ (.cons rfl ?_ (.cons rfl ?_ (.cons rfl ?_ (.cons rfl ?_ (.cons rfl ?_ (.cons rfl ?_ (.cons rfl ?_ (.cons rfl ?_ (.cons rfl ?_ (.nil _)))))))))))))
   all_goals intro L v W2 hd hn ⟨hB, hz, s0, s1, s2, h0, h1, h2, h3, h4, h5, h6, h7, h8, h9, h10, h11, d8_9⟩ K hK
   · go_wp2_with fail
     exact hK _ (.int .i64 (p : Int)) _ (by simp only [Act.put, pA, pB, pC ]) ⟨hB, hz, s0, s1, s2, (fun _ => rfl), h1, h2, h3, h4, h5, h6, h7, h8, h9, h10, h11, d8_9⟩
   · go_wp2_with (go_at_call 128; refine (l01One_any _).mono ?_; rintro e wy ⟨rfl, hy⟩)
     exact hK _ (.agg (zb 64 (oneP))) _ (by simp only [Act.put, pA, pB, pC ]) ⟨hB.trans (hy.mono hB.size), (Nat.le_trans hz hy.size), s0.zw hy, s1.zw hy, s2.zw hy, h0, (fun _ => rfl), h2, h3, h4, h5, h6, h7, (fun h => (h8 h).below hy), (fun h => (h9 h).below hy), (fun h => (h10 h).below hy), (fun h => (h11 h).below hy), d8_9⟩
   · refine zlc s1 Try.underlying24 Try.size24 ?_
     exact hK _ _ _ rfl ⟨hB, hz, s0, s1, s2, h0, h1, (fun _ => rfl), h3, h4, h5, h6, h7, h8, h9, h10, h11, d8_9⟩
   · have e0 := h0 (zdq hd 0 rfl)
     have e1 := h1 (zdq hd 1 rfl)
     have e2 := h2 (zdq hd 2 rfl)
     go_wp2_with (go_at_call 129; refine (HMO.out oneP HL1.out _).mono ?_; rintro e wy ⟨rfl, hy⟩)
     exact hK _ (.agg (zb 64 (resP p oneP m))) _ (by simp only [Act.put, pA, pB, pC, e0, e1, e2]) ⟨hB.trans (hy.mono hB.size), (Nat.le_trans hz hy.size), s0.zw hy, s1.zw hy, s2.zw hy, h0, h1, h2, (fun _ => rfl), h4, h5, h6, h7, (fun h => (h8 h).below hy), (fun h => (h9 h).below hy), (fun h => (h10 h).below hy), (fun h => (h11 h).below hy), d8_9⟩
   · go_wp2_with fail
     exact hK _ (.int .i64 (p : Int)) _ (by simp only [Act.put, pA, pB, pC ]) ⟨hB, hz, s0, s1, s2, h0, h1, h2, h3, (fun _ => rfl), h5, h6, h7, h8, h9, h10, h11, d8_9⟩
   · refine zlc s0 Try.underlying24 Try.size24 ?_
     exact hK _ _ _ rfl ⟨hB, hz, s0, s1, s2, h0, h1, h2, h3, h4, (fun _ => rfl), h6, h7, h8, h9, h10, h11, d8_9⟩
   · refine zlc s1 Try.underlying24 Try.size24 ?_
     exact hK _ _ _ rfl ⟨hB, hz, s0, s1, s2, h0, h1, h2, h3, h4, h5, (fun _ => rfl), h7, h8, h9, h10, h11, d8_9⟩
   · have e4 := h4 (zdq hd 4 rfl)
     have e5 := h5 (zdq hd 5 rfl)
     have e6 := h6 (zdq hd 6 rfl)
     go_wp2_with (go_at_call 129; refine (HMO.out f HLF.out _).mono ?_; rintro e wy ⟨rfl, hy⟩)
     exact hK _ (.agg (zb 64 (resP p f m))) _ (by simp only [Act.put, pA, pB, pC, e4, e5, e6]) ⟨hB.trans (hy.mono hB.size), (Nat.le_trans hz hy.size), s0.zw hy, s1.zw hy, s2.zw hy, h0, h1, h2, h3, h4, h5, h6, (fun _ => rfl), (fun h => (h8 h).below hy), (fun h => (h9 h).below hy), (fun h => (h10 h).below hy), (fun h => (h11 h).below hy), d8_9⟩
   · go_wp2_with fail
     rw [← z64]
     exact hK _ (.pointer (some ⟨W2.heap.size, 0, none⟩)) _ (by simp only [Act.put, pA, pB, pC ]) ⟨hB.alloc hB.size _, (by simp; omega), (s0).alloc _, (s1).alloc _, (s2).alloc _, h0, h1, h2, h3, h4, h5, h6, h7, (fun _ => (PF.new W2 64 24 _ hz).af), (fun h => (h9 h).below (zal _ _)), (fun h => absurd rfl (hn 10 _ rfl h ⟨8, .data⟩ (by simp) rfl)), (fun h => (h11 h).below (zal _ _)), (fun h g1 => Ne.symm ((h9 g1).ne_new))⟩
   · go_wp2_with fail
     rw [← z64]
     exact hK _ (.pointer (some ⟨W2.heap.size, 0, none⟩)) _ (by simp only [Act.put, pA, pB, pC ]) ⟨hB.alloc hB.size _, (by simp; omega), (s0).alloc _, (s1).alloc _, (s2).alloc _, h0, h1, h2, h3, h4, h5, h6, h7, (fun h => (h8 h).below (zal _ _)), (fun _ => (PF.new W2 64 24 _ hz).af), (fun h => (h10 h).below (zal _ _)), (fun h => absurd rfl (hn 11 _ rfl h ⟨9, .data⟩ (by simp) rfl)), (fun h g1 => (h8 h).ne_new)⟩
   · have e3 := h3 (zdq hd 3 rfl)
     obtain ⟨gz, b, ea, hN, hk⟩ := (h8 (zdq hd 8 rfl)).out
     refine zsb 24 _ _ rfl b 64 (resP p oneP m) ea e3 24 gz hk Try.size24 ?_
     exact hK _ undef _ rfl ⟨zr hB (Nat.le_trans hbase hN) _, (by simpa [World.setRow] using hz), (s0).rowOther (by omega), (s1).rowOther (by omega), (s2).rowOther (by omega), h0, h1, h2, h3, h4, h5, h6, h7, (fun h => (h8 h).row hk), (fun h => (h9 h).row hk), (fun _ => by rw [show updV v 10 undef 8 = v 8 from rfl, ea]; exact PF.row hk hN _), (fun h => (h11 h).rowOther (by rw [← ea]; exact (Ne.symm (d8_9 (zdq hd 8 rfl) (zdq hd 9 rfl))))), d8_9⟩
   have e7 := h7 (zdq hd 7 rfl)
   obtain ⟨gz, b, ea, hN, hk⟩ := (h9 (zdq hd 9 rfl)).out
   refine zsb 24 _ _ rfl b 64 (resP p f m) ea e7 24 gz hk Try.size24 ?_
   exact hK _ undef _ rfl ⟨zr hB (Nat.le_trans hbase hN) _, (by simpa [World.setRow] using hz), (s0).rowOther (by omega), (s1).rowOther (by omega), (s2).rowOther (by omega), h0, h1, h2, h3, h4, h5, h6, h7, (fun h => (h8 h).row hk), (fun h => (h9 h).row hk), (fun h => (h10 h).rowOther (by rw [← ea]; exact (d8_9 (zdq hd 8 rfl) (zdq hd 9 rfl)))), (fun _ => by rw [show updV v 11 undef 9 = v 9 from rfl, ea]; exact PF.row hk hN _), d8_9⟩
 intro L v W2 hL ⟨hB, hz, s0, s1, s2, h0, h1, h2, h3, h4, h5, h6, h7, h8, h9, h10, h11, d8_9⟩
 have e0 := h0 (hL 0 (by decide))
 have e1 := h1 (hL 1 (by decide))
 have e2 := h2 (hL 2 (by decide))
 have e3 := h3 (hL 3 (by decide))
 have e4 := h4 (hL 4 (by decide))
 have e5 := h5 (hL 5 (by decide))
 have e6 := h6 (hL 6 (by decide))
 have e7 := h7 (hL 7 (by decide))
 obtain ⟨k1_8, e8, hNk1_8, hk1_8⟩ := (h10 (hL 10 (by decide))).out
 obtain ⟨k1_9, e9, hNk1_9, hk1_9⟩ := (h11 (hL 11 (by decide))).out
 have n8_9 := d8_9 (hL 8 (by decide)) (hL 9 (by decide))
 clear hL h0 h1 h2 h3 h4 h5 h6 h7 h8 h9 h10 h11 d8_9
 rw [e8, e9] at n8_9
 have mk1_8_9 : k1_8 ≠ k1_9 := fun h => n8_9 (by rw [h])
 clear n8_9
 simp only [Exit.then, e0, e1, e2, e3, e4, e5, e6, e7, e8, e9]
 clear e0 e1 e2 e3 e4 e5 e6 e7 e8 e9
 replace B0 := s0
 clear s0
 replace B1 := s1
 clear s1
 replace B2 := s2
 clear s2
 replace hb := hB
 clear hB
 have B3 := hk1_8
 clear hk1_8
 have zk1_8_0 : w.heap.size < k1_8 := by omega
 have zk1_8_1 : w.heap.size + 1 < k1_8 := by omega
 have zk1_8_2 : w.heap.size + 1 + 1 < k1_8 := by omega
 have B4 := hk1_9
 clear hk1_9
 have zk1_9_0 : w.heap.size < k1_9 := by omega
 have zk1_9_1 : w.heap.size + 1 < k1_9 := by omega
 have zk1_9_2 : w.heap.size + 1 + 1 < k1_9 := by omega
 clear hbase hz lt_B0 lt_B1 lt_B2
 go_wp2_with fail
 go_loopw [2] (fun i wr => ∃ (q k : Nat) (po ps : Nat → Nat), Hid (pmP p f k0 m = pmR p m q k po ps) ∧ k < 2 ^ q ∧ (k : Int) ≤ 1000000000000 ∧ Hid (∀ i, i < 64 → po i < p) ∧ Hid (∀ i, i < 64 → ps i < p) ∧ i = .int .i64 (k : Int) ∧ Below w.heap.size w wr ∧ Blk wr (w.heap.size + 1) 64 24 m ∧ Blk wr (w.heap.size + 1 + 1) 64 24 (fun _ => 0) ∧ Blk wr k1_8 64 24 po ∧ Blk wr k1_9 64 24 ps) (fun i _ => (intOf i).toNat)
 case atStart => exact ⟨64, k0, _, _, Lib.hid rfl, (by have h6 : (1000000000000 : Nat) < 2 ^ 64 := (by decide); omega), hk0, Lib.hid (resP_lt p0 l1), Lib.hid (resP_lt p0 lf), rfl, hb, B1, B2, B3, B4⟩
 case round =>
  clear hb B0 B1 B2 B3 B4
  obtain ⟨q, k, po, ps, hP, hkq, hk, ho, hs, rfl, hb, B1, B2, B3, B4⟩ := hrel
  have HKQ := Lib.hid hkq
  clear hkq hk0
  by_cases hz : k = 0
  · subst hz
    have HV := Lib.hid (hP.out.trans pmR_z)
    go_upto_region 7 with (fail)
    have lt_B1 := B1.lt
    have lt_B2 := B2.lt
    have lt_B3 := B3.lt
    have lt_B4 := B4.lt
    go_wp2_with (first | rw [← z64] | (refine zla (.tmp 9) B3 Try.underlying24 Try.size24 ?_) | (refine zsr (.tmp 8) (.tmp 36) (po) B2 Try.size24 ?_; try simp only [Act.put]))
    obtain ⟨W3, hwo, hzQ⟩ : ∃ v : World, v = (wr.setRow (w.heap.size + 1 + 1) (zb 64 (po))) ∧ Blk v (w.heap.size + 1) 64 24 (m) ∧ Blk v (w.heap.size + 1 + 1) 64 24 (po) ∧ Blk v (k1_8) 64 24 (po) ∧ Blk v (k1_9) 64 24 (ps) ∧ Below w.heap.size w v := ⟨_, rfl, (B1.rowOther (by omega)), (B2.row (po)), (B3.rowOther (by omega)), (B4.rowOther (by omega)), (zr hb (by omega) _)⟩
    rw [← hwo]
    clear hwo B1 B2 B3 B4 hb
    obtain ⟨B1, B2, B3, B4, hb⟩ := hzQ
    try simp only [Act.put, pA, pB, pC]
    refine bodyPost_ret (zrb rfl _ _ _ 64 24 5 _ rfl B2 Try.underlying24 Try.size24) rfl ⟨by rw [HV.out], hb⟩
  obtain ⟨q, rfl⟩ : ∃ t, q = t + 1 := ⟨q - 1, by have h1 := HKQ.out; have h2 : q ≠ 0 := (by intro h; rw [h, Nat.pow_zero] at h1; omega); omega⟩
  have hpos : (0 : Int) < (k : Int) := by omega
  by_cases hodd : k % 2 = 1
  · have hb1 : (((k : Int) % 2) == 1) = true := beq_iff_eq.2 (by omega)
    have hb2 : (((k : Int).tmod 2) == 1) = true := by rw [Int.tmod_eq_emod_of_nonneg (by omega)]; exact hb1
    have HV := Lib.hid (hP.out.trans (pmR_odd hz hodd))
    have HD := Lib.hid (show k / 2 < 2 ^ q by have := HKQ.out; rw [Nat.pow_succ] at this; omega)
    clear hodd hz hP
    go_upto_region 5 with (fail)
    clear hb1 hb2
    have lt_B1 := B1.lt
    have lt_B2 := B2.lt
    have lt_B3 := B3.lt
    have lt_B4 := B4.lt
    go_upto_region 6 with (first | rw [← z64] | (refine zla (.tmp 9) B3 Try.underlying24 Try.size24 ?_) | (refine zla (.tmp 10) B4 Try.underlying24 Try.size24 ?_) | (refine zla (.tmp 7) B1 Try.underlying24 Try.size24 ?_) | (go_at_call 188; refine (HMM.out po ps ho.out hs.out _).mono ?_; rintro e W3 ⟨rfl, hW3⟩; replace B1 := B1.zw hW3; replace B2 := B2.zw hW3; replace B3 := B3.zw hW3; replace B4 := B4.zw hW3; replace hb := (hb).trans (hW3.mono (hb).size)) | (refine zsr (.tmp 9) (.tmp 30) (mmP p po ps m) B3 Try.size24 ?_; try simp only [Act.put]))
    obtain ⟨W4, hwo, hzQ⟩ : ∃ v : World, v = (W3.setRow (k1_8) (zb 64 (mmP p po ps m))) ∧ Blk v (w.heap.size + 1) 64 24 (m) ∧ Blk v (w.heap.size + 1 + 1) 64 24 (fun _ => 0) ∧ Blk v (k1_8) 64 24 (mmP p po ps m) ∧ Blk v (k1_9) 64 24 (ps) ∧ Below w.heap.size w v := ⟨_, rfl, (B1.rowOther (by omega)), (B2.rowOther (by omega)), (B3.row (mmP p po ps m)), (B4.rowOther (by omega)), (zr hb (by omega) _)⟩
    rw [← hwo]
    clear hwo B1 B2 B3 B4 hb
    obtain ⟨B1, B2, B3, B4, hb⟩ := hzQ
    try simp only [Act.put, pA, pB, pC]
    have lt_B1 := B1.lt
    have lt_B2 := B2.lt
    have lt_B3 := B3.lt
    have lt_B4 := B4.lt
    go_wp2_with (first | rw [← z64] | (refine zla (.tmp 10) B4 Try.underlying24 Try.size24 ?_) | (refine zla (.tmp 10) B4 Try.underlying24 Try.size24 ?_) | (refine zla (.tmp 7) B1 Try.underlying24 Try.size24 ?_) | (go_at_call 188; refine (HMM.out ps ps hs.out hs.out _).mono ?_; rintro e W5 ⟨rfl, hW5⟩; replace B1 := B1.zw hW5; replace B2 := B2.zw hW5; replace B3 := B3.zw hW5; replace B4 := B4.zw hW5; replace hb := (hb).trans (hW5.mono (hb).size)) | (refine zsr (.tmp 10) (.tmp 35) (mmP p ps ps m) B4 Try.size24 ?_; try simp only [Act.put]))
    obtain ⟨W6, hwo, hzQ⟩ : ∃ v : World, v = (W5.setRow (k1_9) (zb 64 (mmP p ps ps m))) ∧ Blk v (w.heap.size + 1) 64 24 (m) ∧ Blk v (w.heap.size + 1 + 1) 64 24 (fun _ => 0) ∧ Blk v (k1_8) 64 24 (mmP p po ps m) ∧ Blk v (k1_9) 64 24 (mmP p ps ps m) ∧ Below w.heap.size w v := ⟨_, rfl, (B1.rowOther (by omega)), (B2.rowOther (by omega)), (B3.rowOther (by omega)), (B4.row (mmP p ps ps m)), (zr hb (by omega) _)⟩
    rw [← hwo]
    clear hwo B1 B2 B3 B4 hb
    obtain ⟨B1, B2, B3, B4, hb⟩ := hzQ
    try simp only [Act.put, pA, pB, pC]
    go_roundw
    case rel => exact ⟨q, k / 2, mmP p po ps m, mmP p ps ps m, HV, HD.out, by omega, Lib.hid (fun i hi => mmP_lt p0 i (by omega)), Lib.hid (fun i hi => mmP_lt p0 i (by omega)), by rw [show ((k / 2 : Nat) : Int) = (k : Int) / 2 by push_cast; rfl], hb, B1, B2, B3, B4⟩
    case measure => simp [intOf] <;> omega
  have hb1 : (((k : Int) % 2) == 1) = false := beq_eq_false_iff_ne.2 (by omega)
  have hb2 : (((k : Int).tmod 2) == 1) = false := by rw [Int.tmod_eq_emod_of_nonneg (by omega)]; exact hb1
  have HV := Lib.hid (hP.out.trans (pmR_even hz hodd))
  have HD := Lib.hid (show k / 2 < 2 ^ q by have := HKQ.out; rw [Nat.pow_succ] at this; omega)
  clear hodd hz hP
  go_upto_region 6 with (fail)
  clear hb1 hb2
  have lt_B1 := B1.lt
  have lt_B2 := B2.lt
  have lt_B3 := B3.lt
  have lt_B4 := B4.lt
  go_wp2_with (first | rw [← z64] | (refine zla (.tmp 10) B4 Try.underlying24 Try.size24 ?_) | (refine zla (.tmp 10) B4 Try.underlying24 Try.size24 ?_) | (refine zla (.tmp 7) B1 Try.underlying24 Try.size24 ?_) | (go_at_call 188; refine (HMM.out ps ps hs.out hs.out _).mono ?_; rintro e W3 ⟨rfl, hW3⟩; replace B1 := B1.zw hW3; replace B2 := B2.zw hW3; replace B3 := B3.zw hW3; replace B4 := B4.zw hW3; replace hb := (hb).trans (hW3.mono (hb).size)) | (refine zsr (.tmp 10) (.tmp 35) (mmP p ps ps m) B4 Try.size24 ?_; try simp only [Act.put]))
  obtain ⟨W4, hwo, hzQ⟩ : ∃ v : World, v = (W3.setRow (k1_9) (zb 64 (mmP p ps ps m))) ∧ Blk v (w.heap.size + 1) 64 24 (m) ∧ Blk v (w.heap.size + 1 + 1) 64 24 (fun _ => 0) ∧ Blk v (k1_8) 64 24 (po) ∧ Blk v (k1_9) 64 24 (mmP p ps ps m) ∧ Below w.heap.size w v := ⟨_, rfl, (B1.rowOther (by omega)), (B2.rowOther (by omega)), (B3.rowOther (by omega)), (B4.row (mmP p ps ps m)), (zr hb (by omega) _)⟩
  rw [← hwo]
  clear hwo B1 B2 B3 B4 hb
  obtain ⟨B1, B2, B3, B4, hb⟩ := hzQ
  try simp only [Act.put, pA, pB, pC]
  go_roundw
  case rel => exact ⟨q, k / 2, po, mmP p ps ps m, HV, HD.out, by omega, ho, Lib.hid (fun i hi => mmP_lt p0 i (by omega)), by rw [show ((k / 2 : Nat) : Int) = (k : Int) / 2 by push_cast; rfl], hb, B1, B2, B3, B4⟩
  case measure => simp [intOf] <;> omega
end Go.Proofs.Yteloknnooebabaa
section
namespace Go.Proofs.Yteloknnooebabaa
open Go.RowKit
theorem res_sameN {p : Nat} {a b m : Nat → Nat} (hp : p = 2 ∨ p = 3 ∨ p = 5 ∨ p = 7) (ha : ∀ k, k < 64 → a k < p) (hb : ∀ k, k < 64 → b k < p) (hm : ∀ k, k < 64 → m k < p) (h0 : 0 ≤ deg m) (h1 : deg a < deg m) (h2 : deg b < deg m) (h : rm p (lz m) (lz a) (lz b)) : ∀ k, k < 64 → a k = b k := by
 have hp0 : 0 < p := by omega
 obtain ⟨d, hd⟩ : ∃ d : Nat, deg m = (d : Int) := ⟨(deg m).toNat, by omega⟩
 obtain ⟨d6, m2, m3⟩ := deg_top hd
 obtain ⟨_, _, iv3, _⟩ := invF hp m2 (hm d d6)
 have low : ∀ (f : Nat → Nat), deg f < (d : Int) → ∀ k, d ≤ k → lz f k = 0 := by
  intro f hf k hk
  unfold lz
  by_cases hk2 : k < 64
  · rw [cut_in _ hk2, zero_above (f := f) (k := k) (by omega) hk2]; rfl
  rw [zcz _ (by omega)]; rfl
 have hu := rm_unique (d := d) (v := (invN p (m d) : Int)) (m := lz m) (f := lz a) (g := lz b) (p := p) (by
  unfold lz; rw [cut_in m d6]
  have := mod_dvd p (invN p (m d) * m d)
  rw [iv3] at this
  obtain ⟨x, hx⟩ := this
  rw [Int.natCast_mul, Int.mul_comm] at hx
  exact ⟨-x, by rw [Int.mul_neg]; omega⟩) (fun k hk => lz_above hd hk) (fun k hk => by
  rw [low _ (by omega) k hk, low _ (by omega) k hk]; exact ⟨0, by omega⟩) h
 exact lz_inj ha hb hu
end Go.Proofs.Yteloknnooebabaa
namespace Go.Proofs.Yteloknnooebabaa
open Go Go.RowKit Go.ChangeMaps
open Go.Maps (Keyed)
def MapG (P : Program) (k : TypeId) (w : World) (b : Nat) (L : List (Value × Value)) : Prop :=
 ∃ es clock, w.heap[b]? = some (.map es clock) ∧ es.toList.map (fun e => (e.key, e.val)) = L ∧ ∀ e ∈ es.toList, ∃ l, keyOf P k e.key = some l
theorem MapG.lt {P : Program} {k : TypeId} {w : World} {b : Nat} {L : List (Value × Value)} (h : MapG P k w b L) : b < w.heap.size := by
 obtain ⟨es, clock, hb, _⟩ := h
 exact (Array.getElem?_eq_some_iff.1 hb).1
theorem MapG.new (P : Program) (k : TypeId) (w : World) : MapG P k (w.alloc (.map #[] 0)) w.heap.size [] := ⟨#[], 0, (MapKept.heap_alloc w _).1, rfl, by simp⟩
theorem MapG.of {P : Program} {k : TypeId} {w w' : World} {b : Nat} {L : List (Value × Value)} (h : MapG P k w b L) (e : w'.heap[b]? = w.heap[b]?) : MapG P k w' b L := by
 obtain ⟨es, clock, hb, r⟩ := h
 exact ⟨es, clock, e.trans hb, r⟩
theorem MapG.alloc {P : Program} {k : TypeId} {w : World} {b : Nat} {L : List (Value × Value)} (h : MapG P k w b L) (o : Obj) : MapG P k (w.alloc o) b L := h.of (Below.heap_alloc _ _ _ h.lt)
theorem MapG.drew {P : Program} {k : TypeId} {w : World} {b : Nat} {L : List (Value × Value)} (h : MapG P k w b L) : MapG P k w.drew b L := h
theorem MapG.below {P : Program} {k : TypeId} {w w' : World} {B b : Nat} {L : List (Value × Value)} (h : MapG P k w b L) (hb : Below B w w') (e : b < B) : MapG P k w' b L := h.of (hb.block b e)
theorem MapG.zw {P : Program} {k : TypeId} {w w' : World} {b : Nat} {L : List (Value × Value)} (h : MapG P k w b L) (hb : Below w.heap.size w w') : MapG P k w' b L := MapG.below h hb (MapG.lt h)
theorem MapG.setOther {P : Program} {k : TypeId} {w : World} {b : Nat} {L : List (Value × Value)} (h : MapG P k w b L) {a : Addr} {v : Value} (e : b ≠ a.block) : MapG P k (w.setCell a v) b L := h.of (heap_setCell_other _ _ _ _ e)
theorem MapG.rowOther {P : Program} {k : TypeId} {w : World} {b : Nat} {L : List (Value × Value)} (h : MapG P k w b L) {j : Nat} {cs : Array Value} (e : b ≠ j) : MapG P k (w.setRow j cs) b L := h.of (setRow_other _ _ _ _ e)
def One (w : World) (b : Nat) (t : TypeId) (v : Value) : Prop := w.heap[b]? = some (.cells #[v] t (0, 0))
theorem One.new (w : World) (t : TypeId) (v : Value) : One (w.alloc (.cells #[v] t)) w.heap.size t v := heap_alloc_last w _
theorem One.lt {w : World} {b : Nat} {t : TypeId} {v : Value} (h : One w b t v) : b < w.heap.size := by
 unfold One at h
 exact (Array.getElem?_eq_some_iff.1 h).1
theorem One.cell {w : World} {b : Nat} {t : TypeId} {v : Value} (h : One w b t v) : w.cell? ⟨b, 0, none⟩ = some v := by
 rw [cell_of_row _ _ _ _ _ _ h]; rfl
theorem One.frozen {w : World} {b : Nat} {t : TypeId} {v : Value} (h : One w b t v) (i : Nat) : w.frozen? ⟨b, i, none⟩ = false := frozen_of_row _ _ _ _ _ h
theorem One.of {w w' : World} {b : Nat} {t : TypeId} {v : Value} (h : One w b t v) (e : w'.heap[b]? = w.heap[b]?) : One w' b t v := by unfold One at *; rw [e]; exact h
theorem One.alloc {w : World} {b : Nat} {t : TypeId} {v : Value} (h : One w b t v) (o : Obj) : One (w.alloc o) b t v := h.of (Below.heap_alloc _ _ _ h.lt)
theorem One.drew {w : World} {b : Nat} {t : TypeId} {v : Value} (h : One w b t v) : One w.drew b t v := h
theorem One.below {w w' : World} {B b : Nat} {t : TypeId} {v : Value} (h : One w b t v) (hb : Below B w w') (e : b < B) : One w' b t v := h.of (hb.block b e)
theorem One.zw {w w' : World} {b : Nat} {t : TypeId} {v : Value} (h : One w b t v) (hb : Below w.heap.size w w') : One w' b t v := One.below h hb (One.lt h)
theorem One.setOther {w : World} {b : Nat} {t : TypeId} {v x : Value} (h : One w b t v) {a : Addr} (e : b ≠ a.block) : One (w.setCell a x) b t v := h.of (heap_setCell_other _ _ _ _ e)
theorem One.rowOther {w : World} {b : Nat} {t : TypeId} {v : Value} (h : One w b t v) {j : Nat} {cs : Array Value} (e : b ≠ j) : One (w.setRow j cs) b t v := h.of (setRow_other _ _ _ _ e)
theorem One.grown {w w' : World} {b j : Nat} {t : TypeId} {v : Value} (h : One w b t v) (hg : w.grownBy w' (some j)) (e : b ≠ j) : One w' b t v := h.of (hg.block b h.lt (fun x => e (by cases x; rfl)))
theorem MapG.look {P : Program} {k e t : TypeId} (K : Keyed P k) (ht : P.underlying t = some (.map k e)) {w : World} {b : Nat} {L : List (Value × Value)} (h : MapG P k w b L) {z : Value} (hz : (zeroValue e).run P w = .ok z w) (c : Bool) {key : Value} {kl : Lit} (hkey : keyOf P k key = some kl) :
 ((Instr.lookup t (.map (some b)) key c).run P w = .ok (if c then .tuple #[z, .bool false] else z) w ∧ ∀ q ∈ L, q.1 ≠ key) ∨
 ∃ v, (key, v) ∈ L ∧ (Instr.lookup t (.map (some b)) key c).run P w = .ok (if c then .tuple #[v, .bool true] else v) w := by
 obtain ⟨es, clock, hb, rfl, hr⟩ := h
 rcases K.find w hkey es.toList hr with ⟨h1, h2⟩ | ⟨j, e0, h1, h2, h3⟩
 · refine .inl ⟨by simp [Instr.lookup, run_underlying ht, MapKept.run_getObj_map hb, K.check w _ hkey, h1, hz, Result.andThen], ?_⟩
   intro q hq
   obtain ⟨e, he, rfl⟩ := List.mem_map.1 hq
   exact h2 e he
 refine .inr ⟨e0.val, ?_, by simp [Instr.lookup, run_underlying ht, MapKept.run_getObj_map hb, K.check w _ hkey, h1, Result.andThen]⟩
 exact List.mem_map.2 ⟨e0, List.mem_of_getElem? h2, by rw [h3]⟩
theorem MapG.put {P : Program} {k e t : TypeId} (K : Keyed P k) (ht : P.underlying t = some (.map k e)) {w : World} {b : Nat} {L : List (Value × Value)} (h : MapG P k w b L) {key val : Value} {kl : Lit} (hkey : keyOf P k key = some kl) (hn : ∀ q ∈ L, q.1 ≠ key) :
 ∃ w', (Instr.mapUpdate t (.map (some b)) key val).run P w = .ok () w' ∧ MapG P k w' b (L ++ [(key, val)]) ∧ w.grownBy w' (some b) := by
 obtain ⟨es, clock, hb, rfl, hr⟩ := h
 rcases K.find w hkey es.toList hr with ⟨h1, h2⟩ | ⟨j, e0, h1, h2, h3⟩
 · refine ⟨setBlock w b (.map (es.push ⟨key, val, clock⟩) (clock + 1)), ?_, ⟨_, _, heap_setBlock_same hb _, by simp, ?_⟩, ⟨rfl, rfl, rfl, by simp [setBlock], fun i _ hi => heap_setBlock_other hb _ (fun e => hi (by rw [e]))⟩⟩
   · simp [Instr.mapUpdate, run_underlying ht, MapKept.run_getObj_map hb, K.check w false hkey, h1, MapKept.run_setObj_map _ hb, Result.andThen, setBlock]
   intro x hx
   simp only [Array.toList_push, List.mem_append, List.mem_singleton] at hx
   rcases hx with hx | rfl
   · exact hr x hx
   exact ⟨_, hkey⟩
 exact absurd h3 (hn (e0.key, e0.val) (List.mem_map.2 ⟨e0, List.mem_of_getElem? h2, rfl⟩))
theorem Blk.grown {w w' : World} {b n j : Nat} {t : TypeId} {f : Nat → Nat} (h : Blk w b n t f) (hg : w.grownBy w' (some j)) (e : b ≠ j) : Blk w' b n t f := by
 have hl := h.lt
 unfold Blk at *; rw [hg.block b hl (fun x => e (by cases x; rfl))]; exact h
attribute [irreducible] MapG One
end Go.Proofs.Yteloknnooebabaa
end
section
namespace Go.Proofs.Yteloknnooebabaa
open Go Go.RowKit
def SlL (w : World) (base : Nat) (e : TypeId) (size : Nat) (v : Value) (cs : List (List Value)) : Prop := base ≤ w.heap.size ∧ (∀ c ∈ cs, c.length = size) ∧ w.ownsRow base e size v cs.length cs.flatten
theorem SlL.lt {w : World} {base : Nat} {e : TypeId} {size : Nat} {v : Value} {cs : List (List Value)} (h : SlL w base e size v cs) : base ≤ w.heap.size := h.1
theorem SlL.nil {w : World} {base : Nat} (e : TypeId) (size : Nat) (h : base ≤ w.heap.size) : SlL w base e size (.slice none 0 0) [] := ⟨h, by simp, World.ownsRow_nil _ _ _ _⟩
theorem SlL.grown {w w' : World} {base : Nat} {e : TypeId} {size : Nat} {v : Value} {cs : List (List Value)} {row : Option Nat} (h : SlL w base e size v cs) (hg : w.grownBy w' row) (hr : ∀ r, row = some r → r < base) : SlL w' base e size v cs :=
 ⟨Nat.le_trans h.1 hg.size, h.2.1, h.2.2.kept hg (by
  cases hv : v.ownBlock with
  | none => exact .inl rfl
  | some k =>
   right
   intro he
   have h1 := (h.2.2.lt k hv).1
   have h2 := hr k he.symm
   omega)⟩
theorem SlL.alloc {w : World} {base : Nat} {e : TypeId} {size : Nat} {v : Value} {cs : List (List Value)} (h : SlL w base e size v cs) (o : Obj) : SlL (w.alloc o) base e size v cs := h.grown (World.grownBy_alloc w o none) (fun r e => by cases e)
theorem SlL.drew {w : World} {base : Nat} {e : TypeId} {size : Nat} {v : Value} {cs : List (List Value)} (h : SlL w base e size v cs) : SlL w.drew base e size v cs := h
theorem SlL.below {w w' : World} {base : Nat} {e : TypeId} {size : Nat} {v : Value} {cs : List (List Value)} (h : SlL w base e size v cs) (hb : Below w.heap.size w w') (_ : base ≤ w.heap.size) : SlL w' base e size v cs :=
 h.grown (row := none) ⟨hb.os, hb.tape, hb.output, hb.size, fun k hk _ => hb.block k hk⟩ (fun r e => by cases e)
theorem SlL.zw {w w' : World} {base : Nat} {e : TypeId} {size : Nat} {v : Value} {cs : List (List Value)} (h : SlL w base e size v cs) (hb : Below w.heap.size w w') : SlL w' base e size v cs := SlL.below h hb (SlL.lt h)
theorem SlL.rowOther {w : World} {base : Nat} {e : TypeId} {size : Nat} {v : Value} {cs : List (List Value)} (h : SlL w base e size v cs) {k : Nat} {xs : Array Value} (hk : k < base) : SlL (w.setRow k xs) base e size v cs :=
 h.grown (row := some k) ⟨rfl, rfl, rfl, by simp [World.setRow], fun j _ hj => setRow_other _ _ _ _ (fun e => hj (by rw [e]))⟩ (fun r e => by cases e; exact hk)
theorem SlL.setOther {w : World} {base : Nat} {e : TypeId} {size : Nat} {v x : Value} {cs : List (List Value)} (h : SlL w base e size v cs) {a : Addr} (ha : a.block < base) : SlL (w.setCell a x) base e size v cs :=
 ⟨by simpa using h.1, h.2.1, ownsRow_setCell_below h.2.2 ha x⟩
theorem SlL.own {w : World} {base : Nat} {e : TypeId} {size : Nat} {v : Value} {cs : List (List Value)} (h : SlL w base e size v cs) : ∀ r, v.ownBlock = some r → base ≤ r := fun r hr => (h.2.2.lt r hr).1
theorem SlL.shape {w : World} {base : Nat} {e : TypeId} {size : Nat} {v : Value} {cs : List (List Value)} (h : SlL w base e size v cs) : (v = .slice none 0 0 ∧ cs = []) ∨ ∃ g cap, v = .slice (some ⟨g, 0, none⟩) cs.length cap := by
 obtain ⟨_, _, _, h | ⟨g, cap, cur, rfl, _⟩⟩ := h
 · exact .inl ⟨h.1, List.eq_nil_of_length_eq_zero h.2⟩
 exact .inr ⟨g, cap, rfl⟩
theorem flat_at : ∀ (cs : List (List Value)) (size i : Nat) (c : List Value) (j : Nat) (u : Value), (∀ c ∈ cs, c.length = size) → cs[i]? = some c → c[j]? = some u → cs.flatten[i * size + j]? = some u
 | [], _, _, _, _, _, _, h, _ => by simp at h
 | g :: cs, size, 0, c, j, u, _, h, hj => by
  simp only [List.getElem?_cons_zero, Option.some.injEq] at h
  subst h
  rw [List.flatten_cons, Nat.zero_mul, Nat.zero_add, List.getElem?_append_left (List.getElem?_eq_some_iff.1 hj).1]
  exact hj
 | g :: cs, size, i + 1, c, j, u, hs, h, hj => by
  have hg : g.length = size := hs g (by simp)
  have e1 : (i + 1) * size = i * size + size := Nat.succ_mul i size
  rw [List.flatten_cons, List.getElem?_append_right (by rw [hg]; omega), hg]
  have := flat_at cs size i c j u (fun c hc => hs c (by simp [hc])) (by simpa using h) hj
  rw [show (i + 1) * size + j - size = i * size + j by omega]
  exact this
theorem SlL.range {w : World} {base : Nat} {e : TypeId} {size g n cap : Nat} {cs : List (List Value)} (h : SlL w base e size (.slice (some ⟨g, 0, none⟩) n cap) cs) {i : Nat} {c : List Value} (hi : cs[i]? = some c) : w.rangeAt g (i * size) c := by
 intro j u hu
 obtain ⟨_, hs, hl, h | ⟨g', cap', cur, hv, hg, hh, h1, h2, h3, h4⟩⟩ := h
 · cases h.1
 injection hv with e1 e2 e3
 injection e1 with e1
 injection e1 with e1
 subst e1
 rw [cell_of_row _ _ _ _ _ _ hh]
 have hc : cs.flatten[i * size + j]? = some u := flat_at cs size i c j u hs hi hu
 rw [← h4] at hc
 have hlt : i * size + j < cs.length * size := by
  have := (List.getElem?_eq_some_iff.1 hc).1
  rw [List.length_take] at this
  omega
 rw [List.getElem?_take_of_lt hlt] at hc
 rw [← Array.getElem?_toList]
 exact hc
theorem One.row {w : World} {b : Nat} {t : TypeId} {v : Value} (h : One w b t v) (u : Value) : One (w.setRow b #[u]) b t u := by
 unfold One at *
 exact setRow_heap _ _ _ _ _ _ h
theorem SlL.one {w : World} {base : Nat} {e : TypeId} {size : Nat} {v : Value} {cs : List (List Value)} (h : SlL w base e size v cs) : v.oneCell' = true := by
 rcases h.shape with ⟨rfl, _⟩ | ⟨g, cap, rfl⟩ <;> rfl
theorem SlL.base {w : World} {base base' : Nat} {e : TypeId} {size : Nat} {v : Value} {cs : List (List Value)} (h : SlL w base e size v cs) (hb : base' ≤ base) : SlL w base' e size v cs := ⟨Nat.le_trans hb h.1, h.2.1, by
 obtain ⟨_, _, hl, h | ⟨g, cap, cur, hv, hg', r⟩⟩ := h
 · exact ⟨hl, .inl h⟩
 exact ⟨hl, .inr ⟨g, cap, cur, hv, Nat.le_trans hb hg', r⟩⟩⟩
def SlT (w : World) (base top : Nat) (e : TypeId) (size : Nat) (v : Value) (cs : List (List Value)) : Prop := SlL w base e size v cs ∧ ∀ r, v.ownBlock = some r → r < top
theorem SlL.top {w : World} {base : Nat} {e : TypeId} {size : Nat} {v : Value} {cs : List (List Value)} (h : SlL w base e size v cs) : SlT w base w.heap.size e size v cs := ⟨h, fun r hr => (h.2.2.lt r hr).2⟩
theorem SlT.lt {w : World} {base top : Nat} {e : TypeId} {size : Nat} {v : Value} {cs : List (List Value)} (h : SlT w base top e size v cs) : base ≤ w.heap.size := h.1.1
theorem SlT.alloc {w : World} {base top : Nat} {e : TypeId} {size : Nat} {v : Value} {cs : List (List Value)} (h : SlT w base top e size v cs) (o : Obj) : SlT (w.alloc o) base top e size v cs := ⟨h.1.alloc o, h.2⟩
theorem SlT.drew {w : World} {base top : Nat} {e : TypeId} {size : Nat} {v : Value} {cs : List (List Value)} (h : SlT w base top e size v cs) : SlT w.drew base top e size v cs := h
theorem SlT.below {w w' : World} {base top : Nat} {e : TypeId} {size : Nat} {v : Value} {cs : List (List Value)} (h : SlT w base top e size v cs) (hb : Below w.heap.size w w') (hl : base ≤ w.heap.size) : SlT w' base top e size v cs := ⟨h.1.below hb hl, h.2⟩
theorem SlT.zw {w w' : World} {base top : Nat} {e : TypeId} {size : Nat} {v : Value} {cs : List (List Value)} (h : SlT w base top e size v cs) (hb : Below w.heap.size w w') : SlT w' base top e size v cs := SlT.below h hb (SlT.lt h)
theorem SlT.rowOther {w : World} {base top : Nat} {e : TypeId} {size : Nat} {v : Value} {cs : List (List Value)} (h : SlT w base top e size v cs) {k : Nat} {xs : Array Value} (hk : k < base ∨ top ≤ k) : SlT (w.setRow k xs) base top e size v cs :=
 ⟨⟨by simpa [World.setRow] using h.1.1, h.1.2.1, h.1.2.2.kept (row := some k) ⟨rfl, rfl, rfl, by simp [World.setRow], fun j _ hj => setRow_other _ _ _ _ (fun e => hj (by rw [e]))⟩ (by
  cases hv : v.ownBlock with
  | none => exact .inl rfl
  | some j =>
   right
   intro he
   cases he
   have h1 := (h.1.2.2.lt k hv).1
   have h2 := h.2 k hv
   omega)⟩, h.2⟩
theorem SlT.setOther {w : World} {base top : Nat} {e : TypeId} {size : Nat} {v x : Value} {cs : List (List Value)} (h : SlT w base top e size v cs) {a : Addr} (ha : a.block < base ∨ top ≤ a.block) : SlT (w.setCell a x) base top e size v cs :=
 ⟨⟨by simpa using h.1.1, h.1.2.1, h.1.2.2.kept (row := some a.block) ⟨((Below.refl 0 w).setCell (Nat.zero_le _) x).os, ((Below.refl 0 w).setCell (Nat.zero_le _) x).tape, ((Below.refl 0 w).setCell (Nat.zero_le _) x).output, by simp, fun j _ hj => Below.heap_setCell _ _ _ _ (fun e => hj (by rw [e]))⟩ (by
  cases hv : v.ownBlock with
  | none => exact .inl rfl
  | some j =>
   right
   intro he
   have he2 : j = a.block := by injection he
   subst he2
   have h1 := (h.1.2.2.lt a.block hv).1
   have h2 := h.2 a.block hv
   omega)⟩, h.2⟩
theorem SlL.some {w : World} {base : Nat} {e : TypeId} {size n cap : Nat} {ad : Option Addr} {cs : List (List Value)} (h : SlL w base e size (.slice ad n cap) cs) (hn : 0 < cs.length) : ∃ g, ad = some ⟨g, 0, none⟩ := by
 rcases h.shape with ⟨_, h2⟩ | ⟨g, cap', h1⟩
 · rw [h2] at hn; simp at hn
 injection h1 with h1; exact ⟨g, h1⟩
def Row (w : World) (b : Nat) (t : TypeId) (cs : Array Value) : Prop := w.heap[b]? = some (.cells cs t (0, 0))
theorem Row.new (w : World) (t : TypeId) (cs : Array Value) : Row (w.alloc (.cells cs t)) w.heap.size t cs := heap_alloc_last w _
theorem Row.lt {w : World} {b : Nat} {t : TypeId} {cs : Array Value} (h : Row w b t cs) : b < w.heap.size := by
 unfold Row at h
 exact (Array.getElem?_eq_some_iff.1 h).1
theorem Row.of {w w' : World} {b : Nat} {t : TypeId} {cs : Array Value} (h : Row w b t cs) (e : w'.heap[b]? = w.heap[b]?) : Row w' b t cs := by unfold Row at *; rw [e]; exact h
theorem Row.alloc {w : World} {b : Nat} {t : TypeId} {cs : Array Value} (h : Row w b t cs) (o : Obj) : Row (w.alloc o) b t cs := h.of (Below.heap_alloc _ _ _ h.lt)
theorem Row.drew {w : World} {b : Nat} {t : TypeId} {cs : Array Value} (h : Row w b t cs) : Row w.drew b t cs := h
theorem Row.below {w w' : World} {B b : Nat} {t : TypeId} {cs : Array Value} (h : Row w b t cs) (hb : Below B w w') (e : b < B) : Row w' b t cs := h.of (hb.block b e)
theorem Row.zw {w w' : World} {b : Nat} {t : TypeId} {cs : Array Value} (h : Row w b t cs) (hb : Below w.heap.size w w') : Row w' b t cs := Row.below h hb (Row.lt h)
theorem Row.rowOther {w : World} {b : Nat} {t : TypeId} {cs : Array Value} (h : Row w b t cs) {j : Nat} {xs : Array Value} (e : b ≠ j) : Row (w.setRow j xs) b t cs := h.of (setRow_other _ _ _ _ e)
theorem Row.setOther {w : World} {b : Nat} {t : TypeId} {cs : Array Value} {x : Value} (h : Row w b t cs) {a : Addr} (e : b ≠ a.block) : Row (w.setCell a x) b t cs := h.of (heap_setCell_other _ _ _ _ e)
theorem Row.row {w : World} {b : Nat} {t : TypeId} {cs : Array Value} (h : Row w b t cs) (xs : Array Value) : Row (w.setRow b xs) b t xs := by
 unfold Row at *
 exact setRow_heap _ _ _ _ _ _ h
theorem Row.cell {w : World} {b : Nat} {t : TypeId} {cs : Array Value} (h : Row w b t cs) {i : Nat} {v : Value} (hi : cs[i]? = some v) : w.cell? ⟨b, i, none⟩ = some v := by
 rw [cell_of_row _ _ _ _ _ _ h]; exact hi
theorem Row.frozen {w : World} {b : Nat} {t : TypeId} {cs : Array Value} (h : Row w b t cs) (i : Nat) : w.frozen? ⟨b, i, none⟩ = false := frozen_of_row _ _ _ _ _ h
theorem Row.set {w : World} {b i : Nat} {t : TypeId} {cs : Array Value} {x : Value} (h : Row w b t cs) : Row (w.setCell ⟨b, i, none⟩ x) b t (cs.setIfInBounds i x) := by
 unfold Row at *
 rw [heap_setCell_same _ _ _ _ _ _ h]
theorem zlr {P : Program} {ops : Array Oper} {rest : List Oper} {o : Oper} {a : Act} {w : World} {Q : Exit → Act → World → Prop} (hgd : o.guard = none) (ty : TypeId) (x : Operand) (ho : o.op = .load ty x)
 (b : Nat) (hx : a.eval x = .pointer (some ⟨b, 0, none⟩)) (t : TypeId) (cs : Array Value) (hb : Row w b t cs) (d : TypeDesc)
 (hu : P.underlying ty = some d) (hd : (match d with | .struct _ | .array _ _ => true | _ => false) = true) (n : Nat) (hi : (P.info? ty).map (·.size) = some n) (hn : cs.size = n)
 (h : wpList P ops Q rest (a.put o.dst (.agg cs)) w) : wpList P ops Q (o :: rest) a w := by
 unfold Row at hb
 exact wpList_load_row hgd ty x ho b hx t _ (0, 0) d hb hu hd (by rw [hi, hn]) h
theorem Row.range {w : World} {b : Nat} {t : TypeId} {c : List Value} (h : Row w b t c.toArray) : w.rangeAt b 0 c := by
 intro j v hv
 rw [Nat.zero_add, cell_of_row _ _ _ _ _ _ h]
 simpa using hv
attribute [irreducible] Row
attribute [irreducible] SlL
end Go.Proofs.Yteloknnooebabaa
namespace Go.Proofs.Yteloknnooebabaa
open Go Go.RowKit
def KF (B : Nat) (W W' : World) : Prop := KeepsFrom B W W'
theorem KF.refl (B : Nat) (W : World) : KF B W W := KeepsFrom.refl B W
theorem KF.lt {B : Nat} {W W' : World} (h : KF B W W') : W.heap.size ≤ W'.heap.size := h.size
theorem KF.below {B : Nat} {W W1 W2 : World} (h : KF B W W1) (hb : Below W1.heap.size W1 W2) (_ : W.heap.size ≤ W1.heap.size) : KF B W W2 :=
 KeepsFrom.trans h ⟨hb.size, fun k _ _ hk _ => (hb.block k (Array.getElem?_eq_some_iff.1 hk).1).trans hk⟩
theorem KF.zw {B : Nat} {W W1 W2 : World} (h : KF B W W1) (hb : Below W1.heap.size W1 W2) : KF B W W2 := KF.below h hb (KF.lt h)
theorem KF.alloc {B : Nat} {W W1 : World} (h : KF B W W1) (o : Obj) : KF B W (W1.alloc o) := h.below (zal _ _) h.size
theorem KF.drew {B : Nat} {W W1 : World} (h : KF B W W1) : KF B W W1.drew := ⟨h.size, h.same⟩
theorem KF.rowOther {B : Nat} {W W1 : World} (h : KF B W W1) {k : Nat} {cs : Array Value} (e : k < B ∨ W.heap.size ≤ k) : KF B W (W1.setRow k cs) :=
 ⟨by simpa [World.setRow] using h.size, fun j o hB hj ho => by
  have hlt := (Array.getElem?_eq_some_iff.1 hj).1
  rw [setRow_other _ _ _ _ (by omega)]
  exact h.same j o hB hj ho⟩
theorem KF.grown {B : Nat} {W W1 W2 : World} {row : Option Nat} (h : KF B W W1) (hg : W1.grownBy W2 row) (hr : ∀ r, row = some r → ∃ cur t f, W1.heap[r]? = some (.cells cur t f)) : KF B W W2 :=
 KeepsFrom.trans h ⟨hg.size, fun k o _ hk ho => (hg.block k (Array.getElem?_eq_some_iff.1 hk).1 (fun e => by
  obtain ⟨cur, t, f, hc⟩ := hr k e.symm
  rw [hk] at hc; cases hc; cases ho)).trans hk⟩
def DF (W : World) (D : Nat) : Prop := W.heap[D]? = some (.deferred (some []))
theorem DF.lt {W : World} {D : Nat} (h : DF W D) : D < W.heap.size := (Array.getElem?_eq_some_iff.1 h).1
theorem DF.of {W W' : World} {D : Nat} (h : DF W D) (e : W'.heap[D]? = W.heap[D]?) : DF W' D := by unfold DF at *; rw [e]; exact h
theorem DF.below {W W' : World} {B D : Nat} (h : DF W D) (hb : Below B W W') (e : D < B) : DF W' D := h.of (hb.block D e)
theorem DF.zw {W W' : World} {D : Nat} (h : DF W D) (hb : Below W.heap.size W W') : DF W' D := DF.below h hb (DF.lt h)
theorem DF.alloc {W : World} {D : Nat} (h : DF W D) (o : Obj) : DF (W.alloc o) D := h.below (zal _ _) h.lt
theorem DF.drew {W : World} {D : Nat} (h : DF W D) : DF W.drew D := h
theorem DF.rowOther {W : World} {D k : Nat} {cs : Array Value} (h : DF W D) (e : D ≠ k) : DF (W.setRow k cs) D := h.of (setRow_other _ _ _ _ e)
theorem DF.grown {W W1 : World} {D : Nat} {row : Option Nat} (h : DF W D) (hg : W.grownBy W1 row) (hr : ∀ r, row = some r → ∃ cur t f, W.heap[r]? = some (.cells cur t f)) : DF W1 D :=
 h.of (hg.block D h.lt (fun e => by
  obtain ⟨cur, t, f, hc⟩ := hr D e.symm
  unfold DF at h
  rw [h] at hc; cases hc))
end Go.Proofs.Yteloknnooebabaa
namespace Go.Proofs.Yteloknnooebabaa
open Go Go.RowKit Go.Shelf
attribute [local go_sem] Oper.semAt_some
abbrev MonN (p n : Nat) := { N : Nat // N ∈ monL p n }
def vals {p n : Nat} (l : List (MonN p n)) : List Nat := l.map (·.1)
def KpM (bp bn : Nat) (W W' : World) : Prop := W'.heap[bp]? = W.heap[bp]? ∧ W'.heap[bn]? = W.heap[bn]?
theorem KpM.refl (bp bn : Nat) (W : World) : KpM bp bn W W := ⟨rfl, rfl⟩
theorem KpM.trans {bp bn : Nat} {A B C : World} (h : KpM bp bn A B) (k : KpM bp bn B C) : KpM bp bn A C := ⟨k.1.trans h.1, k.2.trans h.2⟩
theorem KpM.put {bp bn : Nat} {w : World} (h0 : bp < w.heap.size) (h1 : bn < w.heap.size) (W : World) (l : Nat) (o o' : Obj) (hl : w.heap.size ≤ l) (_ : W.heap[l]? = some o) (_ : o.isCells = false) (_ : o.isWalk = false) : KpM bp bn W (W.putObj l o') :=
 ⟨World.putObj_heap_other (by omega), World.putObj_heap_other (by omega)⟩
theorem One.same {w w' : World} {b : Nat} {t : TypeId} {v : Value} (h : One w b t v) (h' : One w' b t v) : w'.heap[b]? = w.heap[b]? := by unfold One at *; rw [h, h']
end Go.Proofs.Yteloknnooebabaa
end
section
namespace Go.Proofs.Yteloknnooebabaa
open Go.RowKit
attribute [local irreducible] deg invN quoP resP
def TP : Nat → Nat := fun k => if k = 1 then 1 else 0
theorem TP_lt {p : Nat} (hp : 2 ≤ p) (k : Nat) : TP k < p := by unfold TP; split <;> omega
theorem lz_TP : lz TP = TS := by
 funext k; unfold lz TS
 by_cases hk : k < 64
 · rw [cut_in _ hk]; unfold TP; split <;> rfl
 rw [zcz _ (by omega), if_neg (by omega)]; rfl
end Go.Proofs.Yteloknnooebabaa
namespace Go.Proofs.Yteloknnooebabaa
open Go Go.RowKit
attribute [local irreducible] deg invN dS qS stp stpr quoP resP oneP ofN dvo pmP run monL TP
def facC (f : Nat → Nat) (k : Nat) : List Value := bl 64 f ++ [.int .i64 (k : Int)]
theorem built_T : Try.prog.built 24 [(0, .int .u8 0), (1, .int .u8 1)] = some (zb 64 TP) := by unfold zb bl; kernel_rfl
def facRows (p : Nat) (L : List (Nat × Nat)) : List (List Value) := L.map fun x => facC (ofN p x.1) x.2
def SzG (n : Nat) (W : World) : Prop := n ≤ W.heap.size
theorem SzG.lt {n : Nat} {W : World} (h : SzG n W) : n ≤ W.heap.size := h
theorem SzG.below {n B : Nat} {W W' : World} (h : SzG n W) (hb : Below B W W') (_ : n ≤ W.heap.size) : SzG n W' := Nat.le_trans h hb.size
theorem SzG.zw {n : Nat} {W W' : World} (h : SzG n W) (hb : Below W.heap.size W W') : SzG n W' := SzG.below h hb (SzG.lt h)
theorem SzG.alloc {n : Nat} {W : World} (h : SzG n W) (o : Obj) : SzG n (W.alloc o) := h.below (zal _ _) h
theorem SzG.drew {n : Nat} {W : World} (h : SzG n W) : SzG n W.drew := h
theorem SzG.rowOther {n k : Nat} {W : World} {cs : Array Value} (h : SzG n W) (_ : 0 ≤ k) : SzG n (W.setRow k cs) := by unfold SzG at *; simpa [World.setRow] using h
theorem SzG.setOther {n : Nat} {W : World} {a : Addr} {v : Value} (h : SzG n W) (_ : 0 ≤ a.block) : SzG n (W.setCell a v) := by unfold SzG at *; simpa using h
end Go.Proofs.Yteloknnooebabaa
namespace Go.Proofs.Yteloknnooebabaa
open Go Go.RowKit
attribute [local irreducible] deg invN dS qS stp stpr quoP resP oneP ofN dvo pmP run monL TP monUp monB
def FV (p : Nat) (n0 : Nat) (x : Nat × Nat) (l : List (Nat × Nat)) (y : Value) (w : World) : Prop := SlL w n0 186 65 y (facRows p (x :: l))
theorem FV.below {p n0 : Nat} {x : Nat × Nat} {l : List (Nat × Nat)} {y : Value} {w w' : World} (h : FV p n0 x l y w) (hb : Below w.heap.size w w') : FV p n0 x l y w' := SlL.below h hb h.lt
end Go.Proofs.Yteloknnooebabaa
namespace Go.Proofs.Yteloknnooebabaa
open Go Go.RowKit
attribute [local irreducible] deg invN dS qS stp stpr quoP resP oneP ofN dvo pmP run addK monL TP monUp monB
theorem l01T_any (w : World) : Calls Try.prog 208 #[] w fun e w' => e = .returned (.agg (zb 64 TP)) ∧ Below w.heap.size w w' := by
 go_enter Try.func208, Try.ntmps208
 go_upto_region 1 with (fail)
 rw [← z64]
 have b0 := Blk.new w 64 24 (fun _ => 0)
 go_wp2_with (first | (refine zbo rfl 24 _ rfl (zb 64 TP) (by rw [Array.toList_map]; exact built_T) ?_) | (refine wpList_store_blk rfl 24 _ _ rfl _ 64 TP rfl rfl 24 _ b0 Try.size24 ?_))
 refine bodyPost_ret (zrb rfl _ _ _ 64 24 5 _ rfl (b0.row _) Try.underlying24 Try.size24) rfl ⟨rfl, zr (zal _ _) (Nat.le_refl _) _⟩
end Go.Proofs.Yteloknnooebabaa
end
namespace Go.Proofs.Yteloknnooebabaa
namespace Rg
variable {R : Type} [Rg R]
def sR (t : R) (p : Nat) (x : R) : R := t * x + pw x p
theorem sR_add {p : Nat} (hp : p = 2 ∨ p = 3 ∨ p = 5 ∨ p = 7) (hc : nm p (e : R) = o) (t x y : R) : sR t p (x + y) = sR t p x + sR t p y := by
 unfold sR
 rw [frob_add hp hc, madd, aassoc, aassoc, alcomm (t * y)]
theorem sR_o {p : Nat} (hp : 0 < p) (t : R) : sR t p o = o := by
 unfold sR
 rw [mulo, pw_o hp, oadd]
theorem sR_nm {p : Nat} (hp : p = 2 ∨ p = 3 ∨ p = 5 ∨ p = 7) (hc : nm p (e : R) = o) (t x : R) : ∀ k, sR t p (nm k x) = nm k (sR t p x)
 | 0 => sR_o (by omega) t
 | k + 1 => by
  show sR t p (nm k x + x) = nm k (sR t p x) + sR t p x
  rw [sR_add hp hc, sR_nm hp hc t x k]
def hrR (t : R) (p : Nat) (x : R) : List Nat → R
 | [] => o
 | c :: cs => sR t p (hrR t p x cs) + nm c x
def smR (t : R) (p : Nat) : List Nat → R → R
 | [], _ => o
 | c :: cs, y => nm c y + smR t p cs (sR t p y)
theorem smR_s {p : Nat} (hp : p = 2 ∨ p = 3 ∨ p = 5 ∨ p = 7) (hc : nm p (e : R) = o) (t : R) : ∀ (cs : List Nat) (y : R), smR t p cs (sR t p y) = sR t p (smR t p cs y)
 | [], y => (sR_o (by omega) t).symm
 | c :: cs, y => by
  show nm c (sR t p y) + smR t p cs (sR t p (sR t p y)) = sR t p (nm c y + smR t p cs (sR t p y))
  rw [sR_add hp hc, sR_nm hp hc, smR_s hp hc t cs (sR t p y)]
theorem hr_sm {p : Nat} (hp : p = 2 ∨ p = 3 ∨ p = 5 ∨ p = 7) (hc : nm p (e : R) = o) (t x : R) : ∀ cs, hrR t p x cs = smR t p cs x
 | [] => rfl
 | c :: cs => by
  show sR t p (hrR t p x cs) + nm c x = nm c x + smR t p cs (sR t p x)
  rw [hr_sm hp hc t x cs, smR_s hp hc, acomm]
def itR (t : R) (p : Nat) : Nat → R → R
 | 0, y => y
 | k + 1, y => sR t p (itR t p k y)
theorem itR_in (t : R) (p : Nat) (y : R) : ∀ k, itR t p k (sR t p y) = sR t p (itR t p k y)
 | 0 => rfl
 | k + 1 => by
  show sR t p (itR t p k (sR t p y)) = sR t p (sR t p (itR t p k y))
  rw [itR_in t p y k]
theorem smR_snoc (t : R) (p c : Nat) : ∀ (cs : List Nat) (y : R), smR t p (cs ++ [c]) y = smR t p cs y + nm c (itR t p cs.length y)
 | [], y => by
  show nm c y + o = o + nm c y
  rw [acomm]
 | b :: cs, y => by
  show nm b y + smR t p (cs ++ [c]) (sR t p y) = nm b y + smR t p cs (sR t p y) + nm c (sR t p (itR t p cs.length y))
  rw [smR_snoc t p c cs, aassoc, itR_in]
end Rg
open Rg
section
variable {p : Nat} {m : Nat → Int}
theorem res_char : nm p (e : Res p m) = o := by
 rw [nm_cl]
 exact cl_eq.2 (rm_of_cg fun k => by
  unfold zS
  split
  · exact ⟨1, by omega⟩
  exact ⟨0, by omega⟩)
def rs (f : Nat → Nat) : Res p m := cl (lz f) (fin_lz f)
theorem nm_rs (c : Nat) {f : Nat → Int} (hf : fin f) : nm c (cl f hf : Res p m) = cl (cz (c : Int) f) (fin_cz _ hf) := by
 have h1 : nm c (cl f hf : Res p m) = nm c e * cl f hf := by rw [nm_mul, emul]
 rw [h1, nm_cl]
 refine cl_eq.2 (rm_of_cg fun k => ⟨0, ?_⟩)
 have := mz_mono (c : Int) 0 f k
 rw [this, if_pos (Nat.zero_le _), Nat.sub_zero]
 unfold cz; omega
theorem rs_addK {f g : Nat → Nat} {c : Nat} (hp : 0 < p) : (rs (addK p f g (c : Int)) : Res p m) = rs f + nm c (rs g) := by
 unfold rs
 rw [nm_rs]
 exact cl_eq.2 (rm_of_cg (addK_cg hp))
theorem rs_add {f g : Nat → Nat} (hp : 0 < p) : (rs (addK p f g 1) : Res p m) = rs f + rs g := by
 have := rs_addK (m := m) (f := f) (g := g) (c := 1) hp
 rw [nm_one] at this; exact this
theorem rs_scl {f : Nat → Nat} {c : Nat} : (rs (sclP p f c) : Res p m) = nm c (rs f) := by
 unfold rs
 rw [nm_rs]
 exact cl_eq.2 (rm_of_cg (sclP_cg f c))
theorem rs_prd {f g : Nat → Nat} (hp : 0 < p) (h : deg f + deg g ≤ 63) : (rs (prd p f g) : Res p m) = rs f * rs g := cl_eq.2 (rm_of_cg (prd_cg hp h))
theorem rs_zero : (rs (fun _ => 0) : Res p m) = o := cl_eq.2 (rm_of_cg fun k => by unfold lz cut zS; simp)
end
theorem rs_TP {p : Nat} {m : Nat → Int} : (rs TP : Res p m) = tt := cl_congr lz_TP
theorem rs_res {p : Nat} {f m : Nat → Nat} (hp : p = 2 ∨ p = 3 ∨ p = 5 ∨ p = 7) (ha : ∀ k, k < 64 → f k < p) (hm : ∀ k, k < 64 → m k < p) (h0 : 0 ≤ deg m) : (rs (resP p f m) : Res p (lz m)) = rs f := cl_eq.2 (rm_symm (res_rm hp ha hm h0))
theorem rs_mm {p : Nat} {a b m : Nat → Nat} (hp : p = 2 ∨ p = 3 ∨ p = 5 ∨ p = 7) (hm : ∀ k, k < 64 → m k < p) (h0 : 0 ≤ deg m) : (rs (mmP p a b m) : Res p (lz m)) = rs a * rs b := cl_eq.2 (rm_symm (mmP_rm hp hm h0))
theorem rs_pm {p k : Nat} {a m : Nat → Nat} (hp : p = 2 ∨ p = 3 ∨ p = 5 ∨ p = 7) (ha : ∀ k, k < 64 → a k < p) (hm : ∀ k, k < 64 → m k < p) (h0 : 0 ≤ deg m) (hk : k < 2 ^ 64) : (rs (pmP p a k m) : Res p (lz m)) = pw (rs a) k := by
 unfold rs
 have : pw (cl (lz a) (fin_lz a) : Res p (lz m)) k = cl (pwz (lz a) k) (fin_pwz (fin_lz _) _) := pw_cl (fin_lz _) _
 rw [this]
 exact cl_eq.2 (pmP_spec hp ha hm h0 hk).2.2
def strP (q : Nat) (x : Nat → Nat) : Nat → Nat := fun k => if k % q = 0 then x (k / q) else 0
theorem strP_lt {p q : Nat} {x : Nat → Nat} (hp : 0 < p) (hq : 1 ≤ q) (hx : ∀ k, k < 64 → x k < p) (k : Nat) (hk : k < 64) : strP q x k < p := by
 unfold strP
 split
 · exact hx _ (Nat.lt_of_le_of_lt (Nat.div_le_self _ _) hk)
 exact hp
def srq (q : Nat) (cs : List Nat) : Nat → Int := fun k => if k % q = 0 then ((cs.getD (k / q) 0 : Nat) : Int) else 0
theorem fin_srq {q : Nat} (hq : 0 < q) (cs : List Nat) : fin (srq q cs) := ⟨cs.length * q, fun k hk => by
 unfold srq
 split
 · have : cs.length ≤ k / q := (Nat.le_div_iff_mul_le hq).2 hk
   simp [this]
 rfl⟩
theorem mz_TSq (f : Nat → Int) : ∀ q, mz (pwz TS q) f = fun k => if k < q then 0 else f (k - q)
 | 0 => by
  have : pwz TS 0 = oneS := rfl
  rw [this]
  have := mz_one f
  rw [show mz oneS f = f from this]
  funext k; rw [if_neg (by omega), Nat.sub_zero]
 | q + 1 => by
  have h1 : pwz TS (q + 1) = mz (pwz TS q) TS := rfl
  have h2 : mz (mz (pwz TS q) TS) f = mz (pwz TS q) (mz TS f) := mz_assoc _ _ _
  rw [h1, h2, mz_TSq (mz TS f) q, mz_TS]
  funext k
  by_cases h : k < q
  · rw [if_pos h, if_pos (by omega)]
  rw [if_neg h]
  dsimp only
  by_cases h3 : k = q
  · rw [if_pos (by omega), if_pos (by omega)]
  rw [if_neg (by omega), if_neg (by omega), Nat.sub_sub]
theorem pe_srq {p : Nat} {m : Nat → Int} {q : Nat} (hq : 0 < q) : ∀ cs : List Nat, (pe cs (pw tt q) : Res p m) = cl (srq q cs) (fin_srq hq cs)
 | [] => by
  show (o : Res p m) = _
  refine cl_congr ?_
  funext k; unfold srq zS; simp
 | c :: cs => by
  show nm c e + pw tt q * pe cs (pw tt q) = _
  rw [pe_srq hq cs, nm_cl]
  have h1 : (pw tt q : Res p m) = cl (pwz TS q) (fin_pwz fin_TS _) := pw_cl fin_TS _
  rw [h1]
  refine cl_congr (?_ : az _ (mz _ _) = _)
  rw [mz_TSq]
  funext k
  show (if k = 0 then (c : Int) else 0) + (if k < q then 0 else srq q cs (k - q)) = srq q (c :: cs) k
  unfold srq
  by_cases h : k < q
  · rw [if_pos h]
    by_cases h0 : k = 0
    · subst h0; simp
    have e1 : k % q = k := Nat.mod_eq_of_lt h
    rw [if_neg h0, e1, if_neg h0]; rfl
  have h0 : ¬ k = 0 := by omega
  obtain ⟨j, rfl⟩ : ∃ j, k = j + q := ⟨k - q, by omega⟩
  rw [if_neg h, if_neg h0, Nat.add_sub_cancel, Nat.add_mod_right, Nat.add_div_right _ hq]
  split
  · simp
  rfl
theorem rs_list {p : Nat} {m : Nat → Int} (f : Nat → Nat) : (rs f : Res p m) = pe ((List.range 64).map f) tt := by
 rw [pe_cl]
 refine cl_congr ?_
 funext k; unfold lz cut ser
 by_cases h : k < 64
 · simp [h]
 simp [h]
theorem rs_str {p : Nat} {m : Nat → Int} {x : Nat → Nat} (hp : p = 2 ∨ p = 3 ∨ p = 5 ∨ p = 7) (h : deg x * (p : Int) ≤ 63) : (rs (strP p x) : Res p m) = pw (rs x) p := by
 have hp0 : 0 < p := by omega
 have h1 := fr_pe (R := Res p m) hp res_char 1 tt ((List.range 64).map x)
 unfold fr' at h1
 rw [Nat.pow_one] at h1
 rw [rs_list x, h1, pe_srq hp0]
 refine cl_congr ?_
 funext k
 unfold lz cut strP srq
 by_cases hk : k < 64
 · rw [if_pos hk]
   split
   · have : k / p < 64 := Nat.lt_of_le_of_lt (Nat.div_le_self _ _) hk
     simp [this]
   rfl
 rw [if_neg hk]
 split
 · rename_i hm
   by_cases h2 : k / p < 64
   · have e1 := Nat.div_add_mod k p
     have e3 : x (k / p) = 0 := by
      rcases deg_spec x with ⟨_, h5⟩ | ⟨d, hd, h4, _, h5⟩
      · exact h5 _ h2
      refine h5 _ ?_ h2
      rw [h4] at h
      have h6 : d * p ≤ 63 := by exact_mod_cast h
      apply Classical.byContradiction
      intro h7
      have := Nat.mul_le_mul_right p (show k / p ≤ d by omega)
      rw [Nat.mul_comm p] at e1
      omega
     simp [h2, e3]
   simp [h2]
 rfl
def stP (p : Nat) (m x : Nat → Nat) : Nat → Nat := addK p (mmP p (resP p TP m) x m) (pmP p x p m) 1
theorem deg_addK {p : Nat} {f g : Nat → Nat} {c d : Int} (hp : 0 < p) (hd : 0 ≤ d) (hf : deg f < d) (hg : deg g < d) : deg (addK p f g c) < d := by
 have : deg (addK p f g c) ≤ d - 1 := by
  refine deg_le (by omega) (fun k h1 h2 => ?_)
  have above : ∀ (f : Nat → Nat), deg f < d → f k = 0 := by
   intro f hf
   rcases deg_spec f with ⟨_, h5⟩ | ⟨j, hj, h4, _, h5⟩
   · exact h5 _ h2
   exact h5 _ (by omega) h2
  unfold addK
  rw [above f hf, above g hg]
  simp
 omega
section
variable {p : Nat} {m : Nat → Nat} (hp : p = 2 ∨ p = 3 ∨ p = 5 ∨ p = 7) (hm : ∀ k, k < 64 → m k < p) (h0 : 0 ≤ deg m)
include hp hm h0
theorem stP_ok {x : Nat → Nat} (hx : ∀ k, k < 64 → x k < p) : (∀ k, stP p m x k < p) ∧ deg (stP p m x) < deg m ∧ (rs (stP p m x) : Res p (lz m)) = sR tt p (rs x) := by
 have hp0 : 0 < p := by omega
 refine ⟨fun k => addK_lt hp0 k, ?_, ?_⟩
 · exact deg_addK hp0 h0 (mmP_deg hp hm h0) (pmP_spec hp hx hm h0 (by omega)).2.1
 unfold stP sR
 rw [rs_add hp0, rs_mm hp hm h0, rs_res hp (fun k _ => TP_lt (by omega) k) hm h0, rs_TP, rs_pm hp hx hm h0 (by omega)]
def stI (p : Nat) (m x : Nat → Nat) : Nat → Nat := addK p (addK p (fun _ => 0) (resP p (prd p TP x) m) 1) (resP p (strP p x) m) 1
theorem stI_eq {x : Nat → Nat} (h5 : deg m ≤ 9) (hx : ∀ k, k < 64 → x k < p) (hd : deg x < deg m) : ∀ k, k < 64 → stI p m x k = stP p m x k := by
 have hp0 : 0 < p := by omega
 have hT : deg TP ≤ 1 := deg_le (by omega) (fun k h1 h2 => by unfold TP; rw [if_neg (by omega)])
 have hpr : ∀ k, k < 64 → prd p TP x k < p := fun k _ => prd_lt hp0 k
 have hst : ∀ k, k < 64 → strP p x k < p := strP_lt hp0 (by omega) hx
 obtain ⟨a1, a2, a3⟩ := stP_ok hp hm h0 hx
 have hdx : deg x * (p : Int) ≤ 63 := by
  rcases hp with rfl | rfl | rfl | rfl <;> omega
 refine res_sameN hp (fun k _ => addK_lt hp0 k) (fun k _ => a1 k) hm h0 ?_ a2 (cl_eq.1 (?_ : (rs (stI p m x) : Res p (lz m)) = rs (stP p m x)))
 · refine deg_addK hp0 h0 (deg_addK hp0 h0 ?_ (resP_deg hp hpr hm h0).1) (resP_deg hp hst hm h0).1
   have : deg (fun _ => 0) < 0 := deg_neg_iff.2 fun _ _ => rfl
   omega
 rw [a3]
 unfold stI sR
 rw [rs_add hp0, rs_add hp0, rs_zero, oadd, rs_res hp hpr hm h0, rs_res hp hst hm h0, rs_prd hp0 (by omega), rs_TP, rs_str hp hdx]
def acH (p : Nat) (m a x : Nat → Nat) (n : Nat) : Nat → (Nat → Nat)
 | 0 => fun _ => 0
 | j + 1 => addK p (stP p m (acH p m a x n j)) (sclP p x (a (n - j))) 1
def acN (p : Nat) (m x : Nat → Nat) : Nat → (Nat → Nat)
 | 0 => x
 | k + 1 => stP p m (acN p m x k)
def acS (p : Nat) (m a x : Nat → Nat) : Nat → (Nat → Nat)
 | 0 => fun _ => 0
 | k + 1 => addK p (acS p m a x k) (acN p m x k) (a k : Int)
def lsC (a : Nat → Nat) (i j : Nat) : List Nat := (List.range' i j).map a
theorem acH_ok {a x : Nat → Nat} {n : Nat} (hx : ∀ k, k < 64 → x k < p) (hd : deg x < deg m) : ∀ j, j ≤ n + 1 → (∀ k, acH p m a x n j k < p) ∧ deg (acH p m a x n j) < deg m ∧ (rs (acH p m a x n j) : Res p (lz m)) = hrR tt p (rs x) (lsC a (n + 1 - j) j)
 | 0, _ => by
  have hp0 : 0 < p := by omega
  refine ⟨fun _ => hp0, ?_, ?_⟩
  · have : deg (fun _ => 0) < 0 := deg_neg_iff.2 fun _ _ => rfl
    show deg (fun _ => 0) < deg m
    omega
  exact rs_zero
 | j + 1, hj => by
  have hp0 : 0 < p := by omega
  obtain ⟨b1, b2, b3⟩ := acH_ok (a := a) (n := n) hx hd j (by omega)
  obtain ⟨c1, c2, c3⟩ := stP_ok hp hm h0 (x := acH p m a x n j) (fun k _ => b1 k)
  refine ⟨fun k => addK_lt hp0 k, ?_, ?_⟩
  · refine deg_addK hp0 h0 c2 ?_
    have : deg (sclP p x (a (n - j))) = deg (addK p (fun _ => 0) x (a (n - j) : Int)) := by rw [addK_scl]
    rw [this]
    refine deg_addK hp0 h0 ?_ hd
    have : deg (fun _ => 0) < 0 := deg_neg_iff.2 fun _ _ => rfl
    omega
  show (rs (addK p (stP p m (acH p m a x n j)) (sclP p x (a (n - j))) 1) : Res p (lz m)) = _
  rw [rs_add hp0, c3, b3, rs_scl]
  have e1 : lsC a (n + 1 - (j + 1)) (j + 1) = a (n - j) :: lsC a (n + 1 - j) j := by
   unfold lsC
   rw [List.range'_succ, List.map_cons, show n + 1 - (j + 1) = n - j by omega, show n - j + 1 = n + 1 - j by omega]
  rw [e1]; rfl
theorem acN_ok {x : Nat → Nat} (hx : ∀ k, k < 64 → x k < p) (hd : deg x < deg m) : ∀ k, (∀ i, i < 64 → acN p m x k i < p) ∧ deg (acN p m x k) < deg m ∧ (rs (acN p m x k) : Res p (lz m)) = itR tt p k (rs x)
 | 0 => ⟨hx, hd, rfl⟩
 | k + 1 => by
  obtain ⟨b1, b2, b3⟩ := acN_ok hx hd k
  obtain ⟨c1, c2, c3⟩ := stP_ok hp hm h0 (x := acN p m x k) b1
  exact ⟨fun i _ => c1 i, c2, by show (rs (stP p m (acN p m x k)) : Res p (lz m)) = _; rw [c3, b3]; rfl⟩
theorem acS_ok {a x : Nat → Nat} (hx : ∀ k, k < 64 → x k < p) (hd : deg x < deg m) : ∀ k, (∀ i, acS p m a x k i < p) ∧ deg (acS p m a x k) < deg m ∧ (rs (acS p m a x k) : Res p (lz m)) = smR tt p (lsC a 0 k) (rs x)
 | 0 => by
  have hp0 : 0 < p := by omega
  refine ⟨fun _ => hp0, ?_, ?_⟩
  · have : deg (fun _ => 0) < 0 := deg_neg_iff.2 fun _ _ => rfl
    show deg (fun _ => 0) < deg m
    omega
  exact rs_zero
 | k + 1 => by
  have hp0 : 0 < p := by omega
  obtain ⟨b1, b2, b3⟩ := acS_ok (a := a) hx hd k
  obtain ⟨c1, c2, c3⟩ := acN_ok hp hm h0 hx hd k
  refine ⟨fun i => addK_lt hp0 i, deg_addK hp0 h0 b2 c2, ?_⟩
  show (rs (addK p (acS p m a x k) (acN p m x k) (a k : Int)) : Res p (lz m)) = _
  rw [rs_addK hp0, b3, c3]
  have e1 : lsC a 0 (k + 1) = lsC a 0 k ++ [a k] := by
   unfold lsC
   rw [List.range'_1_concat, List.map_append, Nat.zero_add]; rfl
  rw [e1, smR_snoc]
  unfold lsC
  rw [List.length_map, List.length_range']
theorem ac_same {a x : Nat → Nat} {n : Nat} (hx : ∀ k, k < 64 → x k < p) (hd : deg x < deg m) : ∀ k, k < 64 → acH p m a x n (n + 1) k = acS p m a x (n + 1) k := by
 obtain ⟨b1, b2, b3⟩ := acH_ok hp hm h0 (a := a) (n := n) hx hd (n + 1) (Nat.le_refl _)
 obtain ⟨c1, c2, c3⟩ := acS_ok hp hm h0 (a := a) hx hd (n + 1)
 refine res_sameN hp (fun k _ => b1 k) (fun k _ => c1 k) hm h0 b2 c2 (cl_eq.1 (?_ : (rs (acH p m a x n (n + 1)) : Res p (lz m)) = rs (acS p m a x (n + 1))))
 rw [b3, c3, Nat.sub_self, hr_sm hp res_char]
end
end Go.Proofs.Yteloknnooebabaa
namespace Go.Proofs.Yteloknnooebabaa
open Go.RowKit
attribute [local irreducible] deg invN dS qS stp stpr quoP resP oneP upP upF hmR mmP shA addK pmP TP stP acN acS
theorem l04Step_any (p : Nat) (f m : Nat → Nat) (w : World) (hpr : p = 2 ∨ p = 3 ∨ p = 5 ∨ p = 7) (lf : ∀ k, k < 64 → f k < p) (lm : ∀ k, k < 64 → m k < p) (h0 : 0 ≤ deg m) :
 Calls Try.prog 203 #[.int .i64 (p : Int), .agg (zb 64 f), .agg (zb 64 m)] w fun e w' => e = .returned (.agg (zb 64 (stP p m f))) ∧ Below w.heap.size w w' := by
 have p0 : 0 < p := by omega
 have p2 : 2 ≤ p := by omega
 have p7 : p ≤ 7 := by omega
 have lT : ∀ k, k < 64 → TP k < p := fun k _ => TP_lt p2 k
 have HMO := Lib.hid (fun W => l01Mod_any p TP m W hpr lT lm h0)
 have HMM := Lib.hid (fun W => l01MulMod_any p (resP p TP m) f m W hpr (resP_lt p0 lT) lf lm h0)
 have HPM := Lib.hid (fun W => l01PowMod_any p f p m W hpr lf lm h0 (by omega))
 have HAD := Lib.hid (fun W => l01Add_any p (mmP p (resP p TP m) f m) (pmP p f p m) 1 W p2 p7 (by omega) (by omega) (fun k hk => mmP_lt p0 k (by omega)) (pmP_spec hpr lf lm h0 (by omega)).1)
 have HV := Lib.hid (show addK p (mmP p (resP p TP m) f m) (pmP p f p m) 1 = stP p m f from by unfold stP; rfl)
 go_enter Try.func203, Try.ntmps203
 go_upto_region 1 with (fail)
 rw [← z64]
 obtain ⟨W1, hwo⟩ : ∃ v : World, v = (((w.alloc (.cells (zb 64 (f)) 24)).alloc (.cells (zb 64 (m)) 24)).alloc (.cells (zb 64 fun _ => 0) 24)) := ⟨_, rfl⟩
 have B0 : Blk W1 (w.heap.size) 64 24 (f) := by subst hwo; have := (((Blk.new w 64 24 (f)).alloc (.cells (zb 64 (m)) 24)).alloc (.cells (zb 64 fun _ => 0) 24)); simpa using this
 have B1 : Blk W1 (w.heap.size + 1) 64 24 (m) := by subst hwo; have := ((Blk.new (w.alloc (.cells (zb 64 (f)) 24)) 64 24 (m)).alloc (.cells (zb 64 fun _ => 0) 24)); simpa using this
 have B2 : Blk W1 (w.heap.size + 1 + 1) 64 24 (fun _ => 0) := by subst hwo; have := (Blk.new ((w.alloc (.cells (zb 64 (f)) 24)).alloc (.cells (zb 64 (m)) 24)) 64 24 (fun _ => 0)); simpa using this
 have hb : Below w.heap.size w W1 := by subst hwo; exact ((((Below.refl _ _).alloc (Nat.le_refl _) _).alloc (by simp) _).alloc (by simp; omega) _)
 rw [← hwo]
 clear hwo
 have lt_B0 : (w.heap.size) < W1.heap.size := B0.lt
 have lt_B1 : (w.heap.size + 1) < W1.heap.size := B1.lt
 have lt_B2 : (w.heap.size + 1 + 1) < W1.heap.size := B2.lt
 have hbase : w.heap.size ≤ W1.heap.size := hb.size
 refine zq Try.mixed (by kernel_rfl) (by kernel_rfl) (fun v => by (simp only [frL, Act.put, pA, pB, pC, Nat.reduceAdd, Nat.zero_add]; exact rfl))
  (fun L v W2 => Below w.heap.size w W2 ∧ W1.heap.size ≤ W2.heap.size ∧ Blk W2 (w.heap.size) 64 24 (f) ∧ Blk W2 (w.heap.size + 1) 64 24 (m) ∧ (∃ g, Blk W2 (w.heap.size + 1 + 1) 64 24 (g)) ∧ (L 15 = false → Blk W2 (w.heap.size + 1 + 1) 64 24 (fun _ => 0)) ∧ (L 15 = true → Blk W2 (w.heap.size + 1 + 1) 64 24 (addK p (mmP p (resP p TP m) f m) (pmP p f p m) 1)) ∧ (L 0 = true → v 0 = (.int .i64 (p : Int))) ∧ (L 1 = true → v 1 = (.int .i64 (p : Int))) ∧ (L 2 = true → v 2 = (.int .i64 (p : Int))) ∧ (L 3 = true → v 3 = (.agg (zb 64 (TP)))) ∧ (L 4 = true → v 4 = (.agg (zb 64 (m)))) ∧ (L 5 = true → v 5 = (.agg (zb 64 (resP p TP m)))) ∧ (L 6 = true → v 6 = (.agg (zb 64 (f)))) ∧ (L 7 = true → v 7 = (.agg (zb 64 (m)))) ∧ (L 8 = true → v 8 = (.agg (zb 64 (mmP p (resP p TP m) f m)))) ∧ (L 9 = true → v 9 = (.int .i64 (p : Int))) ∧ (L 10 = true → v 10 = (.agg (zb 64 (f)))) ∧ (L 11 = true → v 11 = (.int .i64 (p : Int))) ∧ (L 12 = true → v 12 = (.agg (zb 64 (m)))) ∧ (L 13 = true → v 13 = (.agg (zb 64 (pmP p f p m)))) ∧ (L 14 = true → v 14 = (.agg (zb 64 (addK p (mmP p (resP p TP m) f m) (pmP p f p m) 1))))) ?_ ?_ ?_
 · intro v hv0
   exact ⟨hb.drew, Nat.le_refl _, B0.drew, B1.drew, ⟨_, B2.drew⟩, (fun _ => B2.drew), (fun h => by cases h), (fun h => by cases h), (fun h => by cases h), (fun h => by cases h), (fun h => by cases h), (fun h => by cases h), (fun h => by cases h), (fun h => by cases h), (fun h => by cases h), (fun h => by cases h), (fun h => by cases h), (fun h => by cases h), (fun h => by cases h), (fun h => by cases h), (fun h => by cases h), (fun h => by cases h)⟩
 · refine (.cons rfl ?_ (.cons rfl ?_ (.cons rfl ?_ (.cons rfl ?_ (.cons rfl ?_ (.cons rfl ?_ (.cons rfl ?_ (.cons rfl ?_ (.cons rfl ?_ (.cons rfl ?_ (.cons rfl ?_ (.cons rfl ?_ (.cons rfl ?_ (.cons rfl ?_ (.cons rfl ?_ (.cons rfl ?_ (.nil _)))))))))))))))))
   all_goals intro L v W2 hd hn ⟨hB, hz, s0, s1, x2, q2, n2, h0, h1, h2, h3, h4, h5, h6, h7, h8, h9, h10, h11, h12, h13, h14⟩ K hK
   · go_wp2_with fail
     exact hK _ (.int .i64 (p : Int)) _ (by simp only [Act.put, pA, pB, pC ]) ⟨hB, hz, s0, s1, x2, q2, n2, (fun _ => rfl), h1, h2, h3, h4, h5, h6, h7, h8, h9, h10, h11, h12, h13, h14⟩
   · go_wp2_with fail
     exact hK _ (.int .i64 (p : Int)) _ (by simp only [Act.put, pA, pB, pC ]) ⟨hB, hz, s0, s1, x2, q2, n2, h0, (fun _ => rfl), h2, h3, h4, h5, h6, h7, h8, h9, h10, h11, h12, h13, h14⟩
   · go_wp2_with fail
     exact hK _ (.int .i64 (p : Int)) _ (by simp only [Act.put, pA, pB, pC ]) ⟨hB, hz, s0, s1, x2, q2, n2, h0, h1, (fun _ => rfl), h3, h4, h5, h6, h7, h8, h9, h10, h11, h12, h13, h14⟩
   · go_wp2_with (go_at_call 208; refine (l01T_any _).mono ?_; rintro e wy ⟨rfl, hy⟩)
     exact hK _ (.agg (zb 64 (TP))) _ (by simp only [Act.put, pA, pB, pC ]) ⟨hB.trans (hy.mono hB.size), (Nat.le_trans hz hy.size), s0.zw hy, s1.zw hy, (let ⟨g, h⟩ := x2; ⟨g, h.zw hy⟩), (fun h => (q2 h).below hy (q2 h).lt), (fun h => (n2 h).below hy (n2 h).lt), h0, h1, h2, (fun _ => rfl), h4, h5, h6, h7, h8, h9, h10, h11, h12, h13, h14⟩
   · refine zlc s1 Try.underlying24 Try.size24 ?_
     exact hK _ _ _ rfl ⟨hB, hz, s0, s1, x2, q2, n2, h0, h1, h2, h3, (fun _ => rfl), h5, h6, h7, h8, h9, h10, h11, h12, h13, h14⟩
   · have e2 := h2 (zdq hd 2 rfl)
     have e3 := h3 (zdq hd 3 rfl)
     have e4 := h4 (zdq hd 4 rfl)
     go_wp2_with (go_at_call 129; refine (HMO.out _).mono ?_; rintro e wy ⟨rfl, hy⟩)
     exact hK _ (.agg (zb 64 (resP p TP m))) _ (by simp only [Act.put, pA, pB, pC, e2, e3, e4]) ⟨hB.trans (hy.mono hB.size), (Nat.le_trans hz hy.size), s0.zw hy, s1.zw hy, (let ⟨g, h⟩ := x2; ⟨g, h.zw hy⟩), (fun h => (q2 h).below hy (q2 h).lt), (fun h => (n2 h).below hy (n2 h).lt), h0, h1, h2, h3, h4, (fun _ => rfl), h6, h7, h8, h9, h10, h11, h12, h13, h14⟩
   · refine zlc s0 Try.underlying24 Try.size24 ?_
     exact hK _ _ _ rfl ⟨hB, hz, s0, s1, x2, q2, n2, h0, h1, h2, h3, h4, h5, (fun _ => rfl), h7, h8, h9, h10, h11, h12, h13, h14⟩
   · refine zlc s1 Try.underlying24 Try.size24 ?_
     exact hK _ _ _ rfl ⟨hB, hz, s0, s1, x2, q2, n2, h0, h1, h2, h3, h4, h5, h6, (fun _ => rfl), h8, h9, h10, h11, h12, h13, h14⟩
   · have e1 := h1 (zdq hd 1 rfl)
     have e5 := h5 (zdq hd 5 rfl)
     have e6 := h6 (zdq hd 6 rfl)
     have e7 := h7 (zdq hd 7 rfl)
     go_wp2_with (go_at_call 188; refine (HMM.out _).mono ?_; rintro e wy ⟨rfl, hy⟩)
     exact hK _ (.agg (zb 64 (mmP p (resP p TP m) f m))) _ (by simp only [Act.put, pA, pB, pC, e1, e5, e6, e7]) ⟨hB.trans (hy.mono hB.size), (Nat.le_trans hz hy.size), s0.zw hy, s1.zw hy, (let ⟨g, h⟩ := x2; ⟨g, h.zw hy⟩), (fun h => (q2 h).below hy (q2 h).lt), (fun h => (n2 h).below hy (n2 h).lt), h0, h1, h2, h3, h4, h5, h6, h7, (fun _ => rfl), h9, h10, h11, h12, h13, h14⟩
   · go_wp2_with fail
     exact hK _ (.int .i64 (p : Int)) _ (by simp only [Act.put, pA, pB, pC ]) ⟨hB, hz, s0, s1, x2, q2, n2, h0, h1, h2, h3, h4, h5, h6, h7, h8, (fun _ => rfl), h10, h11, h12, h13, h14⟩
   · refine zlc s0 Try.underlying24 Try.size24 ?_
     exact hK _ _ _ rfl ⟨hB, hz, s0, s1, x2, q2, n2, h0, h1, h2, h3, h4, h5, h6, h7, h8, h9, (fun _ => rfl), h11, h12, h13, h14⟩
   · go_wp2_with fail
     exact hK _ (.int .i64 (p : Int)) _ (by simp only [Act.put, pA, pB, pC ]) ⟨hB, hz, s0, s1, x2, q2, n2, h0, h1, h2, h3, h4, h5, h6, h7, h8, h9, h10, (fun _ => rfl), h12, h13, h14⟩
   · refine zlc s1 Try.underlying24 Try.size24 ?_
     exact hK _ _ _ rfl ⟨hB, hz, s0, s1, x2, q2, n2, h0, h1, h2, h3, h4, h5, h6, h7, h8, h9, h10, h11, (fun _ => rfl), h13, h14⟩
   · have e9 := h9 (zdq hd 9 rfl)
     have e10 := h10 (zdq hd 10 rfl)
     have e11 := h11 (zdq hd 11 rfl)
     have e12 := h12 (zdq hd 12 rfl)
     go_wp2_with (go_at_call 100; refine (HPM.out _).mono ?_; rintro e wy ⟨rfl, hy⟩)
     exact hK _ (.agg (zb 64 (pmP p f p m))) _ (by simp only [Act.put, pA, pB, pC, e9, e10, e11, e12]) ⟨hB.trans (hy.mono hB.size), (Nat.le_trans hz hy.size), s0.zw hy, s1.zw hy, (let ⟨g, h⟩ := x2; ⟨g, h.zw hy⟩), (fun h => (q2 h).below hy (q2 h).lt), (fun h => (n2 h).below hy (n2 h).lt), h0, h1, h2, h3, h4, h5, h6, h7, h8, h9, h10, h11, h12, (fun _ => rfl), h14⟩
   · have e0 := h0 (zdq hd 0 rfl)
     have e8 := h8 (zdq hd 8 rfl)
     have e13 := h13 (zdq hd 13 rfl)
     go_wp2_with (go_at_call 127; refine (HAD.out _).mono ?_; rintro e wy ⟨rfl, hy⟩)
     exact hK _ (.agg (zb 64 (addK p (mmP p (resP p TP m) f m) (pmP p f p m) 1))) _ (by simp only [Act.put, pA, pB, pC, e0, e8, e13]) ⟨hB.trans (hy.mono hB.size), (Nat.le_trans hz hy.size), s0.zw hy, s1.zw hy, (let ⟨g, h⟩ := x2; ⟨g, h.zw hy⟩), (fun h => (q2 h).below hy (q2 h).lt), (fun h => (n2 h).below hy (n2 h).lt), h0, h1, h2, h3, h4, h5, h6, h7, h8, h9, h10, h11, h12, h13, (fun _ => rfl)⟩
   have e14 := h14 (zdq hd 14 rfl)
   obtain ⟨gz, hk⟩ := x2
   refine zsb 24 _ _ rfl _ 64 (addK p (mmP p (resP p TP m) f m) (pmP p f p m) 1) rfl e14 24 gz hk Try.size24 ?_
   exact hK _ undef _ rfl ⟨zr hB (by omega) _, (by simpa [World.setRow] using hz), (s0).rowOther (by omega), (s1).rowOther (by omega), ⟨_, hk.row _⟩, (fun h => absurd h (by simp [setL])), (fun _ => hk.row _), h0, h1, h2, h3, h4, h5, h6, h7, h8, h9, h10, h11, h12, h13, h14⟩
 intro L v W2 hL ⟨hB, hz, s0, s1, x2, q2, n2, h0, h1, h2, h3, h4, h5, h6, h7, h8, h9, h10, h11, h12, h13, h14⟩
 have r2 := n2 (hL 15 (by decide))
 have e0 := h0 (hL 0 (by decide))
 have e1 := h1 (hL 1 (by decide))
 have e2 := h2 (hL 2 (by decide))
 have e3 := h3 (hL 3 (by decide))
 have e4 := h4 (hL 4 (by decide))
 have e5 := h5 (hL 5 (by decide))
 have e6 := h6 (hL 6 (by decide))
 have e7 := h7 (hL 7 (by decide))
 have e8 := h8 (hL 8 (by decide))
 have e9 := h9 (hL 9 (by decide))
 have e10 := h10 (hL 10 (by decide))
 have e11 := h11 (hL 11 (by decide))
 have e12 := h12 (hL 12 (by decide))
 have e13 := h13 (hL 13 (by decide))
 have e14 := h14 (hL 14 (by decide))
 clear hL x2 q2 n2 h0 h1 h2 h3 h4 h5 h6 h7 h8 h9 h10 h11 h12 h13 h14
 simp only [Exit.then, e0, e1, e2, e3, e4, e5, e6, e7, e8, e9, e10, e11, e12, e13, e14]
 clear e0 e1 e2 e3 e4 e5 e6 e7 e8 e9 e10 e11 e12 e13 e14
 replace B0 := s0
 clear s0
 replace B1 := s1
 clear s1
 replace B2 := r2
 clear r2
 replace hb := hB
 clear hB
 clear hbase hz lt_B0 lt_B1 lt_B2
 go_wp2_with fail
 refine bodyPost_ret (zrb rfl _ _ _ 64 24 5 _ rfl B2 Try.underlying24 Try.size24) rfl ⟨by rw [HV.out], hb⟩
theorem l04Act_any (p : Nat) (a f m : Nat → Nat) (w : World) (hpr : p = 2 ∨ p = 3 ∨ p = 5 ∨ p = 7) (la : ∀ k, k < 64 → a k < p) (lf : ∀ k, k < 64 → f k < p) (lm : ∀ k, k < 64 → m k < p) (h0 : 0 ≤ deg m) :
 Calls Try.prog 117 #[.int .i64 (p : Int), .agg (zb 64 a), .agg (zb 64 f), .agg (zb 64 m)] w fun e w' => e = .returned (.agg (zb 64 (acS p m a (resP p f m) (deg a + 1).toNat))) ∧ Below w.heap.size w w' := by
 have p0 : 0 < p := by omega
 have p2 : 2 ≤ p := by omega
 have p7 : p ≤ 7 := by omega
 obtain ⟨gb1, gb2⟩ := zdb a
 obtain ⟨NN, hNN⟩ : ∃ NN : Nat, deg a = (NN : Int) - 1 := ⟨(deg a + 1).toNat, by omega⟩
 have HD := Lib.hid hNN
 have hN6 : NN ≤ 64 := by omega
 have HT := Lib.hid (show (deg a + 1).toNat = NN by omega)
 have HMO := Lib.hid (fun W => l01Mod_any p f m W hpr lf lm h0)
 have HST := Lib.hid (fun (x : Nat → Nat) (hx : ∀ k, k < 64 → x k < p) W => l04Step_any p x m W hpr hx lm h0)
 have hr := resP_lt (b := m) p0 lf
 have hrd := (resP_deg hpr lf lm h0).1
 have HN := Lib.hid (fun j => acN_ok hpr lm h0 hr hrd j)
 have HSS := Lib.hid (fun j => acS_ok (a := a) hpr lm h0 hr hrd j)
 have hz0 : acS p m a (resP p f m) 0 = fun _ => 0 := by unfold acS; rfl
 have hn0 : acN p m (resP p f m) 0 = resP p f m := by unfold acN; rfl
 have HZ := Lib.hid hz0
 have HN0 := Lib.hid hn0
 have HSQ := Lib.hid (show ∀ j, acS p m a (resP p f m) (j + 1) = addK p (acS p m a (resP p f m) j) (acN p m (resP p f m) j) (a j : Int) from fun j => by rw [acS])
 have HNQ := Lib.hid (show ∀ j, acN p m (resP p f m) (j + 1) = stP p m (acN p m (resP p f m) j) from fun j => by rw [acN])
 clear hNN hr hrd hz0 hn0
 go_enter Try.func117, Try.ntmps117
 go_upto_region 1 with (fail)
 rw [← z64]
 obtain ⟨W1, hwo⟩ : ∃ v : World, v = ((((w.alloc (.cells (zb 64 (a)) 24)).alloc (.cells (zb 64 (f)) 24)).alloc (.cells (zb 64 (m)) 24)).alloc (.cells (zb 64 fun _ => 0) 24)) := ⟨_, rfl⟩
 have B0 : Blk W1 (w.heap.size) 64 24 (a) := by subst hwo; have := ((((Blk.new w 64 24 (a)).alloc (.cells (zb 64 (f)) 24)).alloc (.cells (zb 64 (m)) 24)).alloc (.cells (zb 64 fun _ => 0) 24)); simpa using this
 have B1 : Blk W1 (w.heap.size + 1) 64 24 (f) := by subst hwo; have := (((Blk.new (w.alloc (.cells (zb 64 (a)) 24)) 64 24 (f)).alloc (.cells (zb 64 (m)) 24)).alloc (.cells (zb 64 fun _ => 0) 24)); simpa using this
 have B2 : Blk W1 (w.heap.size + 1 + 1) 64 24 (m) := by subst hwo; have := ((Blk.new ((w.alloc (.cells (zb 64 (a)) 24)).alloc (.cells (zb 64 (f)) 24)) 64 24 (m)).alloc (.cells (zb 64 fun _ => 0) 24)); simpa using this
 have B3 : Blk W1 (w.heap.size + 1 + 1 + 1) 64 24 (fun _ => 0) := by subst hwo; have := (Blk.new (((w.alloc (.cells (zb 64 (a)) 24)).alloc (.cells (zb 64 (f)) 24)).alloc (.cells (zb 64 (m)) 24)) 64 24 (fun _ => 0)); simpa using this
 have hb : Below w.heap.size w W1 := by subst hwo; exact (((((Below.refl _ _).alloc (Nat.le_refl _) _).alloc (by simp) _).alloc (by simp; omega) _).alloc (by simp; omega) _)
 rw [← hwo]
 clear hwo
 have lt_B0 := B0.lt
 have lt_B1 := B1.lt
 have lt_B2 := B2.lt
 have lt_B3 := B3.lt
 go_upto_region 2 with (first | rw [← z64] | (refine zla (.tmp 6) B1 Try.underlying24 Try.size24 ?_) | (refine zla (.tmp 7) B2 Try.underlying24 Try.size24 ?_) | (go_at_call 129; refine (HMO.out _).mono ?_; rintro e W2 ⟨rfl, hW2⟩; replace B0 := B0.zw hW2; replace B1 := B1.zw hW2; replace B2 := B2.zw hW2; replace B3 := B3.zw hW2; replace hb := (hb).trans (hW2.mono (hb).size)) | (refine wpList_store_blk rfl 24 (.tmp 9) (.tmp 12) rfl _ 64 (fun _ => 0) rfl rfl 24 _ (((Blk.new W2 64 24 (fun _ => 0)).alloc (.cells (zb 64 fun _ => 0) 24))) Try.size24 ?_; try simp only [Act.put]) | (refine wpList_store_blk rfl 24 (.tmp 10) (.tmp 16) rfl _ 64 (resP p f m) rfl rfl 24 _ (((show Blk ((W2.alloc (.cells (zb 64 fun _ => 0) 24)).alloc (.cells (zb 64 fun _ => 0) 24)) (W2.heap.size + 1) 64 24 (fun _ => 0) by have := Blk.new (W2.alloc (.cells (zb 64 fun _ => 0) 24)) 64 24 (fun _ => 0); simpa using this).rowOther (by omega))) Try.size24 ?_; try simp only [Act.put]))
 have lt_B0 := B0.lt
 have lt_B1 := B1.lt
 have lt_B2 := B2.lt
 have lt_B3 := B3.lt
 have lhb := hb.size
 obtain ⟨W3, hwo, hzQ⟩ : ∃ v : World, v = ((((W2.alloc (.cells (zb 64 fun _ => 0) 24)).alloc (.cells (zb 64 fun _ => 0) 24)).setRow (W2.heap.size) (zb 64 (fun _ => 0))).setRow (W2.heap.size + 1) (zb 64 (resP p f m))) ∧ Blk v (w.heap.size) 64 24 (a) ∧ Blk v (w.heap.size + 1) 64 24 (f) ∧ Blk v (w.heap.size + 1 + 1) 64 24 (m) ∧ Blk v (w.heap.size + 1 + 1 + 1) 64 24 (fun _ => 0) ∧ Blk v (W2.heap.size) 64 24 (fun _ => 0) ∧ Blk v (W2.heap.size + 1) 64 24 (resP p f m) ∧ Below w.heap.size w v := ⟨_, rfl, ((((B0.alloc (.cells (zb 64 fun _ => 0) 24)).alloc (.cells (zb 64 fun _ => 0) 24)).rowOther (by omega)).rowOther (by omega)), ((((B1.alloc (.cells (zb 64 fun _ => 0) 24)).alloc (.cells (zb 64 fun _ => 0) 24)).rowOther (by omega)).rowOther (by omega)), ((((B2.alloc (.cells (zb 64 fun _ => 0) 24)).alloc (.cells (zb 64 fun _ => 0) 24)).rowOther (by omega)).rowOther (by omega)), ((((B3.alloc (.cells (zb 64 fun _ => 0) 24)).alloc (.cells (zb 64 fun _ => 0) 24)).rowOther (by omega)).rowOther (by omega)), ((((Blk.new W2 64 24 (fun _ => 0)).alloc (.cells (zb 64 fun _ => 0) 24)).row (fun _ => 0)).rowOther (by omega)), (((show Blk ((W2.alloc (.cells (zb 64 fun _ => 0) 24)).alloc (.cells (zb 64 fun _ => 0) 24)) (W2.heap.size + 1) 64 24 (fun _ => 0) by have := Blk.new (W2.alloc (.cells (zb 64 fun _ => 0) 24)) 64 24 (fun _ => 0); simpa using this).rowOther (by omega)).row (resP p f m)), (zr (zr ((hb.alloc (by have := hb.size; simp; omega) (.cells (zb 64 fun _ => 0) 24)).alloc (by have := hb.size; simp; omega) (.cells (zb 64 fun _ => 0) 24)) (by omega) _) (by omega) _)⟩
 rw [← hwo]
 clear hwo B0 B1 B2 B3 hb
 obtain ⟨B0, B1, B2, B3, B4, B5, hb⟩ := hzQ
 obtain ⟨N1, hNN⟩ : ∃ n : Nat, n = W2.heap.size := ⟨_, rfl⟩
 rw [← hNN] at lt_B0 lt_B1 lt_B2 lt_B3 lhb B4 B5 ⊢
 clear hNN
 have zN1_0 := lt_B0
 have zN1_1 := lt_B1
 have zN1_2 := lt_B2
 have zN1_3 := lt_B3
 have zN1 := lhb
 clear lt_B0 lt_B1 lt_B2 lt_B3 lhb
 try simp only [Act.put, pA, pB, pC]
 go_wp2_with fail
 go_loopw [11] (fun i wr => ∃ j : Nat, i = .int .i64 (j : Int) ∧ j ≤ NN ∧ Below w.heap.size w wr ∧ Blk wr (w.heap.size) 64 24 a ∧ Blk wr (w.heap.size + 1 + 1) 64 24 m ∧ Blk wr (w.heap.size + 1 + 1 + 1) 64 24 (fun _ => 0) ∧ Blk wr (N1) 64 24 (acS p m a (resP p f m) j) ∧ Blk wr (N1 + 1) 64 24 (acN p m (resP p f m) j)) (fun i _ => NN - (intOf i).toNat)
 case atStart => exact ⟨0, rfl, Nat.zero_le _, hb, B0, B2, B3, by rw [HZ.out]; exact B4, by rw [HN0.out]; exact B5⟩
 case round =>
  clear hb B0 B1 B2 B3 B4 B5
  obtain ⟨j, rfl, hjn, hb, B0, B2, B3, B4, B5⟩ := hrel
  by_cases hj : j < NN
  · have hji : (j : Int) ≤ (NN : Int) - 1 := by omega
    have hj6 : j < 64 := by omega
    obtain ⟨s1, s2, _⟩ := HSS.out j
    obtain ⟨t1, t2, _⟩ := HN.out j
    have HT1 := Lib.hid t1
    have laj := la j hj6
    obtain ⟨C, hC⟩ : ∃ C, C = a j := ⟨_, rfl⟩
    rw [← hC] at laj
    have HC := Lib.hid hC
    clear hC
    have HA := Lib.hid (fun W => l01Add_any p (acS p m a (resP p f m) j) (acN p m (resP p f m) j) (C : Int) W p2 p7 (by omega) (by omega) (fun k _ => s1 k) t1)
    have HE := Lib.hid (show addK p (acS p m a (resP p f m) j) (acN p m (resP p f m) j) (C : Int) = acS p m a (resP p f m) (j + 1) by rw [HC.out, HSQ.out])
    clear s1 s2 t1 t2
    go_upto_region 5 with (first | (refine zla (.tmp 5) B0 Try.underlying24 Try.size24 ?_) | (go_at_call 124; refine (l01Deg_any a _).mono ?_; rintro e W4 ⟨rfl, hW4⟩; replace B0 := B0.zw hW4; replace B2 := B2.zw hW4; replace B3 := B3.zw hW4; replace B4 := B4.zw hW4; replace B5 := B5.zw hW4; replace hb := (hb).trans (hW4.mono (hb).size); rw [HD.out]))
    have lt_B0 : (w.heap.size) < W4.heap.size := B0.lt
    have lt_B2 : (w.heap.size + 1 + 1) < W4.heap.size := B2.lt
    have lt_B3 : (w.heap.size + 1 + 1 + 1) < W4.heap.size := B3.lt
    have lt_B4 : (N1) < W4.heap.size := B4.lt
    have lt_B5 : (N1 + 1) < W4.heap.size := B5.lt
    have hbase : w.heap.size ≤ W4.heap.size := hb.size
    refine zq Try.mixed (by kernel_rfl) (by kernel_rfl) (fun v => by (simp only [frL, Act.put, pA, pB, pC, Nat.reduceAdd, Nat.zero_add]; exact rfl))
     (fun L v W5 => Below w.heap.size w W5 ∧ W4.heap.size ≤ W5.heap.size ∧ Blk W5 (w.heap.size) 64 24 (a) ∧ Blk W5 (w.heap.size + 1 + 1) 64 24 (m) ∧ Blk W5 (w.heap.size + 1 + 1 + 1) 64 24 (fun _ => 0) ∧ (∃ g, Blk W5 (N1) 64 24 (g)) ∧ (L 8 = false → Blk W5 (N1) 64 24 (acS p m a (resP p f m) j)) ∧ (L 8 = true → Blk W5 (N1) 64 24 (addK p (acS p m a (resP p f m) j) (acN p m (resP p f m) j) (C : Int))) ∧ Blk W5 (N1 + 1) 64 24 (acN p m (resP p f m) j) ∧ (L 0 = true → v 0 = (.int .i64 (p : Int))) ∧ (L 1 = true → v 1 = (.agg (zb 64 (acS p m a (resP p f m) j)))) ∧ (L 2 = true → v 2 = (.agg (zb 64 (acN p m (resP p f m) j)))) ∧ (L 3 = true → v 3 = (.int .i64 (j : Int))) ∧ (L 4 = true → v 4 = (.pointer (some ⟨w.heap.size, j, none⟩))) ∧ (L 5 = true → v 5 = (.int .u8 (C : Int))) ∧ (L 6 = true → v 6 = (.int .i64 (C : Int))) ∧ (L 7 = true → v 7 = (.agg (zb 64 (addK p (acS p m a (resP p f m) j) (acN p m (resP p f m) j) (C : Int)))))) ?_ ?_ ?_
    · intro v hv0
      exact ⟨hb.drew, Nat.le_refl _, B0.drew, B2.drew, B3.drew, ⟨_, B4.drew⟩, (fun _ => B4.drew), (fun h => by cases h), B5.drew, (fun h => by cases h), (fun h => by cases h), (fun h => by cases h), (fun h => by cases h), (fun h => by cases h), (fun h => by cases h), (fun h => by cases h), (fun h => by cases h)⟩
    · refine (.cons rfl ?_ (.cons rfl ?_ (.cons rfl ?_ (.cons rfl ?_ (.cons rfl ?_ (.cons rfl ?_ (.cons rfl ?_ (.cons rfl ?_ (.cons rfl ?_ (.nil _))))))))))
      all_goals intro L v W5 hd hn ⟨hB, hz, s0, s1, s2, x3, q3, n3, s4, h0, h1, h2, h3, h4, h5, h6, h7⟩ K hK
      · go_wp2_with fail
        exact hK _ (.int .i64 (p : Int)) _ (by simp only [Act.put, pA, pB, pC ]) ⟨hB, hz, s0, s1, s2, x3, q3, n3, s4, (fun _ => rfl), h1, h2, h3, h4, h5, h6, h7⟩
      · have s3 := q3 (by
         cases hL : L 8 with
         | false => rfl
         | true => exact absurd rfl (hn 8 _ rfl hL ⟨1, .phase⟩ (by simp) rfl))
        refine zlc s3 Try.underlying24 Try.size24 ?_
        exact hK _ _ _ rfl ⟨hB, hz, s0, s1, s2, x3, q3, n3, s4, h0, (fun _ => rfl), h2, h3, h4, h5, h6, h7⟩
      · refine zlc s4 Try.underlying24 Try.size24 ?_
        exact hK _ _ _ rfl ⟨hB, hz, s0, s1, s2, x3, q3, n3, s4, h0, h1, (fun _ => rfl), h3, h4, h5, h6, h7⟩
      · go_wp2_with fail
        exact hK _ (.int .i64 (j : Int)) _ (by simp only [Act.put, pA, pB, pC ]) ⟨hB, hz, s0, s1, s2, x3, q3, n3, s4, h0, h1, h2, (fun _ => rfl), h4, h5, h6, h7⟩
      · have e3 := h3 (zdq hd 3 rfl)
        go_wp2_with fail
        exact hK _ (.pointer (some ⟨w.heap.size, j, none⟩)) _ (by simp only [Act.put, pA, pB, pC, e3]) ⟨hB, hz, s0, s1, s2, x3, q3, n3, s4, h0, h1, h2, h3, (fun _ => rfl), h5, h6, h7⟩
      · have e4 := h4 (zdq hd 4 rfl)
        have cc := s0.cell (i := j) hj6
        rw [← HC.out] at cc
        go_wp2_with fail
        exact hK _ (.int .u8 (C : Int)) _ (by simp only [Act.put, pA, pB, pC, e4]) ⟨hB, hz, s0, s1, s2, x3, q3, n3, s4, h0, h1, h2, h3, h4, (fun _ => rfl), h6, h7⟩
      · have e5 := h5 (zdq hd 5 rfl)
        go_wp2_with fail
        exact hK _ (.int .i64 (C : Int)) _ (by simp only [Act.put, pA, pB, pC, e5]) ⟨hB, hz, s0, s1, s2, x3, q3, n3, s4, h0, h1, h2, h3, h4, h5, (fun _ => rfl), h7⟩
      · have e0 := h0 (zdq hd 0 rfl)
        have e1 := h1 (zdq hd 1 rfl)
        have e2 := h2 (zdq hd 2 rfl)
        have e6 := h6 (zdq hd 6 rfl)
        go_wp2_with (go_at_call 127; refine (HA.out _).mono ?_; rintro e wy ⟨rfl, hy⟩)
        exact hK _ (.agg (zb 64 (addK p (acS p m a (resP p f m) j) (acN p m (resP p f m) j) (C : Int)))) _ (by simp only [Act.put, pA, pB, pC, e0, e1, e2, e6]) ⟨hB.trans (hy.mono hB.size), (Nat.le_trans hz hy.size), s0.zw hy, s1.zw hy, s2.zw hy, (let ⟨g, h⟩ := x3; ⟨g, h.zw hy⟩), (fun h => (q3 h).below hy (q3 h).lt), (fun h => (n3 h).below hy (n3 h).lt), s4.zw hy, h0, h1, h2, h3, h4, h5, h6, (fun _ => rfl)⟩
      have e7 := h7 (zdq hd 7 rfl)
      obtain ⟨gz, hk⟩ := x3
      refine zsb 24 _ _ rfl _ 64 (addK p (acS p m a (resP p f m) j) (acN p m (resP p f m) j) (C : Int)) rfl e7 24 gz hk Try.size24 ?_
      exact hK _ undef _ rfl ⟨zr hB (by omega) _, (by simpa [World.setRow] using hz), (s0).rowOther (by omega), (s1).rowOther (by omega), (s2).rowOther (by omega), ⟨_, hk.row _⟩, (fun h => absurd h (by simp [setL])), (fun _ => hk.row _), (s4).rowOther (by omega), h0, h1, h2, h3, h4, h5, h6, h7⟩
    intro L v W5 hL ⟨hB, hz, s0, s1, s2, x3, q3, n3, s4, h0, h1, h2, h3, h4, h5, h6, h7⟩
    have r3 := n3 (hL 8 (by decide))
    have e0 := h0 (hL 0 (by decide))
    have e1 := h1 (hL 1 (by decide))
    have e2 := h2 (hL 2 (by decide))
    have e3 := h3 (hL 3 (by decide))
    have e4 := h4 (hL 4 (by decide))
    have e5 := h5 (hL 5 (by decide))
    have e6 := h6 (hL 6 (by decide))
    have e7 := h7 (hL 7 (by decide))
    clear hL x3 q3 n3 h0 h1 h2 h3 h4 h5 h6 h7
    simp only [Exit.then, e0, e1, e2, e3, e4, e5, e6, e7]
    clear e0 e1 e2 e3 e4 e5 e6 e7
    replace B0 := s0
    clear s0
    replace B2 := s1
    clear s1
    replace B3 := s2
    clear s2
    replace B4 := r3
    clear r3
    replace B5 := s4
    clear s4
    replace hb := hB
    clear hB
    clear hbase hz lt_B0 lt_B2 lt_B3 lt_B4 lt_B5
    go_upto_region 6 with (fail)
    have lt_B0 := B0.lt
    have lt_B2 := B2.lt
    have lt_B3 := B3.lt
    have lt_B4 := B4.lt
    have lt_B5 := B5.lt
    go_upto_region 4 with (first | rw [← z64] | (refine zla (.tmp 10) B5 Try.underlying24 Try.size24 ?_) | (refine zla (.tmp 7) B2 Try.underlying24 Try.size24 ?_) | (go_at_call 203; refine (HST.out _ HT1.out _).mono ?_; rintro e W6 ⟨rfl, hW6⟩; replace B0 := B0.zw hW6; replace B2 := B2.zw hW6; replace B3 := B3.zw hW6; replace B4 := B4.zw hW6; replace B5 := B5.zw hW6; replace hb := (hb).trans (hW6.mono (hb).size)) | (refine zsr (.tmp 10) (.tmp 34) (stP p m (acN p m (resP p f m) j)) B5 Try.size24 ?_; try simp only [Act.put]))
    obtain ⟨W7, hwo, hzQ⟩ : ∃ v : World, v = (W6.setRow (N1 + 1) (zb 64 (stP p m (acN p m (resP p f m) j)))) ∧ Blk v (w.heap.size) 64 24 (a) ∧ Blk v (w.heap.size + 1 + 1) 64 24 (m) ∧ Blk v (w.heap.size + 1 + 1 + 1) 64 24 (fun _ => 0) ∧ Blk v (N1) 64 24 (addK p (acS p m a (resP p f m) j) (acN p m (resP p f m) j) (C : Int)) ∧ Blk v (N1 + 1) 64 24 (stP p m (acN p m (resP p f m) j)) ∧ Below w.heap.size w v := ⟨_, rfl, (B0.rowOther (by omega)), (B2.rowOther (by omega)), (B3.rowOther (by omega)), (B4.rowOther (by omega)), (B5.row (stP p m (acN p m (resP p f m) j))), (zr hb (by omega) _)⟩
    rw [← hwo]
    clear hwo B0 B2 B3 B4 B5 hb
    obtain ⟨B0, B2, B3, B4, B5, hb⟩ := hzQ
    try simp only [Act.put, pA, pB, pC]
    go_wp2_with fail
    go_roundw
    case rel => exact ⟨j + 1, by go_num, by omega, hb, B0, B2, B3, by rw [← HE.out]; exact B4, by rw [HNQ.out]; exact B5⟩
    case measure => simp [intOf] <;> omega
  have hji : ¬ (j : Int) ≤ (NN : Int) - 1 := by omega
  obtain rfl : j = NN := by omega
  go_upto_region 7 with (first | (refine zla (.tmp 5) B0 Try.underlying24 Try.size24 ?_) | (go_at_call 124; refine (l01Deg_any a _).mono ?_; rintro e W4 ⟨rfl, hW4⟩; replace B0 := B0.zw hW4; replace B2 := B2.zw hW4; replace B3 := B3.zw hW4; replace B4 := B4.zw hW4; replace B5 := B5.zw hW4; replace hb := (hb).trans (hW4.mono (hb).size); rw [HD.out]))
  have lt_B0 := B0.lt
  have lt_B2 := B2.lt
  have lt_B3 := B3.lt
  have lt_B4 := B4.lt
  have lt_B5 := B5.lt
  go_wp2_with (first | rw [← z64] | (refine zla (.tmp 9) B4 Try.underlying24 Try.size24 ?_) | (refine zsr (.tmp 8) (.tmp 35) (acS p m a (resP p f m) j) B3 Try.size24 ?_; try simp only [Act.put]))
  obtain ⟨W5, hwo, hzQ⟩ : ∃ v : World, v = (W4.setRow (w.heap.size + 1 + 1 + 1) (zb 64 (acS p m a (resP p f m) j))) ∧ Blk v (w.heap.size) 64 24 (a) ∧ Blk v (w.heap.size + 1 + 1) 64 24 (m) ∧ Blk v (w.heap.size + 1 + 1 + 1) 64 24 (acS p m a (resP p f m) j) ∧ Blk v (N1) 64 24 (acS p m a (resP p f m) j) ∧ Blk v (N1 + 1) 64 24 (acN p m (resP p f m) j) ∧ Below w.heap.size w v := ⟨_, rfl, (B0.rowOther (by omega)), (B2.rowOther (by omega)), (B3.row (acS p m a (resP p f m) j)), (B4.rowOther (by omega)), (B5.rowOther (by omega)), (zr hb (by omega) _)⟩
  rw [← hwo]
  clear hwo B0 B2 B3 B4 B5 hb
  obtain ⟨B0, B2, B3, B4, B5, hb⟩ := hzQ
  try simp only [Act.put, pA, pB, pC]
  refine bodyPost_ret (zrb rfl _ _ _ 64 24 5 _ rfl B3 Try.underlying24 Try.size24) rfl ⟨by rw [HT.out], hb⟩
end Go.Proofs.Yteloknnooebabaa
