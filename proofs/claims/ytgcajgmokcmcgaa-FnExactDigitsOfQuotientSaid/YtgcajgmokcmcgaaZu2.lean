/-
  What the rows of this claim rest on: arrays of bytes, walks of the functions, plain mathematics.
-/
import Derived.Test.YtgcajgmokcmcgaaZu1
import Derived.Laws.StructEq
import Derived.Laws.Tables
import Derived.Maps.OwnOps
import Derived.DeepKeys4
import Derived.Carry
import Derived.Test.YtgcajgmokcmcgaaProg
import Derived.OwnWalk
import Derived.Deep.MidRow
import Derived.Great.BuildSlice
import Derived.RangeFuncNested
import Derived.RangeFuncBound
import Derived.RangeFuncCalls
import Derived.RangeFuncLeaves
import Derived.Shelf.Abstract
import Derived.Shelf.RegionOpen
import Derived.OwnWalkIn
import Derived.TacticsInMore
import Derived.LoopNIn
import Derived.LoopIn
import Derived.Deep.CutBlock
section
namespace Go.Proofs.Ytgcajgmokcmcgaa
open Go.RowKit
set_option linter.unusedVariables false
set_option linter.unusedSimpArgs false
attribute [local irreducible] deg invN dS qS stp stpr quoP resP
theorem splice_cut (a g : Nat → Nat) (hg : ∀ k, 64 ≤ k → g k = 0) : splice (bl 128 g) 0 (bl 64 a) = bl 128 (cut a) := by
 unfold splice
 apply List.ext_getElem?
 intro i
 by_cases h : i < 64
 · rw [List.take_zero, List.nil_append, List.getElem?_append_left (by rw [zl]; exact h)]
   have e1 := bcells_get (f := a) h
   have e2 := bcells_get (f := cut a) (show i < 128 by omega)
   simp only [List.getElem?_toArray] at e1 e2
   rw [e1, e2, cut_in a h]
 · rw [List.take_zero, List.nil_append, List.getElem?_append_right (by rw [zl]; omega), zl, List.getElem?_drop]
   by_cases h2 : i < 128
   · have e1 := bcells_get (f := g) (show 0 + 64 + (i - 64) < 128 by omega)
     have e2 := bcells_get (f := cut a) h2
     simp only [List.getElem?_toArray] at e1 e2
     rw [e1, e2, zcz a (by omega), hg _ (by omega)]
   · rw [List.getElem?_eq_none (by rw [zl]; omega), List.getElem?_eq_none (by rw [zl]; omega)]
theorem wp_copy_splice {P : Program} {o : Oper} {a : Act} {w : World} {K : Act → World → Prop} {Q : Exit → Act → World → Prop} (hgd : o.guard = none) (d s : Operand) (dT sT : TypeId)
 (ho : o.op = .call { callee := .builtin .copy, args := #[d, s], argTypes := #[dT, sT] }) (elem : TypeId) (hu : P.underlying dT = some (.slice elem)) (hsz : (P.info? elem).map (·.size) = some 1)
 (dp sp : Option Addr) (dLen dCap sLen sCap : Nat) (hd : a.eval d = .slice dp dLen dCap) (hs : a.eval s = .slice sp sLen sCap)
 (g off : Nat) (cur : List Value) (t : TypeId) (hg : w.heap[g]? = some (.cells cur.toArray t (0, 0))) (cs : List Value) (hn : cs.length = Nat.min sLen dLen)
 (hpos : 0 < cs.length → dp = some ⟨g, off, none⟩ ∧ ∃ ad, sp = some ad ∧ ∀ j v, cs[j]? = some v → w.cell? (ad.add j) = some v)
 (hfit : off + cs.length ≤ cur.length) (h1 : ∀ v ∈ cs, v.oneCell' = true) (B : Nat) (w0 : World) (hb : Below B w0 w) (hBg : B ≤ g)
 (h : ∀ w', Hid (w'.heap[g]? = some (.cells (splice cur off cs).toArray t (0, 0))) → Below B w0 w' → K (a.put o.dst (goInt cs.length)) w') : Oper.wp P o a w K Q := by
 have := step_copy_splice (P := P) (ops := #[]) (K := K) (Q := Q) (E := True) hgd d s dT sT ho elem hu hsz dp sp dLen dCap sLen sCap hd hs g off cur t hg cs hn hpos hfit h1 B w0 hb hBg h
 rwa [if_pos (by simp [Region.wanted, hgd])] at this
set_option maxRecDepth 100000 in
set_option maxHeartbeats 3200000 in
theorem quotientAndRest_any (p : Nat) (a b : Nat → Nat) (w : World) (hp : p = 2 ∨ p = 3 ∨ p = 5 ∨ p = 7) (ha : ∀ k, k < 64 → a k < p) (hbp : ∀ k, k < 64 → b k < p) (hd : 0 ≤ deg b) :
 Calls Try.prog 118 #[.int .i64 (p : Int), .agg (zb 64 a), .agg (zb 64 b)] w fun e w' => e = .returned (.tuple #[.agg (zb 64 (quoP p a b)), .agg (zb 64 (resP p a b))]) ∧ Below w.heap.size w w' := by
 obtain ⟨m, hm⟩ : ∃ m : Nat, deg b = (m : Int) := ⟨(deg b).toNat, by omega⟩
 obtain ⟨hm6, hbm, _⟩ := deg_top hm
 have p0 : 0 < p := by omega
 have HL := Lib.hid (fun W => longDivision_any p m (cut a) b W hp (fun k _ => cut_all p0 ha k) hbp hm hbm hm6)
 have HQ := Lib.hid (quoP_at (p := p) (a := a) hm)
 have HR := Lib.hid (resP_at (p := p) (a := a) hm)
 clear hm hd ha hbp
 go_enter Try.func118, Try.ntmps118
 go_upto_region 2 with (fail)
 rw [← zero128, ← z64]
 obtain ⟨wo, hwo⟩ : ∃ wo : World, wo = (((((w.alloc (.cells (zb 64 a) 26)).alloc (.cells (zb 64 b) 26)).alloc (.cells (zb 64 fun _ => 0) 26)).alloc (.cells (zb 64 fun _ => 0) 26)).alloc (.cells (zb 128 fun _ => 0) 141)) := ⟨_, rfl⟩
 have b0 : Blk wo (w.heap.size) 64 26 a := by subst hwo; have := (((((Blk.new w 64 26 a).alloc (.cells (zb 64 b) 26)).alloc (.cells (zb 64 fun _ => 0) 26)).alloc (.cells (zb 64 fun _ => 0) 26)).alloc (.cells (zb 128 fun _ => 0) 141)); simpa using this
 have b1 : Blk wo (w.heap.size + 1) 64 26 b := by subst hwo; have := ((((Blk.new (w.alloc (.cells (zb 64 a) 26)) 64 26 b).alloc (.cells (zb 64 fun _ => 0) 26)).alloc (.cells (zb 64 fun _ => 0) 26)).alloc (.cells (zb 128 fun _ => 0) 141)); simpa using this
 have b2 : Blk wo (w.heap.size + 1 + 1) 64 26 (fun _ => 0) := by subst hwo; have := (((Blk.new ((w.alloc (.cells (zb 64 a) 26)).alloc (.cells (zb 64 b) 26)) 64 26 (fun _ => 0)).alloc (.cells (zb 64 fun _ => 0) 26)).alloc (.cells (zb 128 fun _ => 0) 141)); simpa using this
 have b3 : Blk wo (w.heap.size + 1 + 1 + 1) 64 26 (fun _ => 0) := by subst hwo; have := ((Blk.new (((w.alloc (.cells (zb 64 a) 26)).alloc (.cells (zb 64 b) 26)).alloc (.cells (zb 64 fun _ => 0) 26)) 64 26 (fun _ => 0)).alloc (.cells (zb 128 fun _ => 0) 141)); simpa using this
 have b4 : Blk wo (w.heap.size + 1 + 1 + 1 + 1) 128 141 (fun _ => 0) := by subst hwo; have := (Blk.new ((((w.alloc (.cells (zb 64 a) 26)).alloc (.cells (zb 64 b) 26)).alloc (.cells (zb 64 fun _ => 0) 26)).alloc (.cells (zb 64 fun _ => 0) 26)) 128 141 (fun _ => 0)); simpa using this
 have hb : Below w.heap.size w wo := by subst hwo; exact ((((((Below.refl _ _).alloc (Nat.le_refl _) _).alloc (by simp) _).alloc (by simp; omega) _).alloc (by simp; omega) _).alloc (by simp; omega) _)
 rw [← hwo]
 clear hwo
 have lt_b0 : (w.heap.size) < wo.heap.size := b0.lt
 have lt_b1 : (w.heap.size + 1) < wo.heap.size := b1.lt
 have lt_b2 : (w.heap.size + 1 + 1) < wo.heap.size := b2.lt
 have lt_b3 : (w.heap.size + 1 + 1 + 1) < wo.heap.size := b3.lt
 have lt_b4 : (w.heap.size + 1 + 1 + 1 + 1) < wo.heap.size := b4.lt
 have hbase : w.heap.size ≤ wo.heap.size := hb.size
 refine zq Try.mixed (by kernel_rfl) (by kernel_rfl) (fun v => by (simp only [frL, Act.put, pA, pB, pC, Nat.reduceAdd, Nat.zero_add]; exact rfl))
  (fun L v wx => Below w.heap.size w wx ∧ wo.heap.size ≤ wx.heap.size ∧ Blk wx (w.heap.size) 64 26 (a) ∧ Blk wx (w.heap.size + 1) 64 26 (b) ∧ Blk wx (w.heap.size + 1 + 1) 64 26 (fun _ => 0) ∧ Blk wx (w.heap.size + 1 + 1 + 1) 64 26 (fun _ => 0) ∧ (∃ g, Blk wx (w.heap.size + 1 + 1 + 1 + 1) 128 141 (g)) ∧ (L 2 = false → Blk wx (w.heap.size + 1 + 1 + 1 + 1) 128 141 (fun _ => 0)) ∧ (L 2 = true → Blk wx (w.heap.size + 1 + 1 + 1 + 1) 128 141 (cut a)) ∧ (L 0 = true → v 0 = (.slice (some ⟨w.heap.size + 1 + 1 + 1 + 1, 0, none⟩) 128 128)) ∧ (L 1 = true → v 1 = (.slice (some ⟨w.heap.size, 0, none⟩) 64 64)) ∧ (L 2 = true → v 2 = (goInt ((64 : Nat) : Int)))) ?_ ?_ ?_
 · intro v hv0
   exact ⟨hb.drew, Nat.le_refl _, b0.drew, b1.drew, b2.drew, b3.drew, ⟨_, b4.drew⟩, (fun _ => b4.drew), (fun h => by cases h), (fun h => by cases h), (fun h => by cases h), (fun h => by cases h)⟩
 · refine (.cons rfl ?_ (.cons rfl ?_ (.cons rfl ?_ (.nil _))))
   all_goals intro L v wx hd hn ⟨hB, hz, s0, s1, s2, s3, x4, q4, n4, h0, h1, h2⟩ K hK
   · go_wp2_with fail
     exact hK _ (.slice (some ⟨w.heap.size + 1 + 1 + 1 + 1, 0, none⟩) 128 128) _ (by simp only [Act.put, pA, pB, pC ]) ⟨hB, hz, s0, s1, s2, s3, x4, q4, n4, (fun _ => rfl), h1, h2⟩
   · go_wp2_with fail
     exact hK _ (.slice (some ⟨w.heap.size, 0, none⟩) 64 64) _ (by simp only [Act.put, pA, pB, pC ]) ⟨hB, hz, s0, s1, s2, s3, x4, q4, n4, h0, (fun _ => rfl), h2⟩
   · have e0 := h0 (zdq hd 0 rfl)
     have e1 := h1 (zdq hd 1 rfl)
     obtain ⟨gz, hk, hgz⟩ : ∃ g, Blk wx (w.heap.size + 1 + 1 + 1 + 1) 128 141 g ∧ ∀ k, 64 ≤ k → g k = 0 := by
      cases hL : L 2 with
      | false => exact ⟨_, q4 hL, fun _ _ => rfl⟩
      | true => exact ⟨_, n4 hL, fun k hk => zcz a hk⟩
     have hg : wx.heap[w.heap.size + 1 + 1 + 1 + 1]? = some (.cells (bl 128 gz).toArray 141 (0, 0)) := by unfold Blk at hk; exact hk
     refine wp_copy_splice rfl _ _ 143 143 rfl 5 Try.underlying143 Try.size5 _ _ _ _ _ _ e0 e1 (w.heap.size + 1 + 1 + 1 + 1) 0 (bl 128 gz) 141 hg (bl 64 a) (by rw [zl]; rfl) (fun _ => ⟨rfl, _, rfl, fun j v hv => by rw [addr_zero_add]; have := s0.range j v hv; rwa [Nat.zero_add] at this⟩) (by rw [zl, zl]; omega) bl_one (w.heap.size + 1 + 1 + 1 + 1) wx (Below.refl _ _) (Nat.le_refl _) ?_
     intro wy hyg hy
     have hnew : Blk wy (w.heap.size + 1 + 1 + 1 + 1) 128 141 (cut a) := by unfold Blk; rw [hyg.out, splice_cut a gz hgz]
     rw [zl]
     exact hK _ (goInt ((64 : Nat) : Int)) _ (by simp only [Act.put, pA, pB, pC, e0, e1]) ⟨hB.trans (hy.mono (by omega)), (Nat.le_trans hz hy.size), (s0).below hy (by omega), (s1).below hy (by omega), (s2).below hy (by omega), (s3).below hy (by omega), ⟨_, hnew⟩, (fun h => absurd h (by simp [setL])), (fun _ => hnew), h0, h1, (fun _ => rfl)⟩
 · intro L v wx hL ⟨hB, hz, s0, s1, s2, s3, x4, q4, n4, h0, h1, h2⟩
   have r4 := n4 (hL 2 (by decide))
   have e0 := h0 (hL 0 (by decide))
   have e1 := h1 (hL 1 (by decide))
   have e2 := h2 (hL 2 (by decide))
   clear hL x4 q4 n4 h0 h1 h2
   simp only [Exit.then, e0, e1, e2]
   clear e0 e1 e2
   replace hb := hB
   replace b1 := s1
   replace b2 := s2
   replace b3 := s3
   replace b4 := r4
   clear hB s1 s2 s3 r4 hz
   have hx10 : ∀ w1 : World, Blk ((w1.alloc (.cells (zb 128 fun _ => 0) 141)).alloc (.cells (zb 64 fun _ => 0) 26)) (w1.heap.size + 1) 64 26 (fun _ => 0) := fun w1 => by
    have := Blk.new (w1.alloc (.cells (zb 128 fun _ => 0) 141)) 64 26 (fun _ => 0)
    simpa using this
   have HX := Lib.hid hx10
   clear hx10
   go_upto_region 4 with (first | refine zlb rfl 141 _ rfl _ rfl 128 141 _ (b4) 5 Try.underlying141 Try.size141 ?_ | refine zlb rfl 26 _ rfl _ rfl 64 26 _ (b1) 5 Try.underlying26 Try.size26 ?_ | (go_at_call 165; refine (HL.out _).mono ?_; rintro e w1 ⟨rfl, h1⟩; rw [← HQ.out, ← HR.out]) | (rw [← zero128, ← z64]; refine wpList_store_blk rfl 141 _ _ rfl _ 128 (quoP p a b) rfl rfl 141 _ ((Blk.new w1 128 141 (fun _ => 0)).alloc _) Try.size141 ?_) | (refine wpList_store_blk rfl 26 _ _ rfl _ 64 (resP p a b) rfl rfl 26 _ ((HX.out w1).rowOther (by omega)) Try.size26 ?_))
   have a9 := (((Blk.new w1 128 141 (fun _ => 0)).alloc (.cells (zb 64 fun _ => 0) 26)).row (quoP p a b)).rowOther (k := w1.heap.size + 1) (cs := zb 64 (resP p a b)) (by omega)
   have a10 := ((HX.out w1).rowOther (k := w1.heap.size) (cs := zb 128 (quoP p a b)) (by omega)).row (resP p a b)
   have hb4 := zr (zr (((Below.refl w1.heap.size w1).alloc (Nat.le_refl _) (.cells (zb 128 fun _ => 0) 141)).alloc (by simp) (.cells (zb 64 fun _ => 0) 26)) (Nat.le_refl _) (zb 128 (quoP p a b))) (show w1.heap.size ≤ w1.heap.size + 1 by omega) (zb 64 (resP p a b))
   obtain ⟨w4, hw4⟩ : ∃ w4 : World, w4 = (((w1.alloc (.cells (zb 128 fun _ => 0) 141)).alloc (.cells (zb 64 fun _ => 0) 26)).setRow w1.heap.size (zb 128 (quoP p a b))).setRow (w1.heap.size + 1) (zb 64 (resP p a b)) := ⟨_, rfl⟩
   rw [← hw4] at a9 a10 hb4 ⊢
   clear hw4
   replace b2 := b2.zw h1
   replace b3 := b3.zw h1
   have hl3 := b3.lt
   replace b2 := b2.zw hb4
   replace b3 := b3.zw hb4
   replace hb := (hb.trans (h1.mono hb.size))
   replace hb := hb.trans (hb4.mono hb.size)
   obtain ⟨n9, hn9⟩ : ∃ n9, n9 = w1.heap.size := ⟨_, rfl⟩
   rw [← hn9] at a9 a10 hl3 ⊢
   clear hn9 hb4 h1 b1 b4
   have hat := fun (W : World) (a : Option Addr) => run_arrayAt (P := Try.prog) (w := W) 26 5 64 a 64 128 Try.underlying26 (by omega)
   have lt_a9 : (n9) < w4.heap.size := a9.lt
   have lt_a10 : (n9 + 1) < w4.heap.size := a10.lt
   have lt_b2 : (w.heap.size + 1 + 1) < w4.heap.size := b2.lt
   have lt_b3 : (w.heap.size + 1 + 1 + 1) < w4.heap.size := b3.lt
   have hbase : w.heap.size ≤ w4.heap.size := hb.size
   refine zq Try.mixed (by kernel_rfl) (by kernel_rfl) (fun v => by (simp only [frL, Act.put, pA, pB, pC, Nat.reduceAdd, Nat.zero_add]; exact rfl))
    (fun L v wx => Below w.heap.size w wx ∧ w4.heap.size ≤ wx.heap.size ∧ Blk wx (n9) 128 141 (quoP p a b) ∧ Blk wx (n9 + 1) 64 26 (resP p a b) ∧ (∃ g, Blk wx (w.heap.size + 1 + 1) 64 26 (g)) ∧ (L 4 = false → Blk wx (w.heap.size + 1 + 1) 64 26 (fun _ => 0)) ∧ (L 4 = true → Blk wx (w.heap.size + 1 + 1) 64 26 (quoP p a b)) ∧ (∃ g, Blk wx (w.heap.size + 1 + 1 + 1) 64 26 (g)) ∧ (L 5 = false → Blk wx (w.heap.size + 1 + 1 + 1) 64 26 (fun _ => 0)) ∧ (L 5 = true → Blk wx (w.heap.size + 1 + 1 + 1) 64 26 (resP p a b)) ∧ (L 0 = true → v 0 = (.slice (some ⟨n9, 0, none⟩) 64 128)) ∧ (L 1 = true → v 1 = (.pointer (some ⟨n9, 0, none⟩) )) ∧ (L 2 = true → v 2 = (.agg (zb 64 (quoP p a b)))) ∧ (L 3 = true → v 3 = (.agg (zb 64 (resP p a b))))) ?_ ?_ ?_
   · intro v hv0
     exact ⟨hb.drew, Nat.le_refl _, a9.drew, a10.drew, ⟨_, b2.drew⟩, (fun _ => b2.drew), (fun h => by cases h), ⟨_, b3.drew⟩, (fun _ => b3.drew), (fun h => by cases h), (fun h => by cases h), (fun h => by cases h), (fun h => by cases h), (fun h => by cases h)⟩
   · refine (.cons rfl ?_ (.cons rfl ?_ (.cons rfl ?_ (.cons rfl ?_ (.cons rfl ?_ (.cons rfl ?_ (.nil _)))))))
     all_goals intro L v wx hd hn ⟨hB, hz, s0, s1, x2, q2, n2, x3, q3, n3, h0, h1, h2, h3⟩ K hK
     · go_wp2_with fail
       exact hK _ (.slice (some ⟨n9, 0, none⟩) 64 128) _ (by simp only [Act.put, pA, pB, pC ]) ⟨hB, hz, s0, s1, x2, q2, n2, x3, q3, n3, (fun _ => rfl), h1, h2, h3⟩
     · have e0 := h0 (zdq hd 0 rfl)
       go_wp2_with fail
       exact hK _ (.pointer (some ⟨n9, 0, none⟩) ) _ (by simp only [Act.put, pA, pB, pC, e0]) ⟨hB, hz, s0, s1, x2, q2, n2, x3, q3, n3, h0, (fun _ => rfl), h2, h3⟩
     · have e1 := h1 (zdq hd 1 rfl)
       refine wp_load_mid 26 _ rfl _ (0) e1 _ _ (s0.pre (m := 64) (by omega)) Try.underlying26 rfl (by rw [zl]; exact Try.size26) ?_
       exact hK _ _ _ rfl ⟨hB, hz, s0, s1, x2, q2, n2, x3, q3, n3, h0, h1, (fun _ => rfl), h3⟩
     · refine wp_load_blk 26 _ rfl _ rfl 64 26 _ s1 _ Try.underlying26 Try.size26 ?_
       exact hK _ _ _ rfl ⟨hB, hz, s0, s1, x2, q2, n2, x3, q3, n3, h0, h1, h2, (fun _ => rfl)⟩
     · have e2 := h2 (zdq hd 2 rfl)
       obtain ⟨gz, hk⟩ := x2
       refine zsb 26 _ _ rfl _ 64 (quoP p a b) rfl e2 26 gz hk Try.size26 ?_
       exact hK _ undef _ rfl ⟨zr hB (by omega) _, (by simpa [World.setRow] using hz), (s0).rowOther (by omega), (s1).rowOther (by omega), ⟨_, hk.row _⟩, (fun h => absurd h (by simp [setL])), (fun _ => hk.row _), (let ⟨g, h⟩ := x3; ⟨g, (h).rowOther (by omega)⟩), (fun h => (q3 h).rowOther (by omega)), (fun h => (n3 h).rowOther (by omega)), h0, h1, h2, h3⟩
     · have e3 := h3 (zdq hd 3 rfl)
       obtain ⟨gz, hk⟩ := x3
       refine zsb 26 _ _ rfl _ 64 (resP p a b) rfl e3 26 gz hk Try.size26 ?_
       exact hK _ undef _ rfl ⟨zr hB (by omega) _, (by simpa [World.setRow] using hz), (s0).rowOther (by omega), (s1).rowOther (by omega), (let ⟨g, h⟩ := x2; ⟨g, (h).rowOther (by omega)⟩), (fun h => (q2 h).rowOther (by omega)), (fun h => (n2 h).rowOther (by omega)), ⟨_, hk.row _⟩, (fun h => absurd h (by simp [setL])), (fun _ => hk.row _), h0, h1, h2, h3⟩
   · intro L v wx hL ⟨hB, hz, s0, s1, x2, q2, n2, x3, q3, n3, h0, h1, h2, h3⟩
     have r2 := n2 (hL 4 (by decide))
     have r3 := n3 (hL 5 (by decide))
     have e0 := h0 (hL 0 (by decide))
     have e1 := h1 (hL 1 (by decide))
     have e2 := h2 (hL 2 (by decide))
     have e3 := h3 (hL 3 (by decide))
     clear hL x2 q2 n2 x3 q3 n3 h0 h1 h2 h3
     simp only [Exit.then, e0, e1, e2, e3]
     clear e0 e1 e2 e3
     go_wp2_with fail
     show bodyPost Try.prog Try.f118 _ .ret _ _
     refine bodyPost_ret (results_bb rfl _ _ _ 64 26 5 _ _ 64 26 5 _ rfl r2 Try.underlying26 Try.size26 rfl r3 Try.underlying26 Try.size26) rfl ⟨rfl, hB⟩
end Go.Proofs.Ytgcajgmokcmcgaa
end
section
namespace Go.Proofs.Ytgcajgmokcmcgaa
open Go Go.RowKit
/-- the first n cells are the same -/
def eqN (n : Nat) (f g : Nat → Nat) : Bool := (List.range n).all fun i => f i == g i
theorem eqN_iff {n : Nat} {f g : Nat → Nat} : eqN n f g = true ↔ ∀ i, i < n → f i = g i := by
 simp [eqN, List.all_eq_true]
section
variable {P : Program}
theorem run_part_byte (w : World) (e n i : Nat) (f : Nat → Nat) (he : P.underlying e = some (.int .u8)) (hi : i < n) : (part e (zb n f) (i * 1)).run P w = .ok (.int .u8 (f i : Int)) w := by
 have h := bcells_get (f := f) hi
 rw [Nat.mul_one]
 unfold part isAgg
 simp only [Sem.run_bind, run_underlying he, Result.andThen_ok, Sem.run_pure]
 simp [h]
theorem zeb (w : World) (d t e n : Nat) (f g : Nat → Nat) (hu : P.underlying t = some (.array n e)) (he : P.underlying e = some (.int .u8)) (hs : (P.info? e).map (·.size) = some 1) :
 (Op.equalIn (d + 2) t (.agg (zb n f)) (.agg (zb n g))).run P w = .ok (eqN n f g) w := by
 have hsz : (sizeOf e).run P w = .ok 1 w := by
  cases hq : P.info? e with
  | none => simp [hq] at hs
  | some i =>
   have : i.size = 1 := by simpa [hq] using hs
   simp [sizeOf, typeInfo, hq, this, Sem.run_bind]
 rw [Op.equalIn]
 simp only [Sem.run_bind, run_underlying hu, Result.andThen_ok, hsz]
 rw [Std.Legacy.Range.forIn_eq_forIn_range']
 have key : ∀ l : List Nat, (∀ i, i ∈ l → i < n) → (forIn l ((none : Option Bool), ()) fun i __s => (do
           let __do_lift ← part e (zb n f) (i * 1)
           let __do_lift_1 ← part e (zb n g) (i * 1)
           let __do_lift ← Op.equalIn (d + 1) e __do_lift __do_lift_1
           if (!__do_lift) = true then pure (ForInStep.done (some false, ())) else pure (ForInStep.yield (none, ())) : Sem (ForInStep (Option Bool × Unit)))).run P w = .ok (if (l.all fun i => f i == g i) then none else some false, ()) w := by
  intro l
  induction l with
  | nil => intro _; simp
  | cons i l ih =>
   intro hl
   have hi := hl i (by simp)
   rw [List.forIn_cons]
   simp only [Sem.run_bind, run_part_byte w e n i f he hi, run_part_byte w e n i g he hi, Result.andThen_ok, run_equalIn_int w d e .u8 .u8 _ _ he]
   by_cases h : f i = g i
   · have h' : ((f i : Int) == (g i : Int)) = true := by simp [h]
     rw [h']
     simp only [Bool.not_true, Bool.false_eq_true, if_false, Sem.run_pure, Result.andThen_ok, List.all_cons, h, beq_self_eq_true, Bool.true_and]
     exact ih (fun j hj => hl j (by simp [hj]))
   · have h' : ((f i : Int) == (g i : Int)) = false := by simp; omega
     rw [h']
     simp [List.all_cons, h]
 have hr := key (List.range' 0 n) (fun i hi => by simpa using hi)
 have e1 : (List.range' 0 n).all (fun i => f i == g i) = eqN n f g := by rw [eqN, List.range_eq_range']
 rw [e1] at hr
 have e2 : ([:n].size) = n := by simp [Std.Legacy.Range.size]
 rw [show (List.range' [:n].start [:n].size [:n].step) = List.range' 0 n by rw [e2]]
 rw [hr]
 cases eqN n f g <;> simp
end
end Go.Proofs.Ytgcajgmokcmcgaa
end
section
namespace Go.Proofs.Ytgcajgmokcmcgaa
open Go.RowKit
set_option linter.unusedVariables false
set_option linter.unusedSimpArgs false
attribute [local irreducible] deg invN dS qS stp stpr quoP resP
theorem Try.noGuard26 : Try.prog.eqGuardType Try.prog.depth 26 = false := by kernel_rfl
theorem eqN_zero (f : Nat → Nat) : eqN 64 f (fun _ => 0) = decide (deg f < 0) := by
 by_cases h : deg f < 0
 · rw [eqN_iff.2 (deg_neg_iff.1 h)]; simp [h]
 · have : eqN 64 f (fun _ => 0) = false := by
    cases he : eqN 64 f (fun _ => 0) with
    | false => rfl
    | true => exact absurd (deg_neg_iff.2 (eqN_iff.1 he)) h
   rw [this]; simp [h]
theorem prime_of {n : Nat} {fs : List (Nat → Nat)} (h : codeL (n : Int) fs = 0) : n = 2 ∨ n = 3 ∨ n = 5 ∨ n = 7 := by
 rcases okP_cases (codeL_zero h).1 with h | h | h | h <;> omega
end Go.Proofs.Ytgcajgmokcmcgaa
end
section
namespace Go.Proofs.Ytgcajgmokcmcgaa
open Go.RowKit
set_option linter.unusedVariables false
/-- three polynomials, one behind the other -/
def c3 (r u v : Nat → Nat) : Nat → Nat := fun k => if k < 64 then r k else if k < 128 then u (k - 64) else v (k - 128)
end Go.Proofs.Ytgcajgmokcmcgaa
end
section
namespace Go.Proofs.Ytgcajgmokcmcgaa
open Go Go.RowKit
section
variable {P : Program}
theorem wp_load_any {o : Oper} {a : Act} {w : World} {K : Act → World → Prop} {Q : Exit → Act → World → Prop} (ty : TypeId) (x : Operand) (ho : o.op = .load ty x)
 (b : Nat) (hx : a.eval x = .pointer (some ⟨b, 0, none⟩)) (n : Nat) (t : TypeId) (f : Nat → Nat) (hb : Blk w b n t f) (d : TypeDesc)
 (hu : P.underlying ty = some d) (hd : (match d with | .struct _ | .array _ _ => true | _ => false) = true) (hi : (P.info? ty).map (·.size) = some n) (h : K (a.put o.dst (.agg (zb n f))) w) : o.wp P a w K Q := by
 have hb' : w.heap[b]? = some (.cells (zb n f) t (0, 0)) := by unfold Blk at hb; exact hb
 exact wp_load_row ty x ho b hx t _ (0, 0) d hb' hu hd (by rw [zbs]; exact hi) h
theorem zlc {o : Oper} {a : Act} {w : World} {K : Act → World → Prop} {Q : Exit → Act → World → Prop} {ty : TypeId} {x : Operand} {b n : Nat} {t : TypeId} {f : Nat → Nat} {d : TypeDesc} (hb : Blk w b n t f) (hu : P.underlying ty = some d) (hi : (P.info? ty).map (·.size) = some n) (h : K (a.put o.dst (.agg (zb n f))) w) (ho : o.op = .load ty x := by rfl) (hx : a.eval x = .pointer (some ⟨b, 0, none⟩) := by rfl) (hd : (match d with | .struct _ | .array _ _ => true | _ => false) = true := by rfl) : o.wp P a w K Q := wp_load_any ty x ho b hx n t f hb d hu hd hi h
theorem wpList_load_any {ops : Array Oper} {rest : List Oper} {o : Oper} {a : Act} {w : World} {Q : Exit → Act → World → Prop} (hgd : o.guard = none) (ty : TypeId) (x : Operand) (ho : o.op = .load ty x)
 (b : Nat) (hx : a.eval x = .pointer (some ⟨b, 0, none⟩)) (n : Nat) (t : TypeId) (f : Nat → Nat) (hb : Blk w b n t f) (d : TypeDesc)
 (hu : P.underlying ty = some d) (hd : (match d with | .struct _ | .array _ _ => true | _ => false) = true) (hi : (P.info? ty).map (·.size) = some n)
 (h : wpList P ops Q rest (a.put o.dst (.agg (zb n f))) w) : wpList P ops Q (o :: rest) a w := by
 have hb' : w.heap[b]? = some (.cells (zb n f) t (0, 0)) := by unfold Blk at hb; exact hb
 exact wpList_load_row hgd ty x ho b hx t _ (0, 0) d hb' hu hd (by rw [zbs]; exact hi) h
theorem zla {ops : Array Oper} {rest : List Oper} {o : Oper} {a : Act} {w : World} {Q : Exit → Act → World → Prop} {ty : TypeId} {b n : Nat} {t : TypeId} {f : Nat → Nat} {d : TypeDesc} (x : Operand) (hb : Blk w b n t f) (hu : P.underlying ty = some d) (hi : (P.info? ty).map (·.size) = some n) (h : wpList P ops Q rest (a.put o.dst (.agg (zb n f))) w) (hgd : o.guard = none := by rfl) (ho : o.op = .load ty x := by rfl) (hx : a.eval x = .pointer (some ⟨b, 0, none⟩) := by rfl) (hd : (match d with | .struct _ | .array _ _ => true | _ => false) = true := by rfl) : wpList P ops Q (o :: rest) a w := wpList_load_any hgd ty x ho b hx n t f hb d hu hd hi h
theorem zsr {ops : Array Oper} {rest : List Oper} {o : Oper} {a : Act} {w : World} {Q : Exit → Act → World → Prop} {ty : TypeId} {b n : Nat} {t : TypeId} {f : Nat → Nat} (x y : Operand) (g : Nat → Nat) (hb : Blk w b n t f) (hi : (P.info? ty).map (·.size) = some n) (h : wpList P ops Q rest (a.put o.dst undef) (w.setRow b (zb n g))) (hgd : o.guard = none := by rfl) (ho : o.op = .store ty x y := by rfl) (hx : a.eval x = .pointer (some ⟨b, 0, none⟩) := by rfl) (hy : a.eval y = .agg (zb n g) := by rfl) : wpList P ops Q (o :: rest) a w := wpList_store_blk hgd ty x y ho b n g hx hy t f hb hi h
theorem zlg {ops : Array Oper} {rest : List Oper} {o : Oper} {a : Act} {w : World} {Q : Exit → Act → World → Prop} (hw : Region.wanted o (yielded ops a.tmps) = true) (ty : TypeId) (x : Operand) (ho : o.op = .load ty x)
 (b : Nat) (hx : a.eval x = .pointer (some ⟨b, 0, none⟩)) (n : Nat) (t : TypeId) (f : Nat → Nat) (hb : Blk w b n t f) (d : TypeDesc)
 (hu : P.underlying ty = some d) (hd : (match d with | .struct _ | .array _ _ => true | _ => false) = true) (hi : (P.info? ty).map (·.size) = some n)
 (h : wpList P ops Q rest (a.put o.dst (.agg (zb n f))) w) : wpList P ops Q (o :: rest) a w := by
 unfold wpList
 rw [if_pos hw]
 exact Or.inl (wp_load_any ty x ho b hx n t f hb d hu hd hi h)
theorem wp_build_of {o : Oper} {a : Act} {w : World} {K : Act → World → Prop} {Q : Exit → Act → World → Prop} (t : TypeId) (parts : Array (Nat × Operand)) (ho : o.op = .build t parts)
 (cells : Array Value) (hc : P.built t (parts.map fun (i, x) => (i, a.eval x)).toList = some cells) (h : K (a.put o.dst (.agg cells)) w) : o.wp P a w K Q := by
 refine wp_build t parts ho (by rw [hc]; rfl) ?_
 rw [hc]; exact h
theorem zbo {ops : Array Oper} {rest : List Oper} {o : Oper} {a : Act} {w : World} {Q : Exit → Act → World → Prop} (hg : o.guard = none) (t : TypeId) (parts : Array (Nat × Operand)) (ho : o.op = .build t parts)
 (cells : Array Value) (hc : P.built t (parts.map fun (i, x) => (i, a.eval x)).toList = some cells) (h : wpList P ops Q rest (a.put o.dst (.agg cells)) w) : wpList P ops Q (o :: rest) a w :=
 wpList_plain hg fun _ hK => wp_build_of t parts ho cells hc (hK _ _ h)
end
end Go.Proofs.Ytgcajgmokcmcgaa
end
section
namespace Go.Proofs.Ytgcajgmokcmcgaa
attribute [local irreducible] deg invN
/-- the sum of t below n -/
def cs : Nat → (Nat → Int) → Int
 | 0, _ => 0
 | n + 1, t => cs n t + t n
theorem cs_z (t : Nat → Int) : cs 0 t = 0 := rfl
theorem cs_s (n : Nat) (t : Nat → Int) : cs (n + 1) t = cs n t + t n := rfl
theorem cs_congr {s t : Nat → Int} : ∀ n, (∀ i, i < n → s i = t i) → cs n s = cs n t
 | 0, _ => rfl
 | n + 1, h => by rw [cs_s, cs_s, cs_congr n (fun i hi => h i (by omega)), h n (by omega)]
theorem cs_front (t : Nat → Int) : ∀ n, cs (n + 1) t = t 0 + cs n (fun i => t (i + 1))
 | 0 => by rw [cs_s, cs_z, cs_z]; omega
 | n + 1 => by rw [cs_s, cs_front t n, cs_s]; omega
theorem cs_rev (t : Nat → Int) : ∀ n, cs (n + 1) t = cs (n + 1) (fun i => t (n - i))
 | 0 => rfl
 | n + 1 => by
  rw [cs_front (fun i => t (n + 1 - i)) (n + 1), cs_s, cs_rev t n, Nat.sub_zero]
  have : cs (n + 1) (fun i => t (n + 1 - (i + 1))) = cs (n + 1) (fun i => t (n - i)) := cs_congr _ (fun i _ => by rw [show n + 1 - (i + 1) = n - i by omega])
  omega
/-- the product -/
def mz (f g : Nat → Int) : Nat → Int := fun k => cs (k + 1) (fun i => f i * g (k - i))
theorem mz_comm (f g : Nat → Int) : mz f g = mz g f := by
 funext k
 unfold mz
 rw [cs_rev]
 exact cs_congr _ (fun i hi => by rw [show k - (k - i) = i by omega, Int.mul_comm])
def sz (f g : Nat → Int) : Nat → Int := fun k => f k - g k
def fin (f : Nat → Int) : Prop := ∃ N, ∀ k, N ≤ k → f k = 0
/-- the same modulo p -/
def cg (p : Int) (f g : Nat → Int) : Prop := ∀ k, p ∣ f k - g k
/-- the same modulo p and m -/
def rm (p : Int) (m f g : Nat → Int) : Prop := ∃ q, fin q ∧ cg p (sz f g) (mz q m)
/-- a polynomial's cells as a series -/
def lz (f : Nat → Nat) : Nat → Int := fun k => (cut f k : Int)
theorem mod_dvd (p : Nat) (x : Nat) : (p : Int) ∣ ((x % p : Nat) : Int) - (x : Int) := by
 have := Nat.div_add_mod x p
 refine ⟨-((x / p : Nat) : Int), ?_⟩
 rw [Int.mul_neg, ← Int.natCast_mul]
 omega
theorem cv_mz (p : Nat) (f g : Nat → Nat) (k : Nat) : ∀ i, (p : Int) ∣ (cv p f g i k : Int) - cs i (fun j => if j ≤ k then (f j : Int) * (g (k - j) : Int) else 0)
 | 0 => ⟨0, by rw [cv_zero, cs_z]; omega⟩
 | i + 1 => by
  rw [cv_succ, cs_s]
  have h1 := mod_dvd p (cv p f g i k + (if i ≤ k then f i * g (k - i) else 0))
  have h2 := cv_mz p f g k i
  have h3 : (((if i ≤ k then f i * g (k - i) else 0 : Nat)) : Int) = (if i ≤ k then (f i : Int) * (g (k - i) : Int) else 0) := by split <;> push_cast <;> rfl
  have := Int.dvd_add h1 h2
  rw [Int.natCast_add, h3] at this
  obtain ⟨c, hc⟩ := this
  exact ⟨c, by omega⟩
theorem cs_more {t : Nat → Int} (n : Nat) : ∀ d, (∀ i, n ≤ i → i < n + d → t i = 0) → cs (n + d) t = cs n t
 | 0, _ => rfl
 | d + 1, h => by
  rw [← Nat.add_assoc, cs_s, cs_more n d (fun i h1 h2 => h i h1 (by omega)), h (n + d) (by omega) (by omega)]
  omega
/-- the coefficients of the product, modulo p -/
theorem prd_mz (p : Nat) (f g : Nat → Nat) (k : Nat) : (p : Int) ∣ (prd p f g k : Int) - mz (lz f) (lz g) k := by
 have h := cv_mz p (cut f) (cut g) k 64
 have e : cs 64 (fun j => if j ≤ k then (cut f j : Int) * (cut g (k - j) : Int) else 0) = mz (lz f) (lz g) k := by
  unfold mz lz
  by_cases hk : k + 1 ≤ 64
  · have := cs_more (t := fun j => if j ≤ k then (cut f j : Int) * (cut g (k - j) : Int) else 0) (k + 1) (64 - (k + 1)) (fun i h1 _ => by rw [if_neg (by omega)])
    rw [show k + 1 + (64 - (k + 1)) = 64 by omega] at this
    rw [this]
    exact cs_congr _ (fun i hi => by rw [if_pos (by omega)])
  · have := cs_more (t := fun j => (cut f j : Int) * (cut g (k - j) : Int)) 64 (k + 1 - 64) (fun i h1 _ => by rw [zcz f h1]; simp)
    rw [show 64 + (k + 1 - 64) = k + 1 by omega] at this
    rw [this]
    exact cs_congr _ (fun i hi => by rw [if_pos (by omega)])
 rw [e] at h
 exact h
end Go.Proofs.Ytgcajgmokcmcgaa
end
section
namespace Go.Proofs.Ytgcajgmokcmcgaa
/-- sums and products as in the whole numbers -/
class Rg (R : Type) extends Add R, Mul R, Neg R where
 o : R
 e : R
 acomm : ∀ a b : R, a + b = b + a
 aassoc : ∀ a b c : R, a + b + c = a + (b + c)
 oadd : ∀ a : R, o + a = a
 nadd : ∀ a : R, -a + a = o
 mcomm : ∀ a b : R, a * b = b * a
 massoc : ∀ a b c : R, a * b * c = a * (b * c)
 emul : ∀ a : R, e * a = a
 madd : ∀ a b c : R, a * (b + c) = a * b + a * c
namespace Rg
variable {R : Type} [Rg R]
/-- a^n -/
def pw (a : R) : Nat → R
 | 0 => e
 | n + 1 => a * pw a n
/-- k times a -/
def nm : Nat → R → R
 | 0, _ => o
 | k + 1, a => nm k a + a
/-- the sum of c(i) x^i y^(n - i), for the n + 1 numbers of a list -/
def hm (x y : R) : List Nat → R
 | [] => o
 | c :: cs => nm c (pw y cs.length) + x * hm x y cs
def pas : Nat → List Nat → List Nat
 | q, [] => [q]
 | q, c :: cs => (q + c) :: pas c cs
def row : Nat → List Nat
 | 0 => [1]
 | n + 1 => pas 0 (row n)
end Rg
end Go.Proofs.Ytgcajgmokcmcgaa
namespace Go.Proofs.Ytgcajgmokcmcgaa
open Rg
def zS : Nat → Int := fun _ => 0
end Go.Proofs.Ytgcajgmokcmcgaa
set_option linter.unusedVariables false
namespace Go.Proofs.Ytgcajgmokcmcgaa
attribute [local irreducible] deg invN
/-- m divides f -/
def dv (p : Nat) (m f : Nat → Int) : Prop := rm p m f zS
end Go.Proofs.Ytgcajgmokcmcgaa
set_option linter.unusedVariables false
set_option linter.unusedVariables false
namespace Go.Proofs.Ytgcajgmokcmcgaa
attribute [local irreducible] deg invN quoP resP
/-- the number with the digits f below n -/
def vl (p : Nat) (f : Nat → Nat) : Nat → Nat
 | 0 => 0
 | n + 1 => f 0 + p * vl p (fun k => f (k + 1)) n
/-- the numbers of the monic polynomials of the degree n -/
def monL (p n : Nat) : List Nat := List.range' (p ^ n) (p ^ n)
/-- how often m divides a, and what is left -/
def dvo (p : Nat) (m : Nat → Nat) : Nat → (Nat → Nat) → Nat × (Nat → Nat)
 | 0, a => (0, a)
 | f + 1, a => if deg (resP p a m) < 0 then ((dvo p m f (quoP p a m)).1 + 1, (dvo p m f (quoP p a m)).2) else (0, a)
end Go.Proofs.Ytgcajgmokcmcgaa
set_option linter.unusedVariables false
namespace Go.Proofs.Ytgcajgmokcmcgaa
attribute [local irreducible] deg invN quoP resP
/-- all of a list, divided out one after the other: what is told, and what is left -/
def foR (p : Nat) : List Nat → (Nat → Nat) → List (Nat × Nat) × (Nat → Nat)
 | [], a => ([], a)
 | N :: ms, a => ((if 0 < (dvo p (ofN p N) 64 a).1 then [(N, (dvo p (ofN p N) 64 a).1)] else []) ++ (foR p ms (dvo p (ofN p N) 64 a).2).1, (foR p ms (dvo p (ofN p N) 64 a).2).2)
/-- degree by degree -/
def run (p : Nat) : Nat → Nat → (Nat → Nat) → List (Nat × Nat)
 | 0, _, _ => []
 | f + 1, n, a => if deg a ≤ 0 then [] else (foR p (monL p n) a).1 ++ run p f (n + 1) (foR p (monL p n) a).2
end Go.Proofs.Ytgcajgmokcmcgaa
set_option linter.unusedVariables false
set_option linter.unusedVariables false
set_option linter.unusedVariables false
set_option linter.unusedVariables false
end
section
namespace Go.Proofs.Ytgcajgmokcmcgaa
open Go.RowKit
set_option linter.unusedVariables false
set_option linter.unusedSimpArgs false
attribute [local irreducible] deg invN dS qS stp stpr quoP resP
set_option maxRecDepth 100000 in
set_option maxHeartbeats 400000 in
theorem l01Mod_any (p : Nat) (f m : Nat → Nat) (w : World) (hpr : p = 2 ∨ p = 3 ∨ p = 5 ∨ p = 7) (lf : ∀ k, k < 64 → f k < p) (lm : ∀ k, k < 64 → m k < p) (h0 : 0 ≤ deg m) :
 Calls Try.prog 65 #[.int .i64 (p : Int), .agg (zb 64 f), .agg (zb 64 m)] w fun e w' => e = .returned (.agg (zb 64 (resP p f m))) ∧ Below w.heap.size w w' := by
 go_enter Try.func65, Try.ntmps65
 go_upto_region 1 with (fail)
 rw [← z64]
 obtain ⟨W1, hwo⟩ : ∃ v : World, v = (((w.alloc (.cells (zb 64 (f)) 26)).alloc (.cells (zb 64 (m)) 26)).alloc (.cells (zb 64 fun _ => 0) 26)) := ⟨_, rfl⟩
 have B0 : Blk W1 (w.heap.size) 64 26 (f) := by subst hwo; have := (((Blk.new w 64 26 (f)).alloc (.cells (zb 64 (m)) 26)).alloc (.cells (zb 64 fun _ => 0) 26)); simpa using this
 have B1 : Blk W1 (w.heap.size + 1) 64 26 (m) := by subst hwo; have := ((Blk.new (w.alloc (.cells (zb 64 (f)) 26)) 64 26 (m)).alloc (.cells (zb 64 fun _ => 0) 26)); simpa using this
 have B2 : Blk W1 (w.heap.size + 1 + 1) 64 26 (fun _ => 0) := by subst hwo; have := (Blk.new ((w.alloc (.cells (zb 64 (f)) 26)).alloc (.cells (zb 64 (m)) 26)) 64 26 (fun _ => 0)); simpa using this
 have hb : Below w.heap.size w W1 := by subst hwo; exact ((((Below.refl _ _).alloc (Nat.le_refl _) _).alloc (by simp) _).alloc (by simp; omega) _)
 rw [← hwo]
 clear hwo
 have lt_B0 := B0.lt
 have lt_B1 := B1.lt
 have lt_B2 := B2.lt
 go_upto_region 2 with (first | rw [← z64] | (refine zla (.tmp 4) B0 Try.underlying26 Try.size26 ?_) | (refine zla (.tmp 5) B1 Try.underlying26 Try.size26 ?_) | (go_at_call 68; refine (l01Divide_any p f m _ hpr lf lm h0).mono ?_; rintro e W2 ⟨rfl, hW2⟩; replace B0 := B0.zw hW2; replace B1 := B1.zw hW2; replace B2 := B2.zw hW2; replace hb := (hb).trans (hW2.mono (hb).size)) | (refine wpList_store_blk rfl 26 (.tmp 7) (.tmp 14) rfl _ 64 (quoP p f m) rfl rfl 26 _ (((Blk.new W2 64 26 (fun _ => 0)).alloc (.cells (zb 64 fun _ => 0) 26))) Try.size26 ?_; try simp only [Act.put]) | (refine wpList_store_blk rfl 26 (.tmp 8) (.tmp 15) rfl _ 64 (resP p f m) rfl rfl 26 _ (((show Blk ((W2.alloc (.cells (zb 64 fun _ => 0) 26)).alloc (.cells (zb 64 fun _ => 0) 26)) (W2.heap.size + 1) 64 26 (fun _ => 0) by have := Blk.new (W2.alloc (.cells (zb 64 fun _ => 0) 26)) 64 26 (fun _ => 0); simpa using this).rowOther (by omega))) Try.size26 ?_; try simp only [Act.put]))
 have lt_B0 := B0.lt
 have lt_B1 := B1.lt
 have lt_B2 := B2.lt
 have lhb := hb.size
 obtain ⟨W3, hwo, hzQ⟩ : ∃ v : World, v = ((((W2.alloc (.cells (zb 64 fun _ => 0) 26)).alloc (.cells (zb 64 fun _ => 0) 26)).setRow (W2.heap.size) (zb 64 (quoP p f m))).setRow (W2.heap.size + 1) (zb 64 (resP p f m))) ∧ Blk v (w.heap.size) 64 26 (f) ∧ Blk v (w.heap.size + 1) 64 26 (m) ∧ Blk v (w.heap.size + 1 + 1) 64 26 (fun _ => 0) ∧ Blk v (W2.heap.size) 64 26 (quoP p f m) ∧ Blk v (W2.heap.size + 1) 64 26 (resP p f m) ∧ Below w.heap.size w v := ⟨_, rfl, ((((B0.alloc (.cells (zb 64 fun _ => 0) 26)).alloc (.cells (zb 64 fun _ => 0) 26)).rowOther (by omega)).rowOther (by omega)), ((((B1.alloc (.cells (zb 64 fun _ => 0) 26)).alloc (.cells (zb 64 fun _ => 0) 26)).rowOther (by omega)).rowOther (by omega)), ((((B2.alloc (.cells (zb 64 fun _ => 0) 26)).alloc (.cells (zb 64 fun _ => 0) 26)).rowOther (by omega)).rowOther (by omega)), ((((Blk.new W2 64 26 (fun _ => 0)).alloc (.cells (zb 64 fun _ => 0) 26)).row (quoP p f m)).rowOther (by omega)), (((show Blk ((W2.alloc (.cells (zb 64 fun _ => 0) 26)).alloc (.cells (zb 64 fun _ => 0) 26)) (W2.heap.size + 1) 64 26 (fun _ => 0) by have := Blk.new (W2.alloc (.cells (zb 64 fun _ => 0) 26)) 64 26 (fun _ => 0); simpa using this).rowOther (by omega)).row (resP p f m)), (zr (zr ((hb.alloc (by have := hb.size; simp; omega) (.cells (zb 64 fun _ => 0) 26)).alloc (by have := hb.size; simp; omega) (.cells (zb 64 fun _ => 0) 26)) (by omega) _) (by omega) _)⟩
 rw [← hwo]
 clear hwo B0 B1 B2 hb
 obtain ⟨B0, B1, B2, B3, B4, hb⟩ := hzQ
 obtain ⟨N1, hNN⟩ : ∃ n : Nat, n = W2.heap.size := ⟨_, rfl⟩
 rw [← hNN] at lt_B0 lt_B1 lt_B2 lhb B3 B4 ⊢
 clear hNN
 have zN1_0 := lt_B0
 have zN1_1 := lt_B1
 have zN1_2 := lt_B2
 have zN1 := lhb
 clear lt_B0 lt_B1 lt_B2 lhb
 try simp only [Act.put, pA, pB, pC]
 have lt_B0 := B0.lt
 have lt_B1 := B1.lt
 have lt_B2 := B2.lt
 have lt_B3 := B3.lt
 have lt_B4 := B4.lt
 go_wp2_with (first | rw [← z64] | (refine zla (.tmp 8) B4 Try.underlying26 Try.size26 ?_) | (refine zsr (.tmp 6) (.tmp 16) (resP p f m) B2 Try.size26 ?_; try simp only [Act.put]))
 obtain ⟨W4, hwo, hzQ⟩ : ∃ v : World, v = (W3.setRow (w.heap.size + 1 + 1) (zb 64 (resP p f m))) ∧ Blk v (w.heap.size) 64 26 (f) ∧ Blk v (w.heap.size + 1) 64 26 (m) ∧ Blk v (w.heap.size + 1 + 1) 64 26 (resP p f m) ∧ Blk v (N1) 64 26 (quoP p f m) ∧ Blk v (N1 + 1) 64 26 (resP p f m) ∧ Below w.heap.size w v := ⟨_, rfl, (B0.rowOther (by omega)), (B1.rowOther (by omega)), (B2.row (resP p f m)), (B3.rowOther (by omega)), (B4.rowOther (by omega)), (zr hb (by omega) _)⟩
 rw [← hwo]
 clear hwo B0 B1 B2 B3 B4 hb
 obtain ⟨B0, B1, B2, B3, B4, hb⟩ := hzQ
 try simp only [Act.put, pA, pB, pC]
 refine bodyPost_ret (zrb rfl _ _ _ 64 26 5 _ rfl B2 Try.underlying26 Try.size26) rfl ⟨rfl, hb⟩
end Go.Proofs.Ytgcajgmokcmcgaa
end
section
namespace Go.Proofs.Ytgcajgmokcmcgaa
open Go.RowKit
set_option linter.unusedVariables false
set_option linter.unusedSimpArgs false
attribute [local irreducible] deg invN dS qS stp stpr quoP resP
set_option maxRecDepth 100000 in
set_option maxHeartbeats 400000 in
theorem restOf_any (p : Nat) (f m : Nat → Nat) (w : World) (hpr : p = 2 ∨ p = 3 ∨ p = 5 ∨ p = 7) (lf : ∀ k, k < 64 → f k < p) (lm : ∀ k, k < 64 → m k < p) (h0 : 0 ≤ deg m) :
 Calls Try.prog 117 #[.int .i64 (p : Int), .agg (zb 64 f), .agg (zb 64 m)] w fun e w' => e = .returned (.agg (zb 64 (resP p f m))) ∧ Below w.heap.size w w' := by
 go_enter Try.func117, Try.ntmps117
 go_upto_region 1 with (fail)
 rw [← z64]
 obtain ⟨W1, hwo⟩ : ∃ v : World, v = (((w.alloc (.cells (zb 64 (f)) 26)).alloc (.cells (zb 64 (m)) 26)).alloc (.cells (zb 64 fun _ => 0) 26)) := ⟨_, rfl⟩
 have B0 : Blk W1 (w.heap.size) 64 26 (f) := by subst hwo; have := (((Blk.new w 64 26 (f)).alloc (.cells (zb 64 (m)) 26)).alloc (.cells (zb 64 fun _ => 0) 26)); simpa using this
 have B1 : Blk W1 (w.heap.size + 1) 64 26 (m) := by subst hwo; have := ((Blk.new (w.alloc (.cells (zb 64 (f)) 26)) 64 26 (m)).alloc (.cells (zb 64 fun _ => 0) 26)); simpa using this
 have B2 : Blk W1 (w.heap.size + 1 + 1) 64 26 (fun _ => 0) := by subst hwo; have := (Blk.new ((w.alloc (.cells (zb 64 (f)) 26)).alloc (.cells (zb 64 (m)) 26)) 64 26 (fun _ => 0)); simpa using this
 have hb : Below w.heap.size w W1 := by subst hwo; exact ((((Below.refl _ _).alloc (Nat.le_refl _) _).alloc (by simp) _).alloc (by simp; omega) _)
 rw [← hwo]
 clear hwo
 have lt_B0 := B0.lt
 have lt_B1 := B1.lt
 have lt_B2 := B2.lt
 go_upto_region 2 with (first | rw [← z64] | (refine zla (.tmp 4) B0 Try.underlying26 Try.size26 ?_) | (refine zla (.tmp 5) B1 Try.underlying26 Try.size26 ?_) | (go_at_call 118; refine (quotientAndRest_any p f m _ hpr lf lm h0).mono ?_; rintro e W2 ⟨rfl, hW2⟩; replace B0 := B0.zw hW2; replace B1 := B1.zw hW2; replace B2 := B2.zw hW2; replace hb := (hb).trans (hW2.mono (hb).size)) | (refine wpList_store_blk rfl 26 (.tmp 7) (.tmp 14) rfl _ 64 (quoP p f m) rfl rfl 26 _ (((Blk.new W2 64 26 (fun _ => 0)).alloc (.cells (zb 64 fun _ => 0) 26))) Try.size26 ?_; try simp only [Act.put]) | (refine wpList_store_blk rfl 26 (.tmp 8) (.tmp 15) rfl _ 64 (resP p f m) rfl rfl 26 _ (((show Blk ((W2.alloc (.cells (zb 64 fun _ => 0) 26)).alloc (.cells (zb 64 fun _ => 0) 26)) (W2.heap.size + 1) 64 26 (fun _ => 0) by have := Blk.new (W2.alloc (.cells (zb 64 fun _ => 0) 26)) 64 26 (fun _ => 0); simpa using this).rowOther (by omega))) Try.size26 ?_; try simp only [Act.put]))
 have lt_B0 := B0.lt
 have lt_B1 := B1.lt
 have lt_B2 := B2.lt
 have lhb := hb.size
 obtain ⟨W3, hwo, hzQ⟩ : ∃ v : World, v = ((((W2.alloc (.cells (zb 64 fun _ => 0) 26)).alloc (.cells (zb 64 fun _ => 0) 26)).setRow (W2.heap.size) (zb 64 (quoP p f m))).setRow (W2.heap.size + 1) (zb 64 (resP p f m))) ∧ Blk v (w.heap.size) 64 26 (f) ∧ Blk v (w.heap.size + 1) 64 26 (m) ∧ Blk v (w.heap.size + 1 + 1) 64 26 (fun _ => 0) ∧ Blk v (W2.heap.size) 64 26 (quoP p f m) ∧ Blk v (W2.heap.size + 1) 64 26 (resP p f m) ∧ Below w.heap.size w v := ⟨_, rfl, ((((B0.alloc (.cells (zb 64 fun _ => 0) 26)).alloc (.cells (zb 64 fun _ => 0) 26)).rowOther (by omega)).rowOther (by omega)), ((((B1.alloc (.cells (zb 64 fun _ => 0) 26)).alloc (.cells (zb 64 fun _ => 0) 26)).rowOther (by omega)).rowOther (by omega)), ((((B2.alloc (.cells (zb 64 fun _ => 0) 26)).alloc (.cells (zb 64 fun _ => 0) 26)).rowOther (by omega)).rowOther (by omega)), ((((Blk.new W2 64 26 (fun _ => 0)).alloc (.cells (zb 64 fun _ => 0) 26)).row (quoP p f m)).rowOther (by omega)), (((show Blk ((W2.alloc (.cells (zb 64 fun _ => 0) 26)).alloc (.cells (zb 64 fun _ => 0) 26)) (W2.heap.size + 1) 64 26 (fun _ => 0) by have := Blk.new (W2.alloc (.cells (zb 64 fun _ => 0) 26)) 64 26 (fun _ => 0); simpa using this).rowOther (by omega)).row (resP p f m)), (zr (zr ((hb.alloc (by have := hb.size; simp; omega) (.cells (zb 64 fun _ => 0) 26)).alloc (by have := hb.size; simp; omega) (.cells (zb 64 fun _ => 0) 26)) (by omega) _) (by omega) _)⟩
 rw [← hwo]
 clear hwo B0 B1 B2 hb
 obtain ⟨B0, B1, B2, B3, B4, hb⟩ := hzQ
 obtain ⟨N1, hNN⟩ : ∃ n : Nat, n = W2.heap.size := ⟨_, rfl⟩
 rw [← hNN] at lt_B0 lt_B1 lt_B2 lhb B3 B4 ⊢
 clear hNN
 have zN1_0 := lt_B0
 have zN1_1 := lt_B1
 have zN1_2 := lt_B2
 have zN1 := lhb
 clear lt_B0 lt_B1 lt_B2 lhb
 try simp only [Act.put, pA, pB, pC]
 have lt_B0 := B0.lt
 have lt_B1 := B1.lt
 have lt_B2 := B2.lt
 have lt_B3 := B3.lt
 have lt_B4 := B4.lt
 go_wp2_with (first | rw [← z64] | (refine zla (.tmp 8) B4 Try.underlying26 Try.size26 ?_) | (refine zsr (.tmp 6) (.tmp 16) (resP p f m) B2 Try.size26 ?_; try simp only [Act.put]))
 obtain ⟨W4, hwo, hzQ⟩ : ∃ v : World, v = (W3.setRow (w.heap.size + 1 + 1) (zb 64 (resP p f m))) ∧ Blk v (w.heap.size) 64 26 (f) ∧ Blk v (w.heap.size + 1) 64 26 (m) ∧ Blk v (w.heap.size + 1 + 1) 64 26 (resP p f m) ∧ Blk v (N1) 64 26 (quoP p f m) ∧ Blk v (N1 + 1) 64 26 (resP p f m) ∧ Below w.heap.size w v := ⟨_, rfl, (B0.rowOther (by omega)), (B1.rowOther (by omega)), (B2.row (resP p f m)), (B3.rowOther (by omega)), (B4.rowOther (by omega)), (zr hb (by omega) _)⟩
 rw [← hwo]
 clear hwo B0 B1 B2 B3 B4 hb
 obtain ⟨B0, B1, B2, B3, B4, hb⟩ := hzQ
 try simp only [Act.put, pA, pB, pC]
 refine bodyPost_ret (zrb rfl _ _ _ 64 26 5 _ rfl B2 Try.underlying26 Try.size26) rfl ⟨rfl, hb⟩
end Go.Proofs.Ytgcajgmokcmcgaa
end
section
namespace Go.Proofs.Ytgcajgmokcmcgaa
open Go Go.RowKit Go.ChangeMaps
open Go.Maps (Keyed)
/-- block b is a map with the entries L, keys of type k -/
def MapG (P : Program) (k : TypeId) (w : World) (b : Nat) (L : List (Value × Value)) : Prop :=
 ∃ es clock, w.heap[b]? = some (.map es clock) ∧ es.toList.map (fun e => (e.key, e.val)) = L ∧ ∀ e ∈ es.toList, ∃ l, keyOf P k e.key = some l
theorem MapG.lt {P : Program} {k : TypeId} {w : World} {b : Nat} {L : List (Value × Value)} (h : MapG P k w b L) : b < w.heap.size := by
 obtain ⟨es, clock, hb, _⟩ := h
 exact (Array.getElem?_eq_some_iff.1 hb).1
theorem MapG.new (P : Program) (k : TypeId) (w : World) : MapG P k (w.alloc (.map #[] 0)) w.heap.size [] := ⟨#[], 0, (MapKept.heap_alloc w _).1, rfl, by simp⟩
theorem MapG.of {P : Program} {k : TypeId} {w w' : World} {b : Nat} {L : List (Value × Value)} (h : MapG P k w b L) (e : w'.heap[b]? = w.heap[b]?) : MapG P k w' b L := by
 obtain ⟨es, clock, hb, r⟩ := h
 exact ⟨es, clock, e.trans hb, r⟩
theorem MapG.alloc {P : Program} {k : TypeId} {w : World} {b : Nat} {L : List (Value × Value)} (h : MapG P k w b L) (o : Obj) : MapG P k (w.alloc o) b L := h.of (Below.heap_alloc _ _ _ h.lt)
theorem MapG.drew {P : Program} {k : TypeId} {w : World} {b : Nat} {L : List (Value × Value)} (h : MapG P k w b L) : MapG P k w.drew b L := h
theorem MapG.below {P : Program} {k : TypeId} {w w' : World} {B b : Nat} {L : List (Value × Value)} (h : MapG P k w b L) (hb : Below B w w') (e : b < B) : MapG P k w' b L := h.of (hb.block b e)
theorem MapG.zw {P : Program} {k : TypeId} {w w' : World} {b : Nat} {L : List (Value × Value)} (h : MapG P k w b L) (hb : Below w.heap.size w w') : MapG P k w' b L := MapG.below h hb (MapG.lt h)
theorem MapG.setOther {P : Program} {k : TypeId} {w : World} {b : Nat} {L : List (Value × Value)} (h : MapG P k w b L) {a : Addr} {v : Value} (e : b ≠ a.block) : MapG P k (w.setCell a v) b L := h.of (heap_setCell_other _ _ _ _ e)
theorem MapG.rowOther {P : Program} {k : TypeId} {w : World} {b : Nat} {L : List (Value × Value)} (h : MapG P k w b L) {j : Nat} {cs : Array Value} (e : b ≠ j) : MapG P k (w.setRow j cs) b L := h.of (setRow_other _ _ _ _ e)
/-- block b is one cell that holds v -/
def One (w : World) (b : Nat) (t : TypeId) (v : Value) : Prop := w.heap[b]? = some (.cells #[v] t (0, 0))
theorem One.new (w : World) (t : TypeId) (v : Value) : One (w.alloc (.cells #[v] t)) w.heap.size t v := heap_alloc_last w _
theorem One.lt {w : World} {b : Nat} {t : TypeId} {v : Value} (h : One w b t v) : b < w.heap.size := by
 unfold One at h
 exact (Array.getElem?_eq_some_iff.1 h).1
theorem One.cell {w : World} {b : Nat} {t : TypeId} {v : Value} (h : One w b t v) : w.cell? ⟨b, 0, none⟩ = some v := by
 rw [cell_of_row _ _ _ _ _ _ h]; rfl
theorem One.frozen {w : World} {b : Nat} {t : TypeId} {v : Value} (h : One w b t v) (i : Nat) : w.frozen? ⟨b, i, none⟩ = false := frozen_of_row _ _ _ _ _ h
theorem One.of {w w' : World} {b : Nat} {t : TypeId} {v : Value} (h : One w b t v) (e : w'.heap[b]? = w.heap[b]?) : One w' b t v := by unfold One at *; rw [e]; exact h
theorem One.alloc {w : World} {b : Nat} {t : TypeId} {v : Value} (h : One w b t v) (o : Obj) : One (w.alloc o) b t v := h.of (Below.heap_alloc _ _ _ h.lt)
theorem One.drew {w : World} {b : Nat} {t : TypeId} {v : Value} (h : One w b t v) : One w.drew b t v := h
theorem One.below {w w' : World} {B b : Nat} {t : TypeId} {v : Value} (h : One w b t v) (hb : Below B w w') (e : b < B) : One w' b t v := h.of (hb.block b e)
theorem One.zw {w w' : World} {b : Nat} {t : TypeId} {v : Value} (h : One w b t v) (hb : Below w.heap.size w w') : One w' b t v := One.below h hb (One.lt h)
theorem One.setOther {w : World} {b : Nat} {t : TypeId} {v x : Value} (h : One w b t v) {a : Addr} (e : b ≠ a.block) : One (w.setCell a x) b t v := h.of (heap_setCell_other _ _ _ _ e)
theorem One.rowOther {w : World} {b : Nat} {t : TypeId} {v : Value} (h : One w b t v) {j : Nat} {cs : Array Value} (e : b ≠ j) : One (w.setRow j cs) b t v := h.of (setRow_other _ _ _ _ e)
theorem One.grown {w w' : World} {b j : Nat} {t : TypeId} {v : Value} (h : One w b t v) (hg : w.grownBy w' (some j)) (e : b ≠ j) : One w' b t v := h.of (hg.block b h.lt (fun x => e (by cases x; rfl)))
/-- the look-up at a key -/
theorem MapG.look {P : Program} {k e t : TypeId} (K : Keyed P k) (ht : P.underlying t = some (.map k e)) {w : World} {b : Nat} {L : List (Value × Value)} (h : MapG P k w b L) {z : Value} (hz : (zeroValue e).run P w = .ok z w) (c : Bool) {key : Value} {kl : Lit} (hkey : keyOf P k key = some kl) :
 ((Instr.lookup t (.map (some b)) key c).run P w = .ok (if c then .tuple #[z, .bool false] else z) w ∧ ∀ q ∈ L, q.1 ≠ key) ∨
 ∃ v, (key, v) ∈ L ∧ (Instr.lookup t (.map (some b)) key c).run P w = .ok (if c then .tuple #[v, .bool true] else v) w := by
 obtain ⟨es, clock, hb, rfl, hr⟩ := h
 rcases K.find w hkey es.toList hr with ⟨h1, h2⟩ | ⟨j, e0, h1, h2, h3⟩
 · refine .inl ⟨by simp [Instr.lookup, run_underlying ht, MapKept.run_getObj_map hb, K.check w _ hkey, h1, hz, Result.andThen], ?_⟩
   intro q hq
   obtain ⟨e, he, rfl⟩ := List.mem_map.1 hq
   exact h2 e he
 · refine .inr ⟨e0.val, ?_, by simp [Instr.lookup, run_underlying ht, MapKept.run_getObj_map hb, K.check w _ hkey, h1, Result.andThen]⟩
   exact List.mem_map.2 ⟨e0, List.mem_of_getElem? h2, by rw [h3]⟩
/-- a new key -/
theorem MapG.put {P : Program} {k e t : TypeId} (K : Keyed P k) (ht : P.underlying t = some (.map k e)) {w : World} {b : Nat} {L : List (Value × Value)} (h : MapG P k w b L) {key val : Value} {kl : Lit} (hkey : keyOf P k key = some kl) (hn : ∀ q ∈ L, q.1 ≠ key) :
 ∃ w', (Instr.mapUpdate t (.map (some b)) key val).run P w = .ok () w' ∧ MapG P k w' b (L ++ [(key, val)]) ∧ w.grownBy w' (some b) := by
 obtain ⟨es, clock, hb, rfl, hr⟩ := h
 rcases K.find w hkey es.toList hr with ⟨h1, h2⟩ | ⟨j, e0, h1, h2, h3⟩
 · refine ⟨setBlock w b (.map (es.push ⟨key, val, clock⟩) (clock + 1)), ?_, ⟨_, _, heap_setBlock_same hb _, by simp, ?_⟩, ⟨rfl, rfl, rfl, by simp [setBlock], fun i _ hi => heap_setBlock_other hb _ (fun e => hi (by rw [e]))⟩⟩
   · simp [Instr.mapUpdate, run_underlying ht, MapKept.run_getObj_map hb, K.check w false hkey, h1, MapKept.run_setObj_map _ hb, Result.andThen, setBlock]
   · intro x hx
     simp only [Array.toList_push, List.mem_append, List.mem_singleton] at hx
     rcases hx with hx | rfl
     · exact hr x hx
     · exact ⟨_, hkey⟩
 · exact absurd h3 (hn (e0.key, e0.val) (List.mem_map.2 ⟨e0, List.mem_of_getElem? h2, rfl⟩))
/-- what a store into the map leaves of another block -/
theorem Blk.grown {w w' : World} {b n j : Nat} {t : TypeId} {f : Nat → Nat} (h : Blk w b n t f) (hg : w.grownBy w' (some j)) (e : b ≠ j) : Blk w' b n t f := by
 have hl := h.lt
 unfold Blk at *; rw [hg.block b hl (fun x => e (by cases x; rfl))]; exact h
attribute [irreducible] MapG One
end Go.Proofs.Ytgcajgmokcmcgaa
end
section
namespace Go.Proofs.Ytgcajgmokcmcgaa
open Go Go.RowKit
set_option linter.unusedVariables false
/-- v is a slice of the rows cs, each of so many cells, in a block from base on (or nil) -/
def SlL (w : World) (base : Nat) (e : TypeId) (size : Nat) (v : Value) (cs : List (List Value)) : Prop := base ≤ w.heap.size ∧ (∀ c ∈ cs, c.length = size) ∧ w.ownsRow base e size v cs.length cs.flatten
theorem SlL.lt {w : World} {base : Nat} {e : TypeId} {size : Nat} {v : Value} {cs : List (List Value)} (h : SlL w base e size v cs) : base ≤ w.heap.size := h.1
theorem SlL.nil {w : World} {base : Nat} (e : TypeId) (size : Nat) (h : base ≤ w.heap.size) : SlL w base e size (.slice none 0 0) [] := ⟨h, by simp, World.ownsRow_nil _ _ _ _⟩
theorem SlL.grown {w w' : World} {base : Nat} {e : TypeId} {size : Nat} {v : Value} {cs : List (List Value)} {row : Option Nat} (h : SlL w base e size v cs) (hg : w.grownBy w' row) (hr : ∀ r, row = some r → r < base) : SlL w' base e size v cs :=
 ⟨Nat.le_trans h.1 hg.size, h.2.1, h.2.2.kept hg (by
  cases hv : v.ownBlock with
  | none => exact .inl rfl
  | some k =>
   right
   intro he
   have h1 := (h.2.2.lt k hv).1
   have h2 := hr k he.symm
   omega)⟩
theorem SlL.alloc {w : World} {base : Nat} {e : TypeId} {size : Nat} {v : Value} {cs : List (List Value)} (h : SlL w base e size v cs) (o : Obj) : SlL (w.alloc o) base e size v cs := h.grown (World.grownBy_alloc w o none) (fun r e => by cases e)
theorem SlL.drew {w : World} {base : Nat} {e : TypeId} {size : Nat} {v : Value} {cs : List (List Value)} (h : SlL w base e size v cs) : SlL w.drew base e size v cs := h
theorem SlL.below {w w' : World} {base : Nat} {e : TypeId} {size : Nat} {v : Value} {cs : List (List Value)} (h : SlL w base e size v cs) (hb : Below w.heap.size w w') (_ : base ≤ w.heap.size) : SlL w' base e size v cs :=
 h.grown (row := none) ⟨hb.os, hb.tape, hb.output, hb.size, fun k hk _ => hb.block k hk⟩ (fun r e => by cases e)
theorem SlL.zw {w w' : World} {base : Nat} {e : TypeId} {size : Nat} {v : Value} {cs : List (List Value)} (h : SlL w base e size v cs) (hb : Below w.heap.size w w') : SlL w' base e size v cs := SlL.below h hb (SlL.lt h)
theorem SlL.rowOther {w : World} {base : Nat} {e : TypeId} {size : Nat} {v : Value} {cs : List (List Value)} (h : SlL w base e size v cs) {k : Nat} {xs : Array Value} (hk : k < base) : SlL (w.setRow k xs) base e size v cs :=
 h.grown (row := some k) ⟨rfl, rfl, rfl, by simp [World.setRow], fun j _ hj => setRow_other _ _ _ _ (fun e => hj (by rw [e]))⟩ (fun r e => by cases e; exact hk)
theorem SlL.setOther {w : World} {base : Nat} {e : TypeId} {size : Nat} {v x : Value} {cs : List (List Value)} (h : SlL w base e size v cs) {a : Addr} (ha : a.block < base) : SlL (w.setCell a x) base e size v cs :=
 ⟨by simpa using h.1, h.2.1, ownsRow_setCell_below h.2.2 ha x⟩
theorem SlL.own {w : World} {base : Nat} {e : TypeId} {size : Nat} {v : Value} {cs : List (List Value)} (h : SlL w base e size v cs) : ∀ r, v.ownBlock = some r → base ≤ r := fun r hr => (h.2.2.lt r hr).1
theorem SlL.shape {w : World} {base : Nat} {e : TypeId} {size : Nat} {v : Value} {cs : List (List Value)} (h : SlL w base e size v cs) : (v = .slice none 0 0 ∧ cs = []) ∨ ∃ g cap, v = .slice (some ⟨g, 0, none⟩) cs.length cap := by
 obtain ⟨_, _, _, h | ⟨g, cap, cur, rfl, _⟩⟩ := h
 · exact .inl ⟨h.1, List.eq_nil_of_length_eq_zero h.2⟩
 · exact .inr ⟨g, cap, rfl⟩
theorem flat_at : ∀ (cs : List (List Value)) (size i : Nat) (c : List Value) (j : Nat) (u : Value), (∀ c ∈ cs, c.length = size) → cs[i]? = some c → c[j]? = some u → cs.flatten[i * size + j]? = some u
 | [], _, _, _, _, _, _, h, _ => by simp at h
 | g :: cs, size, 0, c, j, u, _, h, hj => by
  simp only [List.getElem?_cons_zero, Option.some.injEq] at h
  subst h
  rw [List.flatten_cons, Nat.zero_mul, Nat.zero_add, List.getElem?_append_left (List.getElem?_eq_some_iff.1 hj).1]
  exact hj
 | g :: cs, size, i + 1, c, j, u, hs, h, hj => by
  have hg : g.length = size := hs g (by simp)
  have e1 : (i + 1) * size = i * size + size := Nat.succ_mul i size
  rw [List.flatten_cons, List.getElem?_append_right (by rw [hg]; omega), hg]
  have := flat_at cs size i c j u (fun c hc => hs c (by simp [hc])) (by simpa using h) hj
  rw [show (i + 1) * size + j - size = i * size + j by omega]
  exact this
/-- the cells of one element -/
theorem SlL.range {w : World} {base : Nat} {e : TypeId} {size g n cap : Nat} {cs : List (List Value)} (h : SlL w base e size (.slice (some ⟨g, 0, none⟩) n cap) cs) {i : Nat} {c : List Value} (hi : cs[i]? = some c) : w.rangeAt g (i * size) c := by
 intro j u hu
 obtain ⟨_, hs, hl, h | ⟨g', cap', cur, hv, hg, hh, h1, h2, h3, h4⟩⟩ := h
 · cases h.1
 · injection hv with e1 e2 e3
   injection e1 with e1
   injection e1 with e1
   subst e1
   rw [cell_of_row _ _ _ _ _ _ hh]
   have hc : cs.flatten[i * size + j]? = some u := flat_at cs size i c j u hs hi hu
   rw [← h4] at hc
   have hlt : i * size + j < cs.length * size := by
    have := (List.getElem?_eq_some_iff.1 hc).1
    rw [List.length_take] at this
    omega
   rw [List.getElem?_take_of_lt hlt] at hc
   rw [← Array.getElem?_toList]
   exact hc
theorem One.row {w : World} {b : Nat} {t : TypeId} {v : Value} (h : One w b t v) (u : Value) : One (w.setRow b #[u]) b t u := by
 unfold One at *
 exact setRow_heap _ _ _ _ _ _ h
/-- append of one element -/
theorem wpList_append_sl {P : Program} (w : World) {ops : Array Oper} {rest : List Oper} {o : Oper} {a : Act} {Q : Exit → Act → World → Prop}
 (hg : o.guard = none) (s x : Operand) (t : TypeId) (hop : o.op = Op.call { callee := Callee.builtin Builtin.append, args := #[s, x], argTypes := #[t, t] })
 (base : Nat) (e : TypeId) (z : Value) (size bytes : Nat) (h1 : P.underlying t = some (.slice e)) (h2 : (P.info? e).map (fun i => (i.zero, i.size, i.bytes)) = some (some z, size, bytes)) (h6 : z.cells.size = size) (h7 : 0 < size)
 (v : Value) (cs : List (List Value)) (hs : a.eval s = v) (hown : SlL w base e size v cs) (g : Nat) (c : List Value) (hx : a.eval x = .slice (some ⟨g, 0, none⟩) 1 1) (hc : c.length = size)
 (hcell : w.rangeAt g 0 c) (h1c : ∀ u ∈ c, u.oneCell' = true) (b1 : cs.length + 1 ≤ maxLen) (b2 : (cs.length + 1) * bytes ≤ 140737488355328)
 (hK : ∀ v' w', SlL w' base e size v' (cs ++ [c]) → w.grownBy w' v.ownBlock → wpList P ops Q rest (a.put o.dst v') w') : wpList P ops Q (o :: rest) a w := by
 obtain ⟨i0, hi, hz0, hz1, hz2⟩ := info_parts h2
 refine wpList_append_own w hg s x t hop base e i0 z size bytes h1 hi hz0 hz1 hz2 h6 h7 v cs.length cs.flatten hs hown.2.2 ⟨g, 0, none⟩ 1 1 c hx (by omega) (fun j u hu => ?_) h1c b1 b2 hown.1 ?_
 · have := hcell j u hu
   rw [Nat.zero_add] at this
   have e : (⟨g, 0, none⟩ : Addr).add j = ⟨g, j, none⟩ := by unfold Addr.add; split <;> simp_all
   rw [e]; exact this
 · intro v' w' h1' h2' _
   refine hK v' w' ⟨Nat.le_trans hown.1 h2'.size, fun d hd => ?_, by simpa using h1'⟩ h2'
   rcases List.mem_append.1 hd with h | h
   · exact hown.2.1 d h
   · rw [List.mem_singleton] at h; rw [h]; exact hc
theorem SlL.one {w : World} {base : Nat} {e : TypeId} {size : Nat} {v : Value} {cs : List (List Value)} (h : SlL w base e size v cs) : v.oneCell' = true := by
 rcases h.shape with ⟨rfl, _⟩ | ⟨g, cap, rfl⟩ <;> rfl
theorem SlL.ownCells {w : World} {base : Nat} {e : TypeId} {size : Nat} {v : Value} {cs : List (List Value)} (h : SlL w base e size v cs) : ∀ r, v.ownBlock = some r → ∃ cur, w.heap[r]? = some (.cells cur e (0, 0)) := by
 intro r hr
 obtain ⟨_, _, _, h | ⟨g, cap, cur, rfl, hg', hh, _⟩⟩ := h
 · rw [h.1] at hr; cases hr
 · cases hr; exact ⟨cur, hh⟩
theorem SlL.base {w : World} {base base' : Nat} {e : TypeId} {size : Nat} {v : Value} {cs : List (List Value)} (h : SlL w base e size v cs) (hb : base' ≤ base) : SlL w base' e size v cs := ⟨Nat.le_trans hb h.1, h.2.1, by
 obtain ⟨_, _, hl, h | ⟨g, cap, cur, hv, hg', r⟩⟩ := h
 · exact ⟨hl, .inl h⟩
 · exact ⟨hl, .inr ⟨g, cap, cur, hv, Nat.le_trans hb hg', r⟩⟩⟩
/-- .. whose block lies below top -/
def SlT (w : World) (base top : Nat) (e : TypeId) (size : Nat) (v : Value) (cs : List (List Value)) : Prop := SlL w base e size v cs ∧ ∀ r, v.ownBlock = some r → r < top
theorem SlL.top {w : World} {base : Nat} {e : TypeId} {size : Nat} {v : Value} {cs : List (List Value)} (h : SlL w base e size v cs) : SlT w base w.heap.size e size v cs := ⟨h, fun r hr => (h.2.2.lt r hr).2⟩
theorem SlT.lt {w : World} {base top : Nat} {e : TypeId} {size : Nat} {v : Value} {cs : List (List Value)} (h : SlT w base top e size v cs) : base ≤ w.heap.size := h.1.1
theorem SlT.alloc {w : World} {base top : Nat} {e : TypeId} {size : Nat} {v : Value} {cs : List (List Value)} (h : SlT w base top e size v cs) (o : Obj) : SlT (w.alloc o) base top e size v cs := ⟨h.1.alloc o, h.2⟩
theorem SlT.drew {w : World} {base top : Nat} {e : TypeId} {size : Nat} {v : Value} {cs : List (List Value)} (h : SlT w base top e size v cs) : SlT w.drew base top e size v cs := h
theorem SlT.below {w w' : World} {base top : Nat} {e : TypeId} {size : Nat} {v : Value} {cs : List (List Value)} (h : SlT w base top e size v cs) (hb : Below w.heap.size w w') (hl : base ≤ w.heap.size) : SlT w' base top e size v cs := ⟨h.1.below hb hl, h.2⟩
theorem SlT.zw {w w' : World} {base top : Nat} {e : TypeId} {size : Nat} {v : Value} {cs : List (List Value)} (h : SlT w base top e size v cs) (hb : Below w.heap.size w w') : SlT w' base top e size v cs := SlT.below h hb (SlT.lt h)
theorem SlT.rowOther {w : World} {base top : Nat} {e : TypeId} {size : Nat} {v : Value} {cs : List (List Value)} (h : SlT w base top e size v cs) {k : Nat} {xs : Array Value} (hk : k < base ∨ top ≤ k) : SlT (w.setRow k xs) base top e size v cs :=
 ⟨⟨by simpa [World.setRow] using h.1.1, h.1.2.1, h.1.2.2.kept (row := some k) ⟨rfl, rfl, rfl, by simp [World.setRow], fun j _ hj => setRow_other _ _ _ _ (fun e => hj (by rw [e]))⟩ (by
  cases hv : v.ownBlock with
  | none => exact .inl rfl
  | some j =>
   right
   intro he
   cases he
   have h1 := (h.1.2.2.lt k hv).1
   have h2 := h.2 k hv
   omega)⟩, h.2⟩
theorem SlT.setOther {w : World} {base top : Nat} {e : TypeId} {size : Nat} {v x : Value} {cs : List (List Value)} (h : SlT w base top e size v cs) {a : Addr} (ha : a.block < base ∨ top ≤ a.block) : SlT (w.setCell a x) base top e size v cs :=
 ⟨⟨by simpa using h.1.1, h.1.2.1, h.1.2.2.kept (row := some a.block) ⟨((Below.refl 0 w).setCell (Nat.zero_le _) x).os, ((Below.refl 0 w).setCell (Nat.zero_le _) x).tape, ((Below.refl 0 w).setCell (Nat.zero_le _) x).output, by simp, fun j _ hj => Below.heap_setCell _ _ _ _ (fun e => hj (by rw [e]))⟩ (by
  cases hv : v.ownBlock with
  | none => exact .inl rfl
  | some j =>
   right
   intro he
   have he2 : j = a.block := by injection he
   subst he2
   have h1 := (h.1.2.2.lt a.block hv).1
   have h2 := h.2 a.block hv
   omega)⟩, h.2⟩
theorem SlL.some {w : World} {base : Nat} {e : TypeId} {size n cap : Nat} {ad : Option Addr} {cs : List (List Value)} (h : SlL w base e size (.slice ad n cap) cs) (hn : 0 < cs.length) : ∃ g, ad = some ⟨g, 0, none⟩ := by
 rcases h.shape with ⟨_, h2⟩ | ⟨g, cap', h1⟩
 · rw [h2] at hn; simp at hn
 · injection h1 with h1; exact ⟨g, h1⟩
/-- block b is the row cs -/
def Row (w : World) (b : Nat) (t : TypeId) (cs : Array Value) : Prop := w.heap[b]? = some (.cells cs t (0, 0))
theorem Row.new (w : World) (t : TypeId) (cs : Array Value) : Row (w.alloc (.cells cs t)) w.heap.size t cs := heap_alloc_last w _
theorem Row.lt {w : World} {b : Nat} {t : TypeId} {cs : Array Value} (h : Row w b t cs) : b < w.heap.size := by
 unfold Row at h
 exact (Array.getElem?_eq_some_iff.1 h).1
theorem Row.of {w w' : World} {b : Nat} {t : TypeId} {cs : Array Value} (h : Row w b t cs) (e : w'.heap[b]? = w.heap[b]?) : Row w' b t cs := by unfold Row at *; rw [e]; exact h
theorem Row.alloc {w : World} {b : Nat} {t : TypeId} {cs : Array Value} (h : Row w b t cs) (o : Obj) : Row (w.alloc o) b t cs := h.of (Below.heap_alloc _ _ _ h.lt)
theorem Row.drew {w : World} {b : Nat} {t : TypeId} {cs : Array Value} (h : Row w b t cs) : Row w.drew b t cs := h
theorem Row.below {w w' : World} {B b : Nat} {t : TypeId} {cs : Array Value} (h : Row w b t cs) (hb : Below B w w') (e : b < B) : Row w' b t cs := h.of (hb.block b e)
theorem Row.zw {w w' : World} {b : Nat} {t : TypeId} {cs : Array Value} (h : Row w b t cs) (hb : Below w.heap.size w w') : Row w' b t cs := Row.below h hb (Row.lt h)
theorem Row.rowOther {w : World} {b : Nat} {t : TypeId} {cs : Array Value} (h : Row w b t cs) {j : Nat} {xs : Array Value} (e : b ≠ j) : Row (w.setRow j xs) b t cs := h.of (setRow_other _ _ _ _ e)
theorem Row.setOther {w : World} {b : Nat} {t : TypeId} {cs : Array Value} {x : Value} (h : Row w b t cs) {a : Addr} (e : b ≠ a.block) : Row (w.setCell a x) b t cs := h.of (heap_setCell_other _ _ _ _ e)
theorem Row.row {w : World} {b : Nat} {t : TypeId} {cs : Array Value} (h : Row w b t cs) (xs : Array Value) : Row (w.setRow b xs) b t xs := by
 unfold Row at *
 exact setRow_heap _ _ _ _ _ _ h
theorem Row.cell {w : World} {b : Nat} {t : TypeId} {cs : Array Value} (h : Row w b t cs) {i : Nat} {v : Value} (hi : cs[i]? = some v) : w.cell? ⟨b, i, none⟩ = some v := by
 rw [cell_of_row _ _ _ _ _ _ h]; exact hi
theorem Row.frozen {w : World} {b : Nat} {t : TypeId} {cs : Array Value} (h : Row w b t cs) (i : Nat) : w.frozen? ⟨b, i, none⟩ = false := frozen_of_row _ _ _ _ _ h
theorem Row.set {w : World} {b i : Nat} {t : TypeId} {cs : Array Value} {x : Value} (h : Row w b t cs) : Row (w.setCell ⟨b, i, none⟩ x) b t (cs.setIfInBounds i x) := by
 unfold Row at *
 rw [heap_setCell_same _ _ _ _ _ _ h]
theorem Row.range {w : World} {b : Nat} {t : TypeId} {c : List Value} (h : Row w b t c.toArray) : w.rangeAt b 0 c := by
 intro j v hv
 rw [Nat.zero_add, cell_of_row _ _ _ _ _ _ h]
 simpa using hv
attribute [irreducible] Row
attribute [irreducible] SlL
end Go.Proofs.Ytgcajgmokcmcgaa
namespace Go.Proofs.Ytgcajgmokcmcgaa
open Go Go.RowKit
set_option linter.unusedVariables false
/-- what is no cells from B on lies as it lay -/
def KF (B : Nat) (W W' : World) : Prop := KeepsFrom B W W'
theorem KF.refl (B : Nat) (W : World) : KF B W W := KeepsFrom.refl B W
theorem KF.lt {B : Nat} {W W' : World} (h : KF B W W') : W.heap.size ≤ W'.heap.size := h.size
theorem KF.below {B : Nat} {W W1 W2 : World} (h : KF B W W1) (hb : Below W1.heap.size W1 W2) (_ : W.heap.size ≤ W1.heap.size) : KF B W W2 :=
 KeepsFrom.trans h ⟨hb.size, fun k _ _ hk _ => (hb.block k (Array.getElem?_eq_some_iff.1 hk).1).trans hk⟩
theorem KF.zw {B : Nat} {W W1 W2 : World} (h : KF B W W1) (hb : Below W1.heap.size W1 W2) : KF B W W2 := KF.below h hb (KF.lt h)
theorem KF.alloc {B : Nat} {W W1 : World} (h : KF B W W1) (o : Obj) : KF B W (W1.alloc o) := h.below (zal _ _) h.size
theorem KF.drew {B : Nat} {W W1 : World} (h : KF B W W1) : KF B W W1.drew := ⟨h.size, h.same⟩
theorem KF.rowOther {B : Nat} {W W1 : World} (h : KF B W W1) {k : Nat} {cs : Array Value} (e : k < B ∨ W.heap.size ≤ k) : KF B W (W1.setRow k cs) :=
 ⟨by simpa [World.setRow] using h.size, fun j o hB hj ho => by
  have hlt := (Array.getElem?_eq_some_iff.1 hj).1
  rw [setRow_other _ _ _ _ (by omega)]
  exact h.same j o hB hj ho⟩
theorem KF.grown {B : Nat} {W W1 W2 : World} {row : Option Nat} (h : KF B W W1) (hg : W1.grownBy W2 row) (hr : ∀ r, row = some r → ∃ cur t f, W1.heap[r]? = some (.cells cur t f)) : KF B W W2 :=
 KeepsFrom.trans h ⟨hg.size, fun k o _ hk ho => (hg.block k (Array.getElem?_eq_some_iff.1 hk).1 (fun e => by
  obtain ⟨cur, t, f, hc⟩ := hr k e.symm
  rw [hk] at hc; cases hc; cases ho)).trans hk⟩
/-- the block for deferred calls -/
def DF (W : World) (D : Nat) : Prop := W.heap[D]? = some (.deferred (some []))
theorem DF.lt {W : World} {D : Nat} (h : DF W D) : D < W.heap.size := (Array.getElem?_eq_some_iff.1 h).1
theorem DF.of {W W' : World} {D : Nat} (h : DF W D) (e : W'.heap[D]? = W.heap[D]?) : DF W' D := by unfold DF at *; rw [e]; exact h
theorem DF.below {W W' : World} {B D : Nat} (h : DF W D) (hb : Below B W W') (e : D < B) : DF W' D := h.of (hb.block D e)
theorem DF.zw {W W' : World} {D : Nat} (h : DF W D) (hb : Below W.heap.size W W') : DF W' D := DF.below h hb (DF.lt h)
theorem DF.alloc {W : World} {D : Nat} (h : DF W D) (o : Obj) : DF (W.alloc o) D := h.below (zal _ _) h.lt
theorem DF.drew {W : World} {D : Nat} (h : DF W D) : DF W.drew D := h
theorem DF.rowOther {W : World} {D k : Nat} {cs : Array Value} (h : DF W D) (e : D ≠ k) : DF (W.setRow k cs) D := h.of (setRow_other _ _ _ _ e)
theorem DF.grown {W W1 : World} {D : Nat} {row : Option Nat} (h : DF W D) (hg : W.grownBy W1 row) (hr : ∀ r, row = some r → ∃ cur t f, W.heap[r]? = some (.cells cur t f)) : DF W1 D :=
 h.of (hg.block D h.lt (fun e => by
  obtain ⟨cur, t, f, hc⟩ := hr D e.symm
  unfold DF at h
  rw [h] at hc; cases hc))
end Go.Proofs.Ytgcajgmokcmcgaa
end
section
namespace Go.Proofs.Ytgcajgmokcmcgaa
open Go Go.RowKit Go.Shelf
set_option linter.unusedVariables false
set_option linter.unusedSimpArgs false
attribute [local go_sem] Oper.semAt_some
/-- the numbers from a on, k of them -/
abbrev NumN (a k : Nat) := { N : Nat // N ∈ List.range' a k }
def vals {a k : Nat} (l : List (NumN a k)) : List Nat := l.map (·.1)
/-- the captured cells stay -/
def KpN (ba bb bp : Nat) (W W' : World) : Prop := W'.heap[ba]? = W.heap[ba]? ∧ W'.heap[bb]? = W.heap[bb]? ∧ W'.heap[bp]? = W.heap[bp]?
theorem KpN.refl (ba bb bp : Nat) (W : World) : KpN ba bb bp W W := ⟨rfl, rfl, rfl⟩
theorem KpN.trans {ba bb bp : Nat} {A B C : World} (h : KpN ba bb bp A B) (k : KpN ba bb bp B C) : KpN ba bb bp A C := ⟨k.1.trans h.1, k.2.1.trans h.2.1, k.2.2.trans h.2.2⟩
theorem KpN.put {ba bb bp : Nat} {w : World} (h0 : ba < w.heap.size) (h1 : bb < w.heap.size) (h2 : bp < w.heap.size) (W : World) (l : Nat) (o o' : Obj) (hl : w.heap.size ≤ l) (_ : W.heap[l]? = some o) (_ : o.isCells = false) (_ : o.isWalk = false) : KpN ba bb bp W (W.putObj l o') :=
 ⟨World.putObj_heap_other (by omega), World.putObj_heap_other (by omega), World.putObj_heap_other (by omega)⟩
theorem One.same {w w' : World} {b : Nat} {t : TypeId} {v : Value} (h : One w b t v) (h' : One w' b t v) : w'.heap[b]? = w.heap[b]? := by unfold One at *; rw [h, h']
end Go.Proofs.Ytgcajgmokcmcgaa
end
section
namespace Go.Proofs.Ytgcajgmokcmcgaa
open Go.RowKit
set_option linter.unusedVariables false
attribute [local irreducible] deg invN quoP resP
/-- the polynomial T -/
def TP : Nat → Nat := fun k => if k = 1 then 1 else 0
theorem TP_lt {p : Nat} (hp : 2 ≤ p) (k : Nat) : TP k < p := by unfold TP; split <;> omega
end Go.Proofs.Ytgcajgmokcmcgaa
namespace Go.Proofs.Ytgcajgmokcmcgaa
open Go Go.RowKit
set_option linter.unusedVariables false
set_option linter.unusedSimpArgs false
attribute [local irreducible] deg invN dS qS stp stpr quoP resP ofN dvo run monL TP
/-- the cells of a factor -/
def facC (f : Nat → Nat) (k : Nat) : List Value := bl 64 f ++ [.int .i64 (k : Int)]
theorem built_T : Try.prog.built 26 [(0, .int .u8 0), (1, .int .u8 1)] = some (zb 64 TP) := by unfold zb bl; kernel_rfl
def facRows (p : Nat) (L : List (Nat × Nat)) : List (List Value) := L.map fun x => facC (ofN p x.1) x.2
/-- the heap has at least n blocks -/
def SzG (n : Nat) (W : World) : Prop := n ≤ W.heap.size
theorem SzG.lt {n : Nat} {W : World} (h : SzG n W) : n ≤ W.heap.size := h
theorem SzG.below {n B : Nat} {W W' : World} (h : SzG n W) (hb : Below B W W') (_ : n ≤ W.heap.size) : SzG n W' := Nat.le_trans h hb.size
theorem SzG.zw {n : Nat} {W W' : World} (h : SzG n W) (hb : Below W.heap.size W W') : SzG n W' := SzG.below h hb (SzG.lt h)
theorem SzG.alloc {n : Nat} {W : World} (h : SzG n W) (o : Obj) : SzG n (W.alloc o) := h.below (zal _ _) h
theorem SzG.drew {n : Nat} {W : World} (h : SzG n W) : SzG n W.drew := h
theorem SzG.rowOther {n k : Nat} {W : World} {cs : Array Value} (h : SzG n W) (_ : 0 ≤ k) : SzG n (W.setRow k cs) := by unfold SzG at *; simpa [World.setRow] using h
theorem SzG.setOther {n : Nat} {W : World} {a : Addr} {v : Value} (h : SzG n W) (_ : 0 ≤ a.block) : SzG n (W.setCell a v) := by unfold SzG at *; simpa using h
end Go.Proofs.Ytgcajgmokcmcgaa
namespace Go.Proofs.Ytgcajgmokcmcgaa
open Go.RowKit
section
variable {P : Program} {Q : Exit → Act → World → Prop}
/-- what is asked of operation i, wanted or not -/
def StepG (P : Program) (ops : Array Oper) (Q : Exit → Act → World → Prop) (F : (Nat → Value) → Act) (Ψ : (Nat → Bool) → (Nat → Value) → World → Prop) (i : Nat) (o : Oper) : Prop :=
 ∀ (L : Nat → Bool) (v : Nat → Value) (w : World), (∀ e, e ∈ o.after → Region.binds .any e = true → L e.on = true) →
  (∀ j p, ops[j]? = some p → L j = true → ∀ e, e ∈ p.after → Region.binds .any e = true → e.on ≠ i) → Ψ L v w →
  ∀ K : Act → World → Prop, (∀ a' y w', a' = (F v).put o.dst y → Ψ (setL L i) (updV v i y) w' → K a' w') →
   if Region.wanted o (yielded ops (F v).tmps) = true then Oper.wp P o (F v) w K Q else K ((F v).put o.dst undef) w
inductive StepsG (P : Program) (ops : Array Oper) (Q : Exit → Act → World → Prop) (F : (Nat → Value) → Act) (Ψ : (Nat → Bool) → (Nat → Value) → World → Prop) : List Oper → Nat → Prop
 | nil (k : Nat) : StepsG P ops Q F Ψ [] k
 | cons {o : Oper} {os : List Oper} {k : Nat} (h : StepG P ops Q F Ψ k o) (hs : StepsG P ops Q F Ψ os (k + 1)) : StepsG P ops Q F Ψ (o :: os) k
theorem stepsG_of {ops : Array Oper} {F : (Nat → Value) → Act} {Ψ : (Nat → Bool) → (Nat → Value) → World → Prop} : ∀ (os : List Oper) (k : Nat), StepsG P ops Q F Ψ os k → ∀ i o, os[i]? = some o → StepG P ops Q F Ψ (k + i) o
 | [], _, _, _, _, h => by simp at h
 | p :: os, k, hs, 0, o, h => by
  simp only [List.getElem?_cons_zero, Option.some.injEq] at h
  subst h
  cases hs with
  | cons h _ => exact h
 | p :: os, k, hs, i + 1, o, h => by
  cases hs with
  | cons _ hs =>
   have := stepsG_of os (k + 1) hs i o (by simpa using h)
   rwa [show k + 1 + i = k + (i + 1) by omega] at this
theorem wp_region_stepsG {os : List Oper} {id : Nat} {a0 : Act} {w : World} (hm : P.follows .mixedOrders = true) (hd : dstsOkL os = true) (he : edgesOk os.toArray = true)
 {F : (Nat → Value) → Act} (hF : ∀ v, frL a0 os 0 v = F v)
 (Ψ : (Nat → Bool) → (Nat → Value) → World → Prop) (h0 : ∀ v, (∀ i, v i = ((os[i]?.bind (·.dst)).map fun t => a0.tmps.getD t undef).getD undef) → Ψ (fun _ => false) v w.drew)
 (hstep : StepsG P os.toArray Q F Ψ os 0)
 (hend : ∀ L v w, (∀ i, i < os.length → L i = true) → Ψ L v w → Q .normal (F v) w) : (Code.region id os.toArray true).wp P Q a0 w := by
 refine wp_region_psi0 hm (by simpa using hd) he Ψ (fun v hv => h0 v (by simpa using hv)) (fun i o ho => ?_) (fun L v w hL hΨ => ?_)
 · have hs := stepsG_of _ _ hstep i o (by simpa using ho)
   rw [Nat.zero_add] at hs
   intro L v w h1 h2 h3 K hK
   have hf : fr a0 os.toArray v = F v := hF v
   rw [hf] at hK ⊢
   exact hs L v w h1 h2 h3 K hK
 · have hf : fr a0 os.toArray v = F v := hF v
   rw [hf]
   exact hend L v w (by simpa using hL) hΨ
end
end Go.Proofs.Ytgcajgmokcmcgaa
namespace Go.Proofs.Ytgcajgmokcmcgaa
open Go Go.RowKit
set_option linter.unusedVariables false
set_option linter.unusedSimpArgs false
attribute [local irreducible] deg invN dS qS stp stpr quoP resP ofN dvo run monL TP
def FV (p : Nat) (n0 : Nat) (x : Nat × Nat) (l : List (Nat × Nat)) (y : Value) (w : World) : Prop := SlL w n0 170 65 y (facRows p (x :: l))
theorem FV.below {p n0 : Nat} {x : Nat × Nat} {l : List (Nat × Nat)} {y : Value} {w w' : World} (h : FV p n0 x l y w) (hb : Below w.heap.size w w') : FV p n0 x l y w' := SlL.below h hb h.lt
end Go.Proofs.Ytgcajgmokcmcgaa
namespace Go.Proofs.Ytgcajgmokcmcgaa
open Go Go.RowKit
set_option linter.unusedVariables false
set_option linter.unusedSimpArgs false
attribute [local irreducible] deg invN dS qS stp stpr quoP resP ofN dvo run addK monL TP
set_option maxRecDepth 100000 in
theorem l01T_any (w : World) : Calls Try.prog 67 #[] w fun e w' => e = .returned (.agg (zb 64 TP)) ∧ Below w.heap.size w w' := by
 go_enter Try.func67, Try.ntmps67
 go_upto_region 1 with (fail)
 rw [← z64]
 have b0 := Blk.new w 64 26 (fun _ => 0)
 go_wp2_with (first | (refine zbo rfl 26 _ rfl (zb 64 TP) (by rw [Array.toList_map]; exact built_T) ?_) | (refine wpList_store_blk rfl 26 _ _ rfl _ 64 TP rfl rfl 26 _ b0 Try.size26 ?_))
 refine bodyPost_ret (zrb rfl _ _ _ 64 26 5 _ rfl (b0.row _) Try.underlying26 Try.size26) rfl ⟨rfl, zr (zal _ _) (Nat.le_refl _) _⟩
end Go.Proofs.Ytgcajgmokcmcgaa
end
section
namespace Go.Proofs.Ytgcajgmokcmcgaa
set_option linter.unusedVariables false
/-- numbers modulo p at all places, and 0 from 64 on -/
def cln (p : Nat) (f : Nat → Nat) : Prop := (∀ k, f k < p) ∧ ∀ k, 64 ≤ k → f k = 0
/-- v, less the multiple of w that leaves 0 at the lead of w -/
def clr (p : Nat) (v w : Nat → Nat) : Nat → Nat := addK p v w (-(v (deg w).toNat : Int))
theorem clr_at (p : Nat) {v w : Nat → Nat} {t : Nat} (h : deg w = (t : Int)) (k : Nat) : clr p v w k = (((v k : Int) - (v t : Int) * (w k : Int)) % (p : Int)).toNat := by
 unfold clr addK
 rw [h, Int.toNat_natCast, Int.neg_mul, ← Int.sub_eq_add_neg]
theorem clr_cast {p : Nat} (hp : 0 < p) {v w : Nat → Nat} {t : Nat} (h : deg w = (t : Int)) (k : Nat) : ((clr p v w k : Nat) : Int) = ((v k : Int) - (v t : Int) * (w k : Int)) % (p : Int) := by
 rw [clr_at p h k, Int.toNat_of_nonneg (Int.emod_nonneg _ (by omega))]
theorem clr_cln {p : Nat} (hp : 0 < p) {v w : Nat → Nat} (hv : ∀ k, 64 ≤ k → v k = 0) (hw : cln p w) : cln p (clr p v w) := by
 refine ⟨fun k => ?_, fun k hk => ?_⟩
 · unfold clr addK
   have h1 := Int.emod_lt_of_pos ((v k : Int) + -(v (deg w).toNat : Int) * (w k : Int)) (show (0 : Int) < (p : Int) by omega)
   have h2 := Int.emod_nonneg ((v k : Int) + -(v (deg w).toNat : Int) * (w k : Int)) (show (p : Int) ≠ 0 by omega)
   omega
 · unfold clr addK
   rw [hv k hk, hw.2 k hk]
   simp
/-- the degrees s, the rows D of them -/
def Sy (p d : Nat) (s : List Nat) (D : Nat → Nat → Nat) : Prop := s.Nodup ∧ ∀ t, t ∈ s → t < d ∧ deg (D t) = (t : Int) ∧ cln p (D t) ∧ D t t = 1 ∧ ∀ u, u ∈ s → u ≠ t → D t u = 0
/-- the rows behind a new one -/
def nwD (p n : Nat) (x : Nat → Nat) (D : Nat → Nat → Nat) : Nat → Nat → Nat := fun t => if t = n then x else clr p (D t) x
theorem Sy.step {p d n : Nat} (hp : 2 ≤ p) {s : List Nat} {D : Nat → Nat → Nat} (h : Sy p d s D) {x : Nat → Nat} (hx : cln p x) (hd : deg x = (n : Int)) (hn : n < d) (hd4 : d ≤ 64) (h1 : x n = 1) (h0 : ∀ t, t ∈ s → x t = 0) : n ∉ s ∧ Sy p d (s ++ [n]) (nwD p n x D) := by
 have hns : n ∉ s := fun hs => by have := h0 n hs; omega
 refine ⟨hns, ?_, ?_⟩
 · rw [List.nodup_append]
   refine ⟨h.1, by simp, ?_⟩
   intro a ha b hb e
   rw [List.mem_singleton] at hb
   subst e; subst hb
   exact hns ha
 · intro t ht
   by_cases e : t = n
   · subst e
     unfold nwD
     rw [if_pos rfl]
     refine ⟨hn, hd, hx, h1, fun u hu hut => ?_⟩
     rcases List.mem_append.1 hu with hu | hu
     · exact h0 u hu
     · rw [List.mem_singleton] at hu; exact absurd hu hut
   · have ht2 : t ∈ s := by
      rcases List.mem_append.1 ht with ht | ht
      · exact ht
      · rw [List.mem_singleton] at ht; exact absurd ht e
     obtain ⟨a1, a2, a3, a4, a5⟩ := h.2 t ht2
     have key : ∀ k, ((clr p (D t) x k : Nat) : Int) = ((D t k : Int) - (D t n : Int) * (x k : Int)) % (p : Int) := fun k => clr_cast (by omega) hd k
     have own : ∀ k, (x k = 0 ∨ D t n = 0) → clr p (D t) x k = D t k := by
      intro k hk
      have h3 := key k
      have h4 : (D t n : Int) * (x k : Int) = 0 := by
       rcases hk with hk | hk
       · rw [hk]; simp
       · rw [hk]; simp
      rw [h4, Int.sub_zero, Int.emod_eq_of_lt (by omega) (by have := a3.1 k; omega)] at h3
      exact Int.ofNat.inj h3
     unfold nwD
     rw [if_neg e]
     refine ⟨a1, ?_, clr_cln (by omega) a3.2 hx, ?_, ?_⟩
     · -- the degree stays
       obtain ⟨b1, b2, b3⟩ := deg_top a2
       obtain ⟨c1, c2, c3⟩ := deg_top hd
       have ht1 : clr p (D t) x t = D t t := own t (.inl (h0 t ht2))
       have hz : ∀ k, t < k → k < 64 → clr p (D t) x k = 0 := by
        intro k hk1 hk2
        by_cases hkn : n < k
        · rw [own k (.inl (c3 k hkn hk2))]; exact b3 k hk1 hk2
        · by_cases htn : t < n
          · rw [own k (.inr (b3 n htn (by omega)))]; exact b3 k hk1 hk2
          · exfalso; omega
       have hle : deg (clr p (D t) x) ≤ (t : Int) := deg_le (by omega) (fun k hk1 hk2 => hz k (by omega) hk2)
       rcases deg_spec (clr p (D t) x) with ⟨_, hall⟩ | ⟨e1, e2, e3, e4, e5⟩
       · exact absurd (hall t b1) (by rw [ht1, a4]; decide)
       · rw [e3] at hle ⊢
         by_cases he : e1 < t
         · exact absurd (e5 t he b1) (by rw [ht1, a4]; decide)
         · omega
     · rw [own t (.inl (h0 t ht2))]; exact a4
     · intro u hu hut
       rcases List.mem_append.1 hu with hu | hu
       · rw [own u (.inl (h0 u hu))]; exact a5 u hu hut
       · rw [List.mem_singleton] at hu
         subst hu
         have h3 := key u
         rw [h1, Int.natCast_one, Int.mul_one, Int.sub_self] at h3
         simpa using h3
end Go.Proofs.Ytgcajgmokcmcgaa
end
section
namespace Go.Proofs.Ytgcajgmokcmcgaa
open Go Go.RowKit
set_option linter.unusedVariables false
set_option linter.unusedSimpArgs false
/-- the code of two polynomials, the second one not 0, where all else is in its range or not -/
def qcC (p : Int) (a b : Nat → Nat) (r : Bool) : Int := if codeL p [a, b] = 0 then (if r = true then (if deg b < 0 then 5 else 0) else 2) else 1
theorem qcC_1 {p : Int} {a b : Nat → Nat} {r : Bool} (h : codeL p [a, b] = 1) : qcC p a b r = 1 := by unfold qcC; rw [if_neg (by omega)]
theorem qcC_2 {p : Int} {a b : Nat → Nat} {r : Bool} (h : codeL p [a, b] = 0) (h2 : r = false) : qcC p a b r = 2 := by unfold qcC; rw [if_pos h, if_neg (by rw [h2]; decide)]
theorem qcC_5 {p : Int} {a b : Nat → Nat} {r : Bool} (h : codeL p [a, b] = 0) (h2 : r = true) (h3 : deg b < 0) : qcC p a b r = 5 := by unfold qcC; rw [if_pos h, if_pos h2, if_pos h3]
theorem qcC_0 {p : Int} {a b : Nat → Nat} {r : Bool} (h : codeL p [a, b] = 0) (h2 : r = true) (h3 : ¬ deg b < 0) : qcC p a b r = 0 := by unfold qcC; rw [if_pos h, if_pos h2, if_neg h3]
theorem qcC_split (p : Int) (a b : Nat → Nat) (r : Bool) : (∃ c, qcC p a b r = c ∧ c ≠ 0) ∨ (qcC p a b r = 0 ∧ r = true ∧ ∃ n : Nat, p = (n : Int) ∧ (n = 2 ∨ n = 3 ∨ n = 5 ∨ n = 7) ∧ (∀ k, k < 64 → a k < n) ∧ (∀ k, k < 64 → b k < n) ∧ 0 ≤ deg b) := by
 by_cases h : qcC p a b r = 0
 · right
   rcases codeL_two p [a, b] with hc | hc
   · cases hr : r with
     | false => rw [qcC_2 hc hr] at h; omega
     | true =>
      by_cases hd : deg b < 0
      · rw [qcC_5 hc hr hd] at h; omega
      · obtain ⟨n, hn, n2, n7⟩ := okP_nat (codeL_zero hc).1
        subst hn
        exact ⟨by rw [← hr]; exact h, rfl, n, rfl, prime_of hc, lt_of_code hc (by simp), lt_of_code hc (by simp), by omega⟩
   · rw [qcC_1 hc] at h; omega
 · exact .inl ⟨_, rfl, h⟩
attribute [local irreducible] deg qcC
set_option maxRecDepth 100000 in
set_option maxHeartbeats 3200000 in
theorem checkQuotient_any (p : Int) (a b : Nat → Nat) (r : Bool) (ha : byte a) (hbb : byte b) (w : World) :
 Calls Try.prog 70 #[.int .i64 p, .agg (zb 64 a), .agg (zb 64 b), .bool r] w fun e w' => e = .returned (.int .i64 (qcC p a b r)) ∧ Below w.heap.size w w' := by
 go_enter Try.func70, Try.ntmps70
 go_upto_region 1 with (fail)
 obtain ⟨W1, hwo⟩ : ∃ v : World, v = ((w.alloc (.cells (zb 64 (a)) 26)).alloc (.cells (zb 64 (b)) 26)) := ⟨_, rfl⟩
 have B0 : Blk W1 (w.heap.size) 64 26 (a) := by subst hwo; have := ((Blk.new w 64 26 (a)).alloc (.cells (zb 64 (b)) 26)); simpa using this
 have B1 : Blk W1 (w.heap.size + 1) 64 26 (b) := by subst hwo; have := (Blk.new (w.alloc (.cells (zb 64 (a)) 26)) 64 26 (b)); simpa using this
 have hb : Below w.heap.size w W1 := by subst hwo; exact (((Below.refl _ _).alloc (Nat.le_refl _) _).alloc (by simp) _)
 rw [← hwo]
 clear hwo
 go_upto_region 2 with (first | (refine zla (.tmp 5) B0 Try.underlying26 Try.size26 ?_) | (refine zla (.tmp 6) B1 Try.underlying26 Try.size26 ?_) | (refine wpList_build_polys rfl 31 _ [a, b] rfl 26 rfl Try.underlying31 Try.elem26 (by simp) (by simp) rfl ?_; intro wa hwa hps hba; clear hwa) | (go_at_call 76; refine (checkPolys_any p [a, b] (by simp [ha, hbb]) _ _ hps (by simp)).mono ?_; rintro e W2 ⟨rfl, hbb⟩))
 have hBB : Below W1.heap.size W1 W2 := hba.trans (hbb.mono hba.size)
 replace B0 := B0.zw hBB
 replace B1 := B1.zw hBB
 replace hb := hb.trans (hBB.mono hb.size)
 clear hBB hba hbb hps
 rcases codeL_two p [a, b] with hc | hc
 · cases r with
   | false =>
    have HV := Lib.hid (qcC_2 (r := false) hc rfl)
    rw [hc]
    clear hc
    go_wp2_with fail
    go_ret
    exact ⟨by rw [HV.out]; rfl, hb⟩
   | true =>
    by_cases hz : deg b < 0
    · have HV := Lib.hid (qcC_5 (r := true) hc rfl hz)
      have hgd := Try.noGuard26
      have heq := fun W => zeb (P := Try.prog) W 9998 26 5 64 b (fun _ => 0) Try.underlying26 Try.underlying5 Try.size5
      rw [eqN_zero, show decide (deg b < 0) = true by simp; omega] at heq
      simp only [z64] at heq
      rw [hc]
      clear hc hz
      go_wp2_with (first | (refine zla (.tmp 6) B1 Try.underlying26 Try.size26 ?_))
      go_ret
      exact ⟨by rw [HV.out]; rfl, hb⟩
    · have HV := Lib.hid (qcC_0 (r := true) hc rfl hz)
      have hgd := Try.noGuard26
      have heq := fun W => zeb (P := Try.prog) W 9998 26 5 64 b (fun _ => 0) Try.underlying26 Try.underlying5 Try.size5
      rw [eqN_zero, show decide (deg b < 0) = false by simp; omega] at heq
      simp only [z64] at heq
      rw [hc]
      clear hc hz
      go_wp2_with (first | (refine zla (.tmp 6) B1 Try.underlying26 Try.size26 ?_))
      go_ret
      exact ⟨by rw [HV.out]; rfl, hb⟩
 · have HV := Lib.hid (qcC_1 (r := r) hc)
   rw [hc]
   clear hc
   go_wp2_with fail
   go_ret
   exact ⟨by rw [HV.out]; rfl, hb⟩
set_option maxRecDepth 100000 in
set_option maxHeartbeats 3200000 in
theorem l10Code_any (p : Int) (a b : Nat → Nat) (ha : byte a) (hbb : byte b) (w : World) :
 Calls Try.prog 62 #[.int .i64 p, .agg (zb 64 a), .agg (zb 64 b)] w fun e w' => e = .returned (.int .i64 (qcC p a b true)) ∧ Below w.heap.size w w' := by
 go_enter Try.func62, Try.ntmps62
 go_upto_region 1 with (fail)
 obtain ⟨W1, hwo⟩ : ∃ v : World, v = ((w.alloc (.cells (zb 64 (a)) 26)).alloc (.cells (zb 64 (b)) 26)) := ⟨_, rfl⟩
 have B0 : Blk W1 (w.heap.size) 64 26 (a) := by subst hwo; have := ((Blk.new w 64 26 (a)).alloc (.cells (zb 64 (b)) 26)); simpa using this
 have B1 : Blk W1 (w.heap.size + 1) 64 26 (b) := by subst hwo; have := (Blk.new (w.alloc (.cells (zb 64 (a)) 26)) 64 26 (b)); simpa using this
 have hb : Below w.heap.size w W1 := by subst hwo; exact (((Below.refl _ _).alloc (Nat.le_refl _) _).alloc (by simp) _)
 rw [← hwo]
 clear hwo
 rcases codeL_two p [a, b] with hc | hc
 · by_cases hz : deg b < 0
   · have HV := Lib.hid (qcC_5 (r := true) hc rfl hz)
     have hgd := Try.noGuard26
     have heq := fun W => zeb (P := Try.prog) W 9998 26 5 64 b (fun _ => 0) Try.underlying26 Try.underlying5 Try.size5
     rw [eqN_zero, show decide (deg b < 0) = true by simp; omega] at heq
     simp only [z64] at heq
     clear hz
     go_upto_region 3 with (first | (refine zla (.tmp 4) B0 Try.underlying26 Try.size26 ?_) | (refine zla (.tmp 5) B1 Try.underlying26 Try.size26 ?_) | (refine wpList_build_polys rfl 31 _ [a, b] rfl 26 rfl Try.underlying31 Try.elem26 (by simp) (by simp) rfl ?_; intro wa hwa hps hba; clear hwa) | (go_at_call 74; refine (l01Code_any p [a, b] (by simp [ha, hbb]) _ _ hps (by simp)).mono ?_; rintro e W2 ⟨rfl, hbb⟩; rw [hc]))
     have hBB : Below W1.heap.size W1 W2 := hba.trans (hbb.mono hba.size)
     replace B0 := B0.zw hBB
     replace B1 := B1.zw hBB
     replace hb := hb.trans (hBB.mono hb.size)
     clear hBB hba hbb hps
     clear hc
     go_wp2_with (first | (refine zla (.tmp 5) B1 Try.underlying26 Try.size26 ?_))
     go_ret
     exact ⟨by rw [HV.out]; rfl, hb⟩
   · have HV := Lib.hid (qcC_0 (r := true) hc rfl hz)
     have hgd := Try.noGuard26
     have heq := fun W => zeb (P := Try.prog) W 9998 26 5 64 b (fun _ => 0) Try.underlying26 Try.underlying5 Try.size5
     rw [eqN_zero, show decide (deg b < 0) = false by simp; omega] at heq
     simp only [z64] at heq
     clear hz
     go_upto_region 3 with (first | (refine zla (.tmp 4) B0 Try.underlying26 Try.size26 ?_) | (refine zla (.tmp 5) B1 Try.underlying26 Try.size26 ?_) | (refine wpList_build_polys rfl 31 _ [a, b] rfl 26 rfl Try.underlying31 Try.elem26 (by simp) (by simp) rfl ?_; intro wa hwa hps hba; clear hwa) | (go_at_call 74; refine (l01Code_any p [a, b] (by simp [ha, hbb]) _ _ hps (by simp)).mono ?_; rintro e W2 ⟨rfl, hbb⟩; rw [hc]))
     have hBB : Below W1.heap.size W1 W2 := hba.trans (hbb.mono hba.size)
     replace B0 := B0.zw hBB
     replace B1 := B1.zw hBB
     replace hb := hb.trans (hBB.mono hb.size)
     clear hBB hba hbb hps
     clear hc
     go_wp2_with (first | (refine zla (.tmp 5) B1 Try.underlying26 Try.size26 ?_))
     go_ret
     exact ⟨by rw [HV.out]; rfl, hb⟩
 · have HV := Lib.hid (qcC_1 (r := true) hc)
   go_upto_region 2 with (first | (refine zla (.tmp 4) B0 Try.underlying26 Try.size26 ?_) | (refine zla (.tmp 5) B1 Try.underlying26 Try.size26 ?_) | (refine wpList_build_polys rfl 31 _ [a, b] rfl 26 rfl Try.underlying31 Try.elem26 (by simp) (by simp) rfl ?_; intro wa hwa hps hba; clear hwa) | (go_at_call 74; refine (l01Code_any p [a, b] (by simp [ha, hbb]) _ _ hps (by simp)).mono ?_; rintro e W2 ⟨rfl, hbb⟩; rw [hc]))
   have hBB : Below W1.heap.size W1 W2 := hba.trans (hbb.mono hba.size)
   replace B0 := B0.zw hBB
   replace B1 := B1.zw hBB
   replace hb := hb.trans (hBB.mono hb.size)
   clear hBB hba hbb hps
   clear hc
   go_wp2_with fail
   go_ret
   exact ⟨by rw [HV.out]; rfl, hb⟩
end Go.Proofs.Ytgcajgmokcmcgaa
end
section
namespace Go.Proofs.Ytgcajgmokcmcgaa
set_option linter.unusedVariables false
theorem eq_of_dvd {p x y : Nat} {z : Int} (hx : x < p) (hy : y < p) (h1 : (p : Int) ∣ (x : Int) - z) (h2 : (p : Int) ∣ (y : Int) - z) : x = y := by
 have h3 : (p : Int) ∣ (x : Int) - (y : Int) := by
  have := Int.dvd_sub h1 h2
  rwa [show (x : Int) - z - ((y : Int) - z) = (x : Int) - (y : Int) by omega] at this
 obtain ⟨c, hc⟩ := h3
 have hc1 : c < 1 := by
  apply Int.lt_of_not_ge
  intro h
  have := Int.mul_le_mul_of_nonneg_left h (show (0 : Int) ≤ (p : Int) by omega)
  omega
 have hc2 : -1 < c := by
  apply Int.lt_of_not_ge
  intro h
  have := Int.mul_le_mul_of_nonneg_left h (show (0 : Int) ≤ (p : Int) by omega)
  omega
 have : c = 0 := by omega
 subst this
 omega
theorem prd_com {p : Nat} (hp : 0 < p) (f g : Nat → Nat) : prd p f g = prd p g f := by
 funext k
 exact eq_of_dvd (prd_lt hp k) (prd_lt hp k) (prd_mz p f g k) (by rw [mz_comm]; exact prd_mz p g f k)
/-- the rest behind k steps -/
def dqR (p : Nat) (a b : Nat → Nat) : Nat → (Nat → Nat)
 | 0 => resP p a b
 | k + 1 => resP p (prd p TP (dqR p a b k)) b
/-- what is divided at the step k -/
def dqN (p : Nat) (a b : Nat → Nat) (k : Nat) : Nat → Nat := prd p TP (dqR p a b k)
/-- the digit of the step k -/
def dqD (p : Nat) (a b : Nat → Nat) (k : Nat) : Nat := quoP p (dqN p a b k) b 0
theorem dqR_next (p : Nat) (a b : Nat → Nat) (k : Nat) : dqR p a b (k + 1) = resP p (dqN p a b k) b := rfl
theorem dqN_lt {p : Nat} (hp : 0 < p) (a b : Nat → Nat) (k i : Nat) : dqN p a b k i < p := prd_lt hp i
theorem dqR_deg {p : Nat} {a b : Nat → Nat} (hp : p = 2 ∨ p = 3 ∨ p = 5 ∨ p = 7) (la : ∀ k, k < 64 → a k < p) (lb : ∀ k, k < 64 → b k < p) (hb : 0 ≤ deg b) : ∀ k, deg (dqR p a b k) < deg b ∧ ∀ i, i < 64 → dqR p a b k i < p
 | 0 => ⟨(resP_deg hp la lb hb).1, fun i hi => resP_lt (by omega) la i hi⟩
 | k + 1 => ⟨(resP_deg hp (fun i _ => dqN_lt (by omega) a b k i) lb hb).1, fun i hi => resP_lt (by omega) (fun i _ => dqN_lt (by omega) a b k i) i hi⟩
theorem TP_le : deg TP ≤ 1 := deg_le (by omega) (fun k h1 h2 => by unfold TP; rw [if_neg (by omega)])
theorem dqD_lt {p : Nat} (hp : 0 < p) (a b : Nat → Nat) (k : Nat) : dqD p a b k < p := quoP_lt hp 0
/-- the digits in their order -/
def dqL (p : Nat) (a b : Nat → Nat) (n : Nat) : List Int := (List.range n).map fun k => (dqD p a b k : Int)
theorem dqL_len (p : Nat) (a b : Nat → Nat) (n : Nat) : (dqL p a b n).length = n := by simp [dqL]
theorem dqL_snoc (p : Nat) (a b : Nat → Nat) (n : Nat) : dqL p a b (n + 1) = dqL p a b n ++ [(dqD p a b n : Int)] := by unfold dqL; rw [List.range_succ, List.map_append]; rfl
theorem dqL_at {p : Nat} {a b : Nat → Nat} {n i : Nat} (h : i < n) : (dqL p a b n)[i]? = some (dqD p a b i : Int) := by unfold dqL; rw [List.getElem?_map, List.getElem?_range h]; rfl
end Go.Proofs.Ytgcajgmokcmcgaa
end
section
namespace Go.Proofs.Ytgcajgmokcmcgaa
open Go Go.RowKit
set_option linter.unusedVariables false
/-- a place of a row of numbers is written -/
def updI (f : Nat → Int) (i : Nat) (v : Int) : Nat → Int := fun j => if j = i then v else f j
end Go.Proofs.Ytgcajgmokcmcgaa
end
section
namespace Go.Proofs.Ytgcajgmokcmcgaa
open Go Go.RowKit
set_option linter.unusedVariables false
/-- the blocks of w, those of S aside, are in w' as they were -/
def Kx (S : List Nat) (w w' : World) : Prop := w.heap.size ≤ w'.heap.size ∧ ∀ b, b < w.heap.size → b ∉ S → w'.heap[b]? = w.heap[b]?
theorem Kx.start (S : List Nat) (w : World) : Kx S w w.drew := ⟨Nat.le_refl _, fun _ _ _ => rfl⟩
theorem Kx.below {S : List Nat} {w w1 w2 : World} (h : Kx S w w1) (hy : Below w1.heap.size w1 w2) : Kx S w w2 :=
 ⟨Nat.le_trans h.1 hy.size, fun b hb hs => (hy.block b (Nat.lt_of_lt_of_le hb h.1)).trans (h.2 b hb hs)⟩
theorem Kx.alloc {S : List Nat} {w w1 : World} (h : Kx S w w1) (o : Obj) : Kx S w (w1.alloc o) := h.below (zal _ _)
theorem Kx.row {S : List Nat} {w w1 : World} (h : Kx S w w1) {s : Nat} (hs : s ∈ S) (cs : Array Value) : Kx S w (w1.setRow s cs) :=
 ⟨by simpa [World.setRow] using h.1, fun b hb hn => by rw [setRow_other _ _ _ _ (fun e => hn (by rw [e]; exact hs))]; exact h.2 b hb hn⟩
theorem Blk.kx {S : List Nat} {w w' : World} {b n : Nat} {t : TypeId} {f : Nat → Nat} (h : Blk w b n t f) (hX : Kx S w w') (hn : b ∉ S) : Blk w' b n t f := by
 have hl := h.lt
 unfold Blk at *; rw [hX.2 b hl hn]; exact h
theorem Row.kx {S : List Nat} {w w' : World} {b : Nat} {t : TypeId} {cs : Array Value} (h : Row w b t cs) (hX : Kx S w w') (hn : b ∉ S) : Row w' b t cs := h.of (hX.2 b h.lt hn)
theorem One.kx {S : List Nat} {w w' : World} {b : Nat} {t : TypeId} {v : Value} (h : One w b t v) (hX : Kx S w w') (hn : b ∉ S) : One w' b t v := h.of (hX.2 b h.lt hn)
end Go.Proofs.Ytgcajgmokcmcgaa
end
section
namespace Go.Proofs.Ytgcajgmokcmcgaa
open Go Go.RowKit
set_option linter.unusedVariables false
set_option linter.unusedSimpArgs false
attribute [local irreducible] deg invN dS qS stp stpr quoP resP ofN dvo run monL facRows
theorem slL_empty (w : World) (e : TypeId) (size : Nat) {base : Nat} (h : base ≤ w.heap.size) : SlL (w.alloc (.cells #[] e)) base e size (.slice (some ⟨w.heap.size, 0, none⟩) 0 0) [] := by
 delta SlL
 refine ⟨?_, ?_, ?_⟩
 · simp; omega
 · intro c hc; cases hc
 · exact ⟨by simp, .inr ⟨w.heap.size, 0, #[], rfl, h, heap_alloc_last w _, Nat.le_refl _, Nat.zero_le _, by simp, by simp⟩⟩
end Go.Proofs.Ytgcajgmokcmcgaa
end
section
namespace Go.Proofs.Ytgcajgmokcmcgaa
open Go Go.RowKit
set_option linter.unusedVariables false
set_option linter.unusedSimpArgs false
/-- the mark of a cell -/
def mkF (q : Nat) : Value := if q % 65 = 64 then .int .i64 (1 + (q : Int)) else .int .u8 ((1 + (q : Int)) % 256)
/-- the first q cells of a slice are marked -/
def MkF (w : World) (base : Nat) (v : Value) (n q : Nat) : Prop := ∃ ys, w.ownsRow base 170 65 v n ys ∧ ∀ k, k < q → ys[k]? = some (mkF k)
theorem SlL.marks {w : World} {base n : Nat} {v : Value} {cs : List (List Value)} (h : SlL w base 170 65 v cs) (hn : cs.length = n) : MkF w base v n 0 := by
 delta SlL at h
 exact ⟨cs.flatten, hn ▸ h.2.2, fun k hk => absurd hk (by omega)⟩
theorem MkF.own {w : World} {base n q : Nat} {v : Value} (h : MkF w base v n q) : ∀ r, v.ownBlock = Option.some r → base ≤ r ∧ r < w.heap.size := by
 obtain ⟨ys, h1, _⟩ := h
 exact fun r hr => h1.lt r hr
theorem MkF.grown {w w' : World} {base n q : Nat} {v : Value} {row : Option Nat} (h : MkF w base v n q) (hg : w.grownBy w' row) (hr : v.ownBlock = none ∨ v.ownBlock ≠ row) : MkF w' base v n q := by
 obtain ⟨ys, h1, h2⟩ := h
 exact ⟨ys, h1.kept hg hr, h2⟩
theorem MkF.below {w w' : World} {base n q : Nat} {v : Value} (h : MkF w base v n q) (hb : Below w.heap.size w w') : MkF w' base v n q :=
 h.grown (row := none) ⟨hb.os, hb.tape, hb.output, hb.size, fun k hk _ => hb.block k hk⟩ (by
  cases hv : v.ownBlock with
  | none => exact .inl rfl
  | some k => exact .inr (by simp))
theorem MkF.step {w : World} {base n q g cap : Nat} (h : MkF w base (.slice (some ⟨g, 0, none⟩) n cap) n q) (hq : q < n * 65) :
 (∃ u, w.cell? ⟨g, q, none⟩ = Option.some u) ∧ w.frozen? ⟨g, q, none⟩ = false ∧ MkF (w.setCell ⟨g, q, none⟩ (mkF q)) base (.slice (some ⟨g, 0, none⟩) n cap) n (q + 1) ∧ w.grownBy (w.setCell ⟨g, q, none⟩ (mkF q)) (Option.some g) := by
 obtain ⟨ys, h1, h2⟩ := h
 have hl : q < ys.length := by rw [h1.1]; exact hq
 obtain ⟨s1, s2⟩ := h1.stored q (mkF q)
 refine ⟨⟨ys[q], by rw [h1.cellAt q hq]; exact List.getElem?_eq_getElem hl⟩, h1.frozenAt q, ⟨_, s1, fun k hk => ?_⟩, s2⟩
 rw [List.getElem?_set]
 by_cases e : q = k
 · subst e; rw [if_pos rfl, if_pos hl]
 · rw [if_neg e]; exact h2 k (by omega)
theorem MkF.cell {w : World} {base n q g cap k : Nat} (h : MkF w base (.slice (some ⟨g, 0, none⟩) n cap) n q) (hk : k < q) (hq : q ≤ n * 65) : w.cell? ⟨g, k, none⟩ = Option.some (mkF k) := by
 obtain ⟨ys, h1, h2⟩ := h
 rw [h1.cellAt k (by omega)]
 exact h2 k hk
theorem MkF.same {w : World} {base n q : Nat} {v : Value} (h : MkF w base v n q) (r : Nat) (e : r = q) : MkF w base v n r := e ▸ h
theorem slL_apart {w w' : World} {base size : Nat} {e : TypeId} {v : Value} {cs : List (List Value)} {row : Option Nat} (h : SlL w base e size v cs) (hg : w.grownBy w' row) (hr : v.ownBlock = none ∨ v.ownBlock ≠ row) : SlL w' base e size v cs := by
 delta SlL at *
 exact ⟨Nat.le_trans h.1 hg.size, h.2.1, h.2.2.kept hg hr⟩
attribute [local irreducible] mkF MkF
end Go.Proofs.Ytgcajgmokcmcgaa
namespace Go.Proofs.Ytgcajgmokcmcgaa
open Go Go.RowKit
set_option linter.unusedVariables false
set_option linter.unusedSimpArgs false
/-- the mark of a cell -/
def mkW (q : Nat) : Value := .int .u8 ((1 + (q : Int)) % 256)
/-- the first q cells of a slice are marked -/
def MkP (w : World) (base : Nat) (v : Value) (n q : Nat) : Prop := ∃ ys, w.ownsRow base 26 64 v n ys ∧ ∀ k, k < q → ys[k]? = some (mkW k)
theorem MkP.own {w : World} {base n q : Nat} {v : Value} (h : MkP w base v n q) : ∀ r, v.ownBlock = Option.some r → base ≤ r ∧ r < w.heap.size := by
 obtain ⟨ys, h1, _⟩ := h
 exact fun r hr => h1.lt r hr
theorem MkP.grown {w w' : World} {base n q : Nat} {v : Value} {row : Option Nat} (h : MkP w base v n q) (hg : w.grownBy w' row) (hr : v.ownBlock = none ∨ v.ownBlock ≠ row) : MkP w' base v n q := by
 obtain ⟨ys, h1, h2⟩ := h
 exact ⟨ys, h1.kept hg hr, h2⟩
theorem MkP.below {w w' : World} {base n q : Nat} {v : Value} (h : MkP w base v n q) (hb : Below w.heap.size w w') : MkP w' base v n q :=
 h.grown (row := none) ⟨hb.os, hb.tape, hb.output, hb.size, fun k hk _ => hb.block k hk⟩ (by
  cases hv : v.ownBlock with
  | none => exact .inl rfl
  | some k => exact .inr (by simp))
theorem MkP.step {w : World} {base n q g cap : Nat} (h : MkP w base (.slice (some ⟨g, 0, none⟩) n cap) n q) (hq : q < n * 64) :
 (∃ u, w.cell? ⟨g, q, none⟩ = Option.some u) ∧ w.frozen? ⟨g, q, none⟩ = false ∧ MkP (w.setCell ⟨g, q, none⟩ (mkW q)) base (.slice (some ⟨g, 0, none⟩) n cap) n (q + 1) ∧ w.grownBy (w.setCell ⟨g, q, none⟩ (mkW q)) (Option.some g) := by
 obtain ⟨ys, h1, h2⟩ := h
 have hl : q < ys.length := by rw [h1.1]; exact hq
 obtain ⟨s1, s2⟩ := h1.stored q (mkW q)
 refine ⟨⟨ys[q], by rw [h1.cellAt q hq]; exact List.getElem?_eq_getElem hl⟩, h1.frozenAt q, ⟨_, s1, fun k hk => ?_⟩, s2⟩
 rw [List.getElem?_set]
 by_cases e : q = k
 · subst e; rw [if_pos rfl, if_pos hl]
 · rw [if_neg e]; exact h2 k (by omega)
theorem MkP.cell {w : World} {base n q g cap k : Nat} (h : MkP w base (.slice (some ⟨g, 0, none⟩) n cap) n q) (hk : k < q) (hq : q ≤ n * 64) : w.cell? ⟨g, k, none⟩ = Option.some (mkW k) := by
 obtain ⟨ys, h1, h2⟩ := h
 rw [h1.cellAt k (by omega)]
 exact h2 k hk
theorem MkP.same {w : World} {base n q : Nat} {v : Value} (h : MkP w base v n q) (r : Nat) (e : r = q) : MkP w base v n r := e ▸ h
attribute [local irreducible] mkW MkP
end Go.Proofs.Ytgcajgmokcmcgaa
end
section
namespace Go.Proofs.Ytgcajgmokcmcgaa
open Go Go.RowKit
set_option linter.unusedVariables false
set_option linter.unusedSimpArgs false
theorem Try.infoInt : (Try.prog.info? 2).map (fun i => (i.zero, i.size, i.bytes)) = some (some (.int .i64 0), 1, 8) := by kernel_rfl
theorem Try.elemInt : (Try.prog.info? 2).map (fun i => (i.size, i.zero.isSome)) = some (1, true) := by kernel_rfl
theorem wpList_buildI {P : Program} {ops : Array Oper} {rest : List Oper} {o : Oper} {a : Act} {w : World} {Q : Exit → Act → World → Prop} (hg : o.guard = none) (t : TypeId) (parts : Array (Nat × Operand)) (x : Int)
 (ho : o.op = .buildSlice t 1 parts) (e : TypeId) (hu : P.underlying t = some (.slice e)) (hie : (P.info? e).map (fun i => (i.size, i.zero.isSome)) = some (1, true))
 (hp : (parts.toList.map fun x => (x.1, a.eval x.2)) = [(0, Value.int .i64 x)])
 (h : ∀ w', Row w' w.heap.size e #[.int .i64 x] → Below w.heap.size w w' → wpList P ops Q rest (a.put o.dst (.slice (some ⟨w.heap.size, 0, none⟩) 1 1)) w') : wpList P ops Q (o :: rest) a w := by
 cases hi : P.info? e with
 | none => simp [hi] at hie
 | some ie =>
  simp only [hi, Option.map_some, Option.some.injEq, Prod.mk.injEq] at hie
  obtain ⟨hs, hz⟩ := hie
  obtain ⟨z, hzz⟩ := Option.isSome_iff_exists.1 hz
  refine wpList_buildSlice hg t e 1 parts ho _ ie z hu hi hzz (by rw [hs]; omega) (by rw [hs]; omega) ?_ (h _ (Row.new w e #[.int .i64 x]) (zal _ _))
  rw [Array.toList_map, hp, hs]
  obtain ⟨old, hold⟩ : ∃ old, old = (Array.range (1 * 1)).map (z.cells[· % z.cells.size]!) := ⟨_, rfl⟩
  have hsz : old.size = 1 := by rw [hold]; simp
  rw [← hold]
  obtain ⟨l⟩ := old
  match l, hsz with
  | [u], _ => simp [Instr.fill, Value.cells]
/-- the mark of a cell -/
def mkI (q : Nat) : Value := .int .i64 (1 + (q : Int))
/-- the first q cells of a slice are marked -/
def MkI (w : World) (base : Nat) (v : Value) (n q : Nat) : Prop := ∃ ys, w.ownsRow base 2 1 v n ys ∧ ∀ k, k < q → ys[k]? = some (mkI k)
theorem MkI.own {w : World} {base n q : Nat} {v : Value} (h : MkI w base v n q) : ∀ r, v.ownBlock = Option.some r → base ≤ r ∧ r < w.heap.size := by
 obtain ⟨ys, h1, _⟩ := h
 exact fun r hr => h1.lt r hr
theorem MkI.grown {w w' : World} {base n q : Nat} {v : Value} {row : Option Nat} (h : MkI w base v n q) (hg : w.grownBy w' row) (hr : v.ownBlock = none ∨ v.ownBlock ≠ row) : MkI w' base v n q := by
 obtain ⟨ys, h1, h2⟩ := h
 exact ⟨ys, h1.kept hg hr, h2⟩
theorem MkI.below {w w' : World} {base n q : Nat} {v : Value} (h : MkI w base v n q) (hb : Below w.heap.size w w') : MkI w' base v n q :=
 h.grown (row := none) ⟨hb.os, hb.tape, hb.output, hb.size, fun k hk _ => hb.block k hk⟩ (by
  cases hv : v.ownBlock with
  | none => exact .inl rfl
  | some k => exact .inr (by simp))
theorem MkI.step {w : World} {base n q g cap : Nat} (h : MkI w base (.slice (some ⟨g, 0, none⟩) n cap) n q) (hq : q < n * 1) :
 (∃ u, w.cell? ⟨g, q, none⟩ = Option.some u) ∧ w.frozen? ⟨g, q, none⟩ = false ∧ MkI (w.setCell ⟨g, q, none⟩ (mkI q)) base (.slice (some ⟨g, 0, none⟩) n cap) n (q + 1) ∧ w.grownBy (w.setCell ⟨g, q, none⟩ (mkI q)) (Option.some g) := by
 obtain ⟨ys, h1, h2⟩ := h
 have hl : q < ys.length := by rw [h1.1]; exact hq
 obtain ⟨s1, s2⟩ := h1.stored q (mkI q)
 refine ⟨⟨ys[q], by rw [h1.cellAt q hq]; exact List.getElem?_eq_getElem hl⟩, h1.frozenAt q, ⟨_, s1, fun k hk => ?_⟩, s2⟩
 rw [List.getElem?_set]
 by_cases e : q = k
 · subst e; rw [if_pos rfl, if_pos hl]
 · rw [if_neg e]; exact h2 k (by omega)
theorem MkI.cell {w : World} {base n q g cap k : Nat} (h : MkI w base (.slice (some ⟨g, 0, none⟩) n cap) n q) (hk : k < q) (hq : q ≤ n * 1) : w.cell? ⟨g, k, none⟩ = Option.some (mkI k) := by
 obtain ⟨ys, h1, h2⟩ := h
 rw [h1.cellAt k (by omega)]
 exact h2 k hk
theorem MkI.same {w : World} {base n q : Nat} {v : Value} (h : MkI w base v n q) (r : Nat) (e : r = q) : MkI w base v n r := e ▸ h
attribute [local irreducible] mkI MkI
end Go.Proofs.Ytgcajgmokcmcgaa
end
section
namespace Go.Proofs.Ytgcajgmokcmcgaa
open Go Go.RowKit
set_option linter.unusedVariables false
/-- cells of numbers -/
def icl (n : Nat) (f : Nat → Int) : List Value := (List.range n).map fun i => Value.int .i64 (f i)
theorem icl_len (n : Nat) (f : Nat → Int) : (icl n f).length = n := by simp [icl]
theorem icl_get {n : Nat} {f : Nat → Int} {i : Nat} (h : i < n) : (icl n f).toArray[i]? = some (.int .i64 (f i)) := by simp [icl, h]
theorem icl_set {n : Nat} {f : Nat → Int} {i : Nat} {v : Int} : (icl n f).toArray.setIfInBounds i (.int .i64 v) = (icl n (updI f i v)).toArray := by
 rw [List.setIfInBounds_toArray]
 congr 1
 apply List.ext_getElem?
 intro j
 rw [List.getElem?_set]
 unfold icl updI
 simp only [List.getElem?_map, List.length_map, List.length_range]
 by_cases e : i = j
 · subst e
   by_cases h : i < n
   · simp [h]
   · simp [h]
 · rw [if_neg e]
   by_cases h : j < n
   · simp [h, show ¬ j = i from fun x => e x.symm]
   · simp [h]
theorem Row.zcell {w : World} {b n : Nat} {t : TypeId} {f : Nat → Int} (h : Row w b t (icl n f).toArray) {i : Nat} (hi : i < n) : w.cell? ⟨b, i, none⟩ = some (.int .i64 (f i)) := h.cell (icl_get hi)
theorem Row.zset {w : World} {b n i : Nat} {t : TypeId} {f : Nat → Int} {v : Int} (h : Row w b t (icl n f).toArray) : Row (w.setCell ⟨b, i, none⟩ (.int .i64 v)) b t (icl n (updI f i v)).toArray := by
 rw [← icl_set]; exact h.set
theorem Try.sizeI64 : (Try.prog.info? 2).map (·.size) = some 1 := by kernel_rfl
end Go.Proofs.Ytgcajgmokcmcgaa
end
section
namespace Go.Proofs.Ytgcajgmokcmcgaa
open Go Go.RowKit
set_option linter.unusedVariables false
set_option linter.unusedSimpArgs false
/-- the rows of numbers -/
def ilZ (L : List Int) : List (List Value) := L.map fun x => [.int .i64 x]
theorem ilZ_snoc (L : List Int) (x : Int) : ilZ (L ++ [x]) = ilZ L ++ [[.int .i64 x]] := by simp [ilZ]
theorem ilZ_len (L : List Int) : (ilZ L).length = L.length := by simp [ilZ]
theorem ilZ_nil : ilZ [] = [] := rfl
theorem ilZ_flat : ∀ (L : List Int), (ilZ L).flatten = L.map fun x => Value.int .i64 x
 | [] => rfl
 | x :: L => by
  have := ilZ_flat L
  unfold ilZ at *
  rw [List.map_cons, List.flatten_cons, this]; rfl
/-- a list of numbers whose block lies between lo and hi -/
def Seg (w : World) (lo hi : Nat) (v : Value) (L : List Int) : Prop :=
 lo ≤ hi ∧ hi ≤ w.heap.size ∧ ∃ a cap, v = .slice a L.length cap ∧ (L = [] ∨ ∃ g o t cs, a = some ⟨g, o, none⟩ ∧ lo ≤ g ∧ g < hi ∧ Row w g t cs ∧ o + L.length ≤ cs.size ∧ ∀ i x, L[i]? = some x → cs[o + i]? = some (.int .i64 x))
theorem Seg.lt {w : World} {lo hi : Nat} {v : Value} {L : List Int} (h : Seg w lo hi v L) : hi ≤ w.heap.size := h.2.1
theorem Seg.move {w w' : World} {lo hi : Nat} {v : Value} {L : List Int} (h : Seg w lo hi v L) (hs : w.heap.size ≤ w'.heap.size) (hb : ∀ k, lo ≤ k → k < hi → w'.heap[k]? = w.heap[k]?) : Seg w' lo hi v L := by
 obtain ⟨h1, h2, a, cap, e, h3⟩ := h
 refine ⟨h1, Nat.le_trans h2 hs, a, cap, e, ?_⟩
 rcases h3 with h3 | ⟨g, o, t, cs, e2, g1, g2, hr, hc⟩
 · exact .inl h3
 · exact .inr ⟨g, o, t, cs, e2, g1, g2, hr.of (hb g g1 g2), hc⟩
theorem Seg.below {w w' : World} {lo hi : Nat} {v : Value} {L : List Int} (h : Seg w lo hi v L) {B : Nat} (hb : Below B w w') (hB : hi ≤ B) : Seg w' lo hi v L :=
 h.move hb.size fun k _ h2 => hb.block k (by omega)
theorem Seg.zw {w w' : World} {lo hi : Nat} {v : Value} {L : List Int} (h : Seg w lo hi v L) (hb : Below w.heap.size w w') : Seg w' lo hi v L := Seg.below h hb (Seg.lt h)
theorem Seg.drew {w : World} {lo hi : Nat} {v : Value} {L : List Int} (h : Seg w lo hi v L) : Seg w.drew lo hi v L := h.move (Nat.le_refl _) fun _ _ _ => rfl
theorem Seg.nil (w : World) {lo hi : Nat} (a : Option Addr) (cap : Nat) (h1 : lo ≤ hi) (h : hi ≤ w.heap.size) : Seg w lo hi (.slice a 0 cap) [] := ⟨h1, h, a, cap, rfl, .inl rfl⟩
theorem SlL.seg {w : World} {base : Nat} {v : Value} {L : List Int} (h : SlL w base 2 1 v (ilZ L)) : Seg w base w.heap.size v L := by
 delta SlL at h
 obtain ⟨h1, h2, h3⟩ := h
 refine ⟨h1, Nat.le_refl _, ?_⟩
 rw [ilZ_len] at h3
 rcases h3.2 with ⟨e, h4⟩ | ⟨g, cap, cur, e, h4, h5, h6, h7, h8, h9⟩
 · have hn : L = [] := List.length_eq_zero_iff.1 h4
   subst hn
   exact ⟨none, 0, e, .inl rfl⟩
 · refine ⟨_, cap, e, .inr ⟨g, 0, 2, cur, rfl, h4, ?_, by delta Row; exact h5, by omega, fun i x hx => ?_⟩⟩
   · have : w.heap[g]? ≠ none := by rw [h5]; simp
     simpa using this
   · rw [ilZ_flat] at h9
     have h10 : (cur.toList.take (L.length * 1))[i]? = Option.some (Value.int .i64 x) := by rw [h9, List.getElem?_map, hx]; rfl
     have hi := (List.getElem?_eq_some_iff.1 hx).1
     rw [List.getElem?_take, if_pos (by omega)] at h10
     rw [Nat.zero_add]
     simpa using h10
/-- the first q cells are marked -/
def MkS (w : World) (lo hi : Nat) (v : Value) (n q : Nat) : Prop :=
 hi ≤ w.heap.size ∧ ∃ a cap, v = .slice a n cap ∧ (n = 0 ∨ ∃ g o t cs, a = some ⟨g, o, none⟩ ∧ lo ≤ g ∧ g < hi ∧ Row w g t cs ∧ o + n ≤ cs.size ∧ ∀ k, k < q → cs[o + k]? = some (mkI k))
theorem Seg.marks {w : World} {lo hi : Nat} {v : Value} {L : List Int} (h : Seg w lo hi v L) : MkS w lo hi v L.length 0 := by
 obtain ⟨h1, h2, a, cap, e, h3⟩ := h
 refine ⟨h2, a, cap, e, ?_⟩
 rcases h3 with h3 | ⟨g, o, t, cs, e2, g1, g2, hr, hc, _⟩
 · exact .inl (by rw [h3]; rfl)
 · exact .inr ⟨g, o, t, cs, e2, g1, g2, hr, hc, fun k hk => absurd hk (by omega)⟩
theorem MkS.below {w w' : World} {lo hi : Nat} {v : Value} {n q : Nat} (h : MkS w lo hi v n q) {B : Nat} (hb : Below B w w') (hB : hi ≤ B) : MkS w' lo hi v n q := by
 obtain ⟨h2, a, cap, e, h3⟩ := h
 refine ⟨Nat.le_trans h2 hb.size, a, cap, e, ?_⟩
 rcases h3 with h3 | ⟨g, o, t, cs, e2, g1, g2, hr, hc⟩
 · exact .inl h3
 · exact .inr ⟨g, o, t, cs, e2, g1, g2, hr.below hb (by omega), hc⟩
theorem MkS.lt {w : World} {lo hi : Nat} {v : Value} {n q : Nat} (h : MkS w lo hi v n q) : hi ≤ w.heap.size := h.1
theorem MkS.zw {w w' : World} {lo hi n q : Nat} {v : Value} (h : MkS w lo hi v n q) (hb : Below w.heap.size w w') : MkS w' lo hi v n q := MkS.below h hb (MkS.lt h)
/-- a list of numbers is handed back -/
def SgV (L : List Int) (w : World) (e : Ending) (w' : World) : Prop := ∃ v lo hi, e = .returned v ∧ w.heap.size ≤ lo ∧ Seg w' lo hi v L ∧ Below w.heap.size w w'
/-- a list of numbers and a code are handed back -/
def SgF (L : List Int) (c : Int) (w : World) (e : Ending) (w' : World) : Prop := ∃ v lo hi, e = .returned (.tuple #[v, .int .i64 c]) ∧ w.heap.size ≤ lo ∧ Seg w' lo hi v L ∧ Below w.heap.size w w'
attribute [local irreducible] mkI
set_option maxRecDepth 100000 in
set_option maxHeartbeats 3200000 in
theorem eqInt64S_seg (L : List Int) (lo1 hi1 lo2 hi2 : Nat) (v1 v2 : Value) (w : World) (h1 : Seg w lo1 hi1 v1 L) (h2 : Seg w lo2 hi2 v2 L) (hL : L.length ≤ 1000) :
 Calls Try.prog 21 #[v1, v2] w fun e w' => e = .returned (.bool true) ∧ Below w.heap.size w w' := by
 obtain ⟨_, s1, a1, cap1, rfl, h1⟩ := h1
 obtain ⟨_, s2, a2, cap2, rfl, h2⟩ := h2
 go_enter Try.func21, Try.ntmps21
 go_wp2_with fail
 go_loopw [5] (fun i wr => ∃ j : Nat, i = .int .i64 (j : Int) ∧ j ≤ L.length ∧ Below w.heap.size w wr) (fun i _ => L.length - (intOf i).toNat)
 case atStart => exact ⟨0, rfl, Nat.zero_le _, Below.refl _ _⟩
 case round =>
  obtain ⟨j, rfl, hjR, hb⟩ := hrel
  by_cases hj : j < L.length
  · obtain ⟨x, hx⟩ : ∃ x, L[j]? = some x := ⟨_, List.getElem?_eq_getElem hj⟩
    rcases h1 with h1 | ⟨g1, o1, t1, cs1, rfl, l1, u1, r1, b1, c1⟩
    · subst h1; simp at hj
    rcases h2 with h2 | ⟨g2, o2, t2, cs2, rfl, l2, u2, r2, b2, c2⟩
    · subst h2; simp at hj
    have R1 := r1.below hb (by omega)
    have R2 := r2.below hb (by omega)
    have cc1 := R1.cell (c1 j x hx)
    have cc2 := R2.cell (c2 j x hx)
    have hjl : (j : Int) < (L.length : Int) := by omega
    have hne : ((x : Int) != (x : Int)) = false := by simp
    clear c1 c2
    go_upto_region 6 with (fail)
    go_quiet (fail)
    go_wp2_with fail
    go_roundw
    case rel => exact ⟨j + 1, by go_num, by omega, below_drewN' hb _⟩
    case measure => simp [intOf] <;> omega
  · have hjl : ¬ (j : Int) < (L.length : Int) := by omega
    go_wp2_with fail
    go_ret
    exact ⟨rfl, hb⟩
set_option maxRecDepth 100000 in
set_option maxHeartbeats 3200000 in
theorem markInt64S_seg (n lo hi : Nat) (v : Value) (w : World) (h : MkS w lo hi v n 0) (hlo : lo ≤ w.heap.size) (hn : n ≤ 1000) :
 Calls Try.prog 22 #[v, .int .i64 1] w fun e w' => e = .returned (.int .i64 ((1 + n : Nat) : Int)) ∧ MkS w' lo hi v n n ∧ Below lo w w' := by
 obtain ⟨s1, a, cap, rfl, h⟩ := h
 go_enter Try.func22, Try.ntmps22
 go_wp2_with fail
 go_loopw [1, 5] (fun x i wr => ∃ j X : Nat, x = .int .i64 (X : Int) ∧ X = 1 + j ∧ i = .int .i64 (j : Int) ∧ j ≤ n ∧ MkS wr lo hi (.slice a n cap) n j ∧ Below lo w wr) (fun _ i _ => n - (intOf i).toNat)
 case atStart => exact ⟨0, 1, rfl, rfl, rfl, Nat.zero_le _, ⟨s1, a, cap, rfl, h⟩, Below.refl _ _⟩
 case round =>
  clear h; obtain ⟨j, X, rfl, hX, rfl, hjn, hM, hG⟩ := hrel
  by_cases hj : j < n
  · have hjl : (j : Int) < (n : Int) := by omega
    obtain ⟨s2, a', cap', ee, hM⟩ := hM
    rcases hM with hM | ⟨g, o, t, cs, rfl, l1, u1, r1, b1, c1⟩
    · omega
    cases ee
    have hX2 : X ≤ 1001 := by omega
    have e1 : mkI j = .int .i64 (X : Int) := by unfold mkI; rw [show (1 + (j : Int)) = (X : Int) by omega]
    have HX := Lib.hid hX
    clear hX
    have hol : o + j < cs.size := by omega
    have cc := r1.cell (i := o + j) (v := cs[o + j]) (Array.getElem?_eq_getElem hol)
    have zz := r1.frozen (o + j)
    have HM2 := Lib.hid (show MkS (wr.setCell ⟨g, o + j, none⟩ (.int .i64 (X : Int))) lo hi (.slice (some ⟨g, o, none⟩) n cap) n (j + 1) from ⟨by simpa using s2, _, _, rfl, .inr ⟨g, o, t, _, rfl, l1, u1, r1.set, by simpa using b1, fun k hk => by
     by_cases e : k = j
     · subst e; rw [Array.getElem?_setIfInBounds, if_pos rfl, if_pos hol, e1]
     · rw [Array.getElem?_setIfInBounds, if_neg (by omega)]; exact c1 k (by omega)⟩⟩)
    have HG2 := Lib.hid (show Below lo w (wr.setCell ⟨g, o + j, none⟩ (.int .i64 (X : Int))) from hG.setCell (by show lo ≤ g; exact l1) _)
    clear c1 e1 hG b1
    go_wp2_with fail
    go_roundw
    case rel => exact ⟨j + 1, X + 1, by go_num, by have := HX.out; omega, by go_num, by omega, HM2.out, HG2.out⟩
    case measure => simp [intOf] <;> omega
  · have hjl : ¬ (j : Int) < (n : Int) := by omega
    have e : j = n := by omega
    subst e
    go_wp2_with fail
    go_ret
    exact ⟨ret_int (by push_cast; rfl), hM, hG⟩
set_option maxRecDepth 100000 in
set_option maxHeartbeats 3200000 in
theorem heldInt64S_seg (n lo hi : Nat) (v : Value) (w : World) (h : MkS w lo hi v n n) (hn : n ≤ 1000) :
 Calls Try.prog 23 #[v, .int .i64 1] w fun e w' => e = .returned (.int .i64 ((1 + n : Nat) : Int)) ∧ w = w' := by
 obtain ⟨s1, a, cap, rfl, h⟩ := h
 go_enter Try.func23, Try.ntmps23
 go_wp2_with fail
 go_loopw [1, 5] (fun x i wr => ∃ j X : Nat, x = .int .i64 (X : Int) ∧ X = 1 + j ∧ i = .int .i64 (j : Int) ∧ j ≤ n ∧ wr = w) (fun _ i _ => n - (intOf i).toNat)
 case atStart => exact ⟨0, 1, rfl, rfl, rfl, Nat.zero_le _, rfl⟩
 case round =>
  obtain ⟨j, X, rfl, hX, rfl, hjn, rfl⟩ := hrel
  by_cases hj : j < n
  · have hjl : (j : Int) < (n : Int) := by omega
    rcases h with h | ⟨g, o, t, cs, rfl, l1, u1, r1, b1, c1⟩
    · omega
    have hX2 : X ≤ 1001 := by omega
    have e1 : mkI j = .int .i64 (X : Int) := by unfold mkI; rw [show (1 + (j : Int)) = (X : Int) by omega]
    have HX := Lib.hid hX
    clear hX
    have hc := r1.cell (c1 j hj)
    rw [e1] at hc
    have hne : ((X : Int) != (X : Int)) = false := by simp
    clear e1 c1
    go_wp2_with fail
    go_roundw
    case rel => exact ⟨j + 1, X + 1, by go_num, by have := HX.out; omega, by go_num, by omega, trivial⟩
    case measure => simp [intOf] <;> omega
  · have hjl : ¬ (j : Int) < (n : Int) := by omega
    have e : j = n := by omega
    subst e
    go_wp2_with fail
    go_ret
    exact ⟨ret_int (by push_cast; rfl), rfl⟩
end Go.Proofs.Ytgcajgmokcmcgaa
end
section
namespace Go.Proofs.Ytgcajgmokcmcgaa
open Go Go.RowKit
set_option linter.unusedVariables false
section
variable {P : Program} {ops : Array Oper} {Q : Exit → Act → World → Prop}
/-- what is asked of operation i -/
def StepOkU (P : Program) (ops : Array Oper) (Q : Exit → Act → World → Prop) (a0 : Act) (Ψ : (Nat → Bool) → (Nat → Value) → World → Prop) (i : Nat) (o : Oper) : Prop :=
 ∀ (L : Nat → Bool) (v : Nat → Value) (w : World), (∀ e, e ∈ o.after → Region.binds .any e = true → L e.on = true) →
  (∀ j p, ops[j]? = some p → L j = true → ∀ e, e ∈ p.after → Region.binds .any e = true → e.on ≠ i) → L i = false → Ψ L v w →
  ∀ K : Act → World → Prop, (∀ a' y w', a' = (fr a0 ops v).put o.dst y → Ψ (setL L i) (updV v i y) w' → K a' w') →
   if Region.wanted o (yielded ops (fr a0 ops v).tmps) = true then Oper.wp P o (fr a0 ops v) w K Q else K ((fr a0 ops v).put o.dst undef) w

theorem wpAny_invU {a0 : Act} {Ψ : (Nat → Bool) → (Nat → Value) → World → Prop} (hd : dstsOkL ops.toList = true) (he : edgesOk ops = true)
 (hstep : ∀ i o, ops[i]? = some o → StepOkU P ops Q a0 Ψ i o)
 (hend : ∀ L v w, (∀ i, i < ops.size → L i = true) → Ψ L v w → Q .normal (fr a0 ops v) w) :
 ∀ (fuel : Nat) (listed : Array Bool) (v : Nat → Value) (w : World), listed.size = ops.size → (listed.toList.filter (!·)).length = fuel → Ψ (fun j => listed.getD j false) v w →
  (∀ j p, ops[j]? = some p → listed.getD j false = true → ∀ e, e ∈ p.after → Region.binds .any e = true → listed.getD e.on false = true) →
  wpAny P .any ops Q fuel listed (fr a0 ops v) w := by
 have hall : ∀ listed : Array Bool, listed.size = ops.size → Region.ready .any ops listed = [] → ∀ i, i < ops.size → listed.getD i false = true := by
  intro listed hs hr i
  induction i using Nat.strongRecOn with
  | _ i ih =>
   intro hi
   cases hb : listed.getD i false with
   | true => rfl
   | false =>
    exfalso
    have hmem : i ∈ Region.ready .any ops listed := by
     unfold Region.ready
     simp only [List.mem_filter, List.mem_range, hi, true_and, Bool.and_eq_true]
     have ho : ops[i]? = some ops[i] := Array.getElem?_eq_getElem hi
     constructor
     · have : listed.getD i true = false := by
        have h2 : i < listed.size := by omega
        simpa [Array.getD, h2] using hb
       simp [this]
     · rw [ho]
       simp only [Option.map_some, Option.getD_some, Array.all_eq_true_iff_forall_mem]
       intro e hem
       have hE := he
       unfold edgesOk at hE
       rw [List.all_eq_true] at hE
       have := hE i (by simpa using hi)
       rw [ho] at this
       simp only [Option.map_some, Option.getD_some, Array.all_eq_true_iff_forall_mem] at this
       have h3 := this e hem
       cases hbd : Region.binds .any e with
       | false => simp
       | true =>
        simp only [hbd, Bool.not_true, Bool.false_or, decide_eq_true_eq] at h3
        simp [ih e.on h3 (by omega)]
    rw [hr] at hmem
    cases hmem
 intro fuel
 induction fuel with
 | zero =>
  intro listed v w hs hc hI _
  have hl : ∀ i, i < ops.size → listed.getD i false = true := by
   intro i hi
   have h2 : i < listed.size := by omega
   cases hb : listed[i] with
   | true => simp [Array.getD, h2, hb]
   | false =>
    exfalso
    have : false ∈ listed.toList.filter (!·) := by
     rw [List.mem_filter]
     exact ⟨by rw [← hb]; simp, rfl⟩
    rw [List.length_eq_zero_iff.1 hc] at this
    cases this
  refine ⟨?_, hend _ v w hl hI⟩
  unfold Region.ready
  rw [List.filter_eq_nil_iff]
  intro i hi
  have hi' : i < ops.size := by simpa using hi
  have h2 : i < listed.size := by omega
  have := hl i hi'
  have h4 : listed.getD i true = true := by simpa [Array.getD, h2] using this
  simp [h4]
 | succ fuel ih =>
  intro listed v w hs hc hI hcl
  refine ⟨fun hr => hend _ v w (hall listed hs hr) hI, ?_⟩
  intro i hi
  unfold Region.ready at hi
  simp only [List.mem_filter, List.mem_range, Bool.and_eq_true] at hi
  obtain ⟨hin, hnl, haf⟩ := hi
  have ho : ops[i]? = some ops[i] := Array.getElem?_eq_getElem hin
  rw [ho] at haf
  simp only [Option.map_some, Option.getD_some, Array.all_eq_true_iff_forall_mem] at haf
  have h2 : i < listed.size := by omega
  have hfalse : listed[i] = false := by
   have : listed.getD i true = false := by simpa using hnl
   simpa [Array.getD, h2] using this
  refine wpOp_step ho fun K' hK => ?_
  refine hstep i _ ho _ v w ?_ ?_ (by simp [Array.getD, h2, hfalse]) hI K' ?_
  · intro e hem hb
    have := haf e hem
    simpa [hb] using this
  · intro j p hp hj e hem hb he'
    have := hcl j p hp hj e hem hb
    rw [he'] at this
    simp [Array.getD, h2, hfalse] at this
  · intro a' y w' ha' hΨ
    subst ha'
    refine hK _ _ ?_
    have hst : (fr a0 ops v).put ops[i].dst y = fr a0 ops (updV v i y) := by
     have := frL_step ops.toList a0 0 v i ops[i] y hd (by simp [hin])
     rw [Nat.zero_add] at this
     exact this
    rw [hst]
    have e : (fun j => (listed.setIfInBounds i true).getD j false) = setL (fun j => listed.getD j false) i := by
     funext j
     unfold setL
     by_cases h : j = i
     · subst h; simp [Array.getD, h2]
     · have h' : ¬ i = j := fun e => h e.symm
       simp only [h, if_false, Array.getD, Array.size_setIfInBounds]
       by_cases h3 : j < listed.size
       · simp [h3, h']
       · simp [h3]
    refine ih _ _ _ (by simpa using hs) ?_ ?_ ?_
    · have : ∀ (l : List Bool) (i : Nat) (h : i < l.length), l[i] = false → ((l.set i true).filter (!·)).length + 1 = (l.filter (!·)).length := by
       intro l
       induction l with
       | nil => intro i h; simp at h
       | cons b l ihl =>
        intro i h hf
        cases i with
        | zero => simp at hf; subst hf; simp
        | succ i =>
         simp only [List.set_cons_succ]
         have := ihl i (by simpa using h) (by simpa using hf)
         cases b <;> simp <;> omega
      have := this listed.toList i (by simpa using h2) (by simpa using hfalse)
      rw [Array.toList_setIfInBounds]
      omega
    · rw [e]
      exact hΨ
    · intro j p hp hj e2 hem hb
      have ej := congrFun e j
      have ee := congrFun e e2.on
      skip
      rw [ej] at hj
      rw [ee]
      unfold setL at hj ⊢
      by_cases h1 : e2.on = i
      · simp [h1]
      · simp only [h1, if_false]
        by_cases h2 : j = i
        · subst h2
          rw [ho] at hp
          simp only [Option.some.injEq] at hp
          subst hp
          have := haf e2 hem
          simpa [hb] using this
        · simp only [h2, if_false] at hj
          exact hcl j p hp hj e2 hem hb

theorem wp_region_psiU {id : Nat} {a0 : Act} {w : World} (hm : P.follows .mixedOrders = true) (hd : dstsOkL ops.toList = true) (he : edgesOk ops = true)
 (Ψ : (Nat → Bool) → (Nat → Value) → World → Prop) (h0 : Ψ (fun _ => false) (fun i => ((ops[i]?.bind (·.dst)).map fun t => a0.tmps.getD t undef).getD undef) w.drew)
 (hstep : ∀ i o, ops[i]? = some o → StepOkU P ops Q a0 Ψ i o)
 (hend : ∀ L v w, (∀ i, i < ops.size → L i = true) → Ψ L v w → Q .normal (fr a0 ops v) w) : (Code.region id ops true).wp P Q a0 w := by
 refine wp_region_any hm ?_
 have hfr : fr a0 ops (fun i => ((ops[i]?.bind (·.dst)).map fun t => a0.tmps.getD t undef).getD undef) = a0 := by
  refine frL_start _ _ _ _ fun i o ho => ?_
  have ho' : ops[i]? = some o := by simpa using ho
  simp [ho']
 have key := wpAny_invU (P := P) (Q := Q) hd he hstep hend ops.size (Array.replicate ops.size false) (fun i => ((ops[i]?.bind (·.dst)).map fun t => a0.tmps.getD t undef).getD undef) w.drew (by simp) (by simp) (by
  have e : (fun j => (Array.replicate ops.size false).getD j false) = fun _ => false := by
   funext j; simp [Array.getD]
  rw [e]; exact h0) (by
  intro j p _ hj
  simp [Array.getD] at hj)
 rw [hfr] at key
 exact key

/-- what is asked of operation i, no guard before it; F: the frame, written out -/
def StepV (P : Program) (ops : Array Oper) (Q : Exit → Act → World → Prop) (F : (Nat → Value) → Act) (Ψ : (Nat → Bool) → (Nat → Value) → World → Prop) (i : Nat) (o : Oper) : Prop :=
 ∀ (L : Nat → Bool) (v : Nat → Value) (w : World), (∀ e, e ∈ o.after → Region.binds .any e = true → L e.on = true) →
  (∀ j p, ops[j]? = some p → L j = true → ∀ e, e ∈ p.after → Region.binds .any e = true → e.on ≠ i) → L i = false → Ψ L v w →
  ∀ K : Act → World → Prop, (∀ a' y w', a' = (F v).put o.dst y → Ψ (setL L i) (updV v i y) w' → K a' w') → Oper.wp P o (F v) w K Q
inductive StepsV (P : Program) (ops : Array Oper) (Q : Exit → Act → World → Prop) (F : (Nat → Value) → Act) (Ψ : (Nat → Bool) → (Nat → Value) → World → Prop) : List Oper → Nat → Prop
 | nil (k : Nat) : StepsV P ops Q F Ψ [] k
 | cons {o : Oper} {os : List Oper} {k : Nat} (hg : o.guard = none) (h : StepV P ops Q F Ψ k o) (hs : StepsV P ops Q F Ψ os (k + 1)) : StepsV P ops Q F Ψ (o :: os) k
theorem steps_ofV {F : (Nat → Value) → Act} {Ψ : (Nat → Bool) → (Nat → Value) → World → Prop} : ∀ (os : List Oper) (k : Nat), StepsV P ops Q F Ψ os k → ∀ i o, os[i]? = some o → o.guard = none ∧ StepV P ops Q F Ψ (k + i) o
 | [], _, _, _, _, h => by simp at h
 | p :: os, k, hs, 0, o, h => by
  simp only [List.getElem?_cons_zero, Option.some.injEq] at h
  subst h
  cases hs with
  | cons hg h _ => exact ⟨hg, h⟩
 | p :: os, k, hs, i + 1, o, h => by
  cases hs with
  | cons _ _ hs =>
   have := steps_ofV os (k + 1) hs i o (by simpa using h)
   rwa [show k + 1 + i = k + (i + 1) by omega] at this
theorem wp_region_stepsU {os : List Oper} {id : Nat} {a0 : Act} {w : World} (hm : P.follows .mixedOrders = true) (hd : dstsOkL os = true) (he : edgesOk os.toArray = true)
 {F : (Nat → Value) → Act} (hF : ∀ v, frL a0 os 0 v = F v)
 (Ψ : (Nat → Bool) → (Nat → Value) → World → Prop) (h0 : Ψ (fun _ => false) (fun i => ((os.toArray[i]?.bind (·.dst)).map fun t => a0.tmps.getD t undef).getD undef) w.drew)
 (hstep : StepsV P os.toArray Q F Ψ os 0)
 (hend : ∀ L v w, (∀ i, i < os.length → L i = true) → Ψ L v w → Q .normal (F v) w) : (Code.region id os.toArray true).wp P Q a0 w := by
 refine wp_region_psiU hm (by simpa using hd) he Ψ h0 (fun i o ho => ?_) (fun L v w hL hΨ => ?_)
 · obtain ⟨hg, hs⟩ := steps_ofV _ _ hstep i o (by simpa using ho)
   rw [Nat.zero_add] at hs
   intro L v w h1 h2 hU h3 K hK
   have hw : Region.wanted o (yielded os.toArray (fr a0 os.toArray v).tmps) = true := by simp [Region.wanted, hg]
   rw [if_pos hw]
   have hf : fr a0 os.toArray v = F v := hF v
   rw [hf] at hK ⊢
   exact hs L v w h1 h2 hU h3 K hK
 · have hf : fr a0 os.toArray v = F v := hF v
   rw [hf]
   exact hend L v w (by simpa using hL) hΨ
end
end Go.Proofs.Ytgcajgmokcmcgaa
end
section
namespace Go.Proofs.Ytgcajgmokcmcgaa
open Go Go.RowKit
set_option linter.unusedVariables false
set_option linter.unusedSimpArgs false
theorem icl_zero40 : (icl 40 (fun _ => 0)).toArray = #[.int .i64 0, .int .i64 0, .int .i64 0, .int .i64 0, .int .i64 0, .int .i64 0, .int .i64 0, .int .i64 0, .int .i64 0, .int .i64 0, .int .i64 0, .int .i64 0, .int .i64 0, .int .i64 0, .int .i64 0, .int .i64 0, .int .i64 0, .int .i64 0, .int .i64 0, .int .i64 0, .int .i64 0, .int .i64 0, .int .i64 0, .int .i64 0, .int .i64 0, .int .i64 0, .int .i64 0, .int .i64 0, .int .i64 0, .int .i64 0, .int .i64 0, .int .i64 0, .int .i64 0, .int .i64 0, .int .i64 0, .int .i64 0, .int .i64 0, .int .i64 0, .int .i64 0, .int .i64 0] := by rfl
/-- the digits of the first j steps -/
def dqI (p : Nat) (a b : Nat → Nat) (j : Nat) : Nat → Int := fun i => if i < j then (dqD p a b i : Int) else 0
theorem dqI_zero (p : Nat) (a b : Nat → Nat) : dqI p a b 0 = fun _ => 0 := by funext i; unfold dqI; rw [if_neg (by omega)]
theorem dqI_next (p : Nat) (a b : Nat → Nat) (j : Nat) : updI (dqI p a b j) j (dqD p a b j : Int) = dqI p a b (j + 1) := by
 funext i
 unfold updI dqI
 by_cases h : i = j
 · subst h; rw [if_pos rfl, if_pos (by omega)]
 · rw [if_neg h]
   by_cases h2 : i < j
   · rw [if_pos h2, if_pos (by omega)]
   · rw [if_neg h2, if_neg (by omega)]
/-- an array of cells, cut behind with its capacity -/
theorem slice_hm {P : Program} {t e : TypeId} {n : Nat} (hu : P.underlying t = some (.array n e)) (hs : (P.info? e).map (·.size) = some 1) (b h : Nat) (h2 : h ≤ n) (kh km : IntKind) (w : World) :
 (Instr.sliceAt t (.pointer (some ⟨b, 0, none⟩)) none (some (.int kh (h : Int))) (some (.int km (h : Int)))).run P w = .ok (.slice (some ⟨b, 0, none⟩) h h) w := by
 have hl : P.arrayLen t = n := by simp [Program.arrayLen, hu]
 have he : P.elem t = e := by simp [Program.elem, hu]
 rw [run_sliceAt_array_hm (P := P) w t ⟨b, 0, none⟩ (by rw [hl, he]; exact hu) kh km (h : Int) (h : Int) (by omega) (by omega) (by rw [hl]; omega)]
 rw [he]
 have hz : ∀ w : World, (Go.sizeOf e).run P w = .ok 1 w := fun w => by
  cases hq : P.info? e with
  | none => rw [hq] at hs; cases hs
  | some i =>
   rw [hq] at hs
   simp only [Option.map_some, Option.some.injEq] at hs
   simp [Go.sizeOf, typeInfo, Sem.run_bind, hq, hs]
 rw [hz]
 simp [Result.andThen, slicedAt, Addr.add]
attribute [local irreducible] deg icl dqN dqR dqD dqI resP quoP prd dqL
set_option maxRecDepth 100000 in
set_option maxHeartbeats 3200000 in
theorem digitsOfQuotient_any (p n : Nat) (a b : Nat → Nat) (w : World) (hpr : p = 2 ∨ p = 3 ∨ p = 5 ∨ p = 7) (la : ∀ k, k < 64 → a k < p) (lb : ∀ k, k < 64 → b k < p) (hd : 0 ≤ deg b) (hn : n ≤ 40) :
 Calls Try.prog 71 #[.int .i64 (p : Int), .agg (zb 64 a), .agg (zb 64 b), .int .i64 (n : Int)] w (SgV (dqL p a b n) w) := by
 have HRO := Lib.hid (fun W => restOf_any p a b W hpr la lb hd)
 have HRL := Lib.hid (fun k => (dqR_deg hpr la lb hd k).2)
 have HPD := Lib.hid (fun k W => show Calls Try.prog 88 #[.int .i64 (p : Int), .agg (zb 64 TP), .agg (zb 64 (dqR p a b k))] W fun e w' => e = .returned (.agg (zb 64 (dqN p a b k))) ∧ Below W.heap.size W w' from by unfold dqN; exact product_any p TP (dqR p a b k) W (by omega) (by omega) (fun k _ => TP_lt (by omega) k) (HRL.out k))
 have HQR := Lib.hid (fun k W => show Calls Try.prog 118 #[.int .i64 (p : Int), .agg (zb 64 (dqN p a b k)), .agg (zb 64 b)] W fun e w' => e = .returned (.tuple #[.agg (zb 64 (quoP p (dqN p a b k) b)), .agg (zb 64 (dqR p a b (k + 1)))]) ∧ Below W.heap.size W w' from by rw [dqR_next]; exact quotientAndRest_any p (dqN p a b k) b W hpr (fun i _ => dqN_lt (by omega) a b k i) lb hd)
 have HDL := Lib.hid (fun k => show quoP p (dqN p a b k) b 0 = dqD p a b k ∧ dqD p a b k < 8 from ⟨by unfold dqD; rfl, by have := dqD_lt (p := p) (by omega) a b k; omega⟩)
 have HR0 := Lib.hid (show resP p a b = dqR p a b 0 by unfold dqR; rfl)
 have hn2 : (n : Int) ≤ 40 := by omega
 clear la lb hd
 go_enter Try.func71, Try.ntmps71
 go_upto_region 1 with (fail)
 obtain ⟨W1, hwo⟩ : ∃ v : World, v = ((w.alloc (.cells (zb 64 (a)) 26)).alloc (.cells (zb 64 (b)) 26)) := ⟨_, rfl⟩
 have B0 : Blk W1 (w.heap.size) 64 26 (a) := by subst hwo; have := ((Blk.new w 64 26 (a)).alloc (.cells (zb 64 (b)) 26)); simpa using this
 have B1 : Blk W1 (w.heap.size + 1) 64 26 (b) := by subst hwo; have := (Blk.new (w.alloc (.cells (zb 64 (a)) 26)) 64 26 (b)); simpa using this
 have hb : Below w.heap.size w W1 := by subst hwo; exact (((Below.refl _ _).alloc (Nat.le_refl _) _).alloc (by simp) _)
 rw [← hwo]
 clear hwo
 go_upto_region 2 with (first | rw [← z64] | rw [← icl_zero40])
 have lt_B0 := B0.lt
 have lt_B1 := B1.lt
 have lhb := hb.size
 obtain ⟨W2, hwo, hzQ⟩ : ∃ v : World, v = (W1.alloc (.cells (icl 40 (fun _ => 0)).toArray 133)) ∧ Blk v (w.heap.size) 64 26 (a) ∧ Blk v (w.heap.size + 1) 64 26 (b) ∧ Row v (W1.heap.size) 133 (icl 40 (fun _ => 0)).toArray ∧ Below w.heap.size w v := ⟨_, rfl, (B0.alloc (.cells (icl 40 (fun _ => 0)).toArray 133)), (B1.alloc (.cells (icl 40 (fun _ => 0)).toArray 133)), (Row.new W1 133 (icl 40 (fun _ => 0)).toArray), (hb.alloc (by have := hb.size; simp; omega) (.cells (icl 40 (fun _ => 0)).toArray 133))⟩
 rw [← hwo]
 clear hwo B0 B1 hb
 obtain ⟨B0, B1, B2, hb⟩ := hzQ
 obtain ⟨N1, hNN⟩ : ∃ n : Nat, n = W1.heap.size := ⟨_, rfl⟩
 rw [← hNN] at lt_B0 lt_B1 lhb B2 ⊢
 clear hNN
 have zN1_0 := lt_B0
 have zN1_1 := lt_B1
 have zN1 := lhb
 clear lt_B0 lt_B1 lhb
 try simp only [Act.put, pA, pB, pC]
 go_upto_region 3 with (first | rw [← z64])
 have lt_B0 := B0.lt
 have lt_B1 := B1.lt
 have lt_B2 := B2.lt
 have lhb := hb.size
 obtain ⟨W3, hwo, hzQ⟩ : ∃ v : World, v = (W2.alloc (.cells (zb 64 (fun _ => 0)) 26)) ∧ Blk v (w.heap.size) 64 26 (a) ∧ Blk v (w.heap.size + 1) 64 26 (b) ∧ Row v (N1) 133 (icl 40 (fun _ => 0)).toArray ∧ Blk v (W2.heap.size) 64 26 (fun _ => 0) ∧ Below w.heap.size w v := ⟨_, rfl, (B0.alloc (.cells (zb 64 (fun _ => 0)) 26)), (B1.alloc (.cells (zb 64 (fun _ => 0)) 26)), (B2.alloc (.cells (zb 64 (fun _ => 0)) 26)), (Blk.new W2 64 26 (fun _ => 0)), (hb.alloc (by have := hb.size; simp; omega) (.cells (zb 64 (fun _ => 0)) 26))⟩
 rw [← hwo]
 clear hwo B0 B1 B2 hb
 obtain ⟨B0, B1, B2, B3, hb⟩ := hzQ
 obtain ⟨N2, hNN⟩ : ∃ n : Nat, n = W2.heap.size := ⟨_, rfl⟩
 rw [← hNN] at lt_B0 lt_B1 lt_B2 lhb B3 ⊢
 clear hNN
 have zN2_0 := lt_B0
 have zN2_1 := lt_B1
 have zN2_2 := lt_B2
 have zN2 := lhb
 clear lt_B0 lt_B1 lt_B2 lhb
 try simp only [Act.put, pA, pB, pC]
 have lt_B0 := B0.lt
 have lt_B1 := B1.lt
 have lt_B2 := B2.lt
 have lt_B3 := B3.lt
 go_upto_region 4 with (first | rw [← z64] | (refine zla (.tmp 5) B0 Try.underlying26 Try.size26 ?_) | (refine zla (.tmp 6) B1 Try.underlying26 Try.size26 ?_) | (go_at_call 117; refine (HRO.out _).mono ?_; rintro e W4 ⟨rfl, hW4⟩; replace B0 := B0.zw hW4; replace B1 := B1.zw hW4; replace B2 := B2.zw hW4; replace B3 := B3.zw hW4; replace hb := (hb).trans (hW4.mono (hb).size); rw [HR0.out]) | (refine wpList_store_blk rfl 26 (.tmp 11) (.tmp 16) rfl _ 64 (dqR p a b 0) rfl rfl 26 _ ((Blk.new W4 64 26 (fun _ => 0))) Try.size26 ?_; try simp only [Act.put]))
 have lt_B0 := B0.lt
 have lt_B1 := B1.lt
 have lt_B2 := B2.lt
 have lt_B3 := B3.lt
 have lhb := hb.size
 obtain ⟨W5, hwo, hzQ⟩ : ∃ v : World, v = ((W4.alloc (.cells (zb 64 (fun _ => 0)) 26)).setRow (W4.heap.size) (zb 64 (dqR p a b 0))) ∧ Blk v (w.heap.size) 64 26 (a) ∧ Blk v (w.heap.size + 1) 64 26 (b) ∧ Row v (N1) 133 (icl 40 (fun _ => 0)).toArray ∧ Blk v (N2) 64 26 (fun _ => 0) ∧ Blk v (W4.heap.size) 64 26 (dqR p a b 0) ∧ Below w.heap.size w v := ⟨_, rfl, ((B0.alloc (.cells (zb 64 (fun _ => 0)) 26)).rowOther (by omega)), ((B1.alloc (.cells (zb 64 (fun _ => 0)) 26)).rowOther (by omega)), ((B2.alloc (.cells (zb 64 (fun _ => 0)) 26)).rowOther (by omega)), ((B3.alloc (.cells (zb 64 (fun _ => 0)) 26)).rowOther (by omega)), ((Blk.new W4 64 26 (fun _ => 0)).row (dqR p a b 0)), (zr (hb.alloc (by have := hb.size; simp; omega) (.cells (zb 64 (fun _ => 0)) 26)) (by omega) _)⟩
 rw [← hwo]
 clear hwo B0 B1 B2 B3 hb
 obtain ⟨B0, B1, B2, B3, B4, hb⟩ := hzQ
 obtain ⟨N3, hNN⟩ : ∃ n : Nat, n = W4.heap.size := ⟨_, rfl⟩
 rw [← hNN] at lt_B0 lt_B1 lt_B2 lt_B3 lhb B4 ⊢
 clear hNN
 have zN3_0 := lt_B0
 have zN3_1 := lt_B1
 have zN3_2 := lt_B2
 have zN3_3 := lt_B3
 have zN3 := lhb
 clear lt_B0 lt_B1 lt_B2 lt_B3 lhb
 try simp only [Act.put, pA, pB, pC]
 obtain ⟨fq, hfq⟩ : ∃ fq : Nat → Nat, fq = (fun _ => 0) := ⟨_, rfl⟩
 rw [← hfq] at B3
 clear hfq
 have hDz : Row W5 (N1) 133 (icl 40 (dqI p a b 0)).toArray := by rw [dqI_zero]; exact B2
 clear B2
 go_wp2_with fail
 go_loopw [18] (fun x wr => ∃ (j : Nat) (fq : Nat → Nat), j ≤ n ∧ x = .int .i64 (j : Int) ∧ Below w.heap.size w wr ∧ Blk wr (w.heap.size) 64 26 (a) ∧ Blk wr (w.heap.size + 1) 64 26 (b) ∧ Row wr (N1) 133 (icl 40 (dqI p a b j)).toArray ∧ Blk wr (N2) 64 26 fq ∧ Blk wr (N3) 64 26 (dqR p a b j)) (fun x _ => n - (intOf x).toNat)
 case atStart => exact ⟨0, fq, Nat.zero_le _, rfl, hb, B0, B1, hDz, B3, B4⟩
 case round =>
  clear hb B0 B1 hDz B3 B4
  obtain ⟨j, fq2, hjn, rfl, hb, B0, B1, B2, B3, B4⟩ := hrel
  clear fq
  by_cases hj : j < n
  · have hjl : (j : Int) < (n : Int) := by omega
    have HN := Lib.hid (fun W => HPD.out j W)
    have HQ := Lib.hid (fun W => HQR.out j W)
    have HD0 := Lib.hid (HDL.out j)
    have HIX := Lib.hid (dqI_next p a b j)
    obtain ⟨R, hR⟩ : ∃ R, R = dqR p a b j := ⟨_, rfl⟩
    obtain ⟨R2, hR2⟩ : ∃ R, R = dqR p a b (j + 1) := ⟨_, rfl⟩
    obtain ⟨N, hN⟩ : ∃ N, N = dqN p a b j := ⟨_, rfl⟩
    obtain ⟨Q, hQ⟩ : ∃ Q, Q = quoP p N b := ⟨_, rfl⟩
    rw [← hR, ← hN] at HN
    rw [← hN, ← hR2, ← hQ] at HQ
    rw [← hN, ← hQ] at HD0
    rw [← hR] at B4
    have HR2 := Lib.hid hR2
    clear hR hR2 hN hQ HPD HQR HDL
    go_upto_region 7 with (fail)
    have lt_B0 : (w.heap.size) < wr.heap.size := B0.lt
    have lt_B1 : (w.heap.size + 1) < wr.heap.size := B1.lt
    have lt_B2 : (N1) < wr.heap.size := B2.lt
    have lt_B3 : (N2) < wr.heap.size := B3.lt
    have lt_B4 : (N3) < wr.heap.size := B4.lt
    have hbase : w.heap.size ≤ wr.heap.size := hb.size
    refine zq Try.mixed (by kernel_rfl) (by kernel_rfl) (fun v => by (simp only [frL, Act.put, pA, pB, pC, Nat.reduceAdd, Nat.zero_add]; exact rfl))
     (fun L v W6 => Below w.heap.size w W6 ∧ Kx [N2, N3] wr W6 ∧ (∃ g, Blk W6 (N2) 64 26 (g)) ∧ (L 10 = false → Blk W6 (N2) 64 26 (fq2)) ∧ (L 10 = true → Blk W6 (N2) 64 26 (Q)) ∧ (∃ g, Blk W6 (N3) 64 26 (g)) ∧ (L 11 = false → Blk W6 (N3) 64 26 (R)) ∧ (L 11 = true → Blk W6 (N3) 64 26 (R2)) ∧ VF L v [some (.int .i64 (p : Int)), some (.int .i64 (p : Int)), some (.agg (zb 64 (TP))), some (.agg (zb 64 (R))), some (.agg (zb 64 (N))), some (.agg (zb 64 (b))), some (.tuple #[(.agg (zb 64 (Q))), (.agg (zb 64 (R2)))]), some (.tuple #[(.agg (zb 64 (Q))), (.agg (zb 64 (R2)))]), some (.agg (zb 64 (Q))), some (.agg (zb 64 (R2))), none, none]) ?_ ?_ ?_
    · intro v hv0
      exact ⟨hb.drew, Kx.start _ _, ⟨_, B3.drew⟩, (fun _ => B3.drew), (fun h => by cases h), ⟨_, B4.drew⟩, (fun _ => B4.drew), (fun h => by cases h), VF.start⟩
    · refine (.cons rfl ?_ (.cons rfl ?_ (.cons rfl ?_ (.cons rfl ?_ (.cons rfl ?_ (.cons rfl ?_ (.cons rfl ?_ (.cons rfl ?_ (.cons rfl ?_ (.cons rfl ?_ (.cons rfl ?_ (.cons rfl ?_ (.nil _)))))))))))))
      all_goals intro L v W6 hd hn ⟨hB, hX, x3, q3, n3, x4, q4, n4, V⟩ K hK
      · go_wp2_with fail
        exact hK _ (.int .i64 (p : Int)) _ (by simp only [Act.put, pA, pB, pC ]) ⟨hB, hX, x3, q3, n3, x4, q4, n4, V.step 0 rfl⟩
      · go_wp2_with fail
        exact hK _ (.int .i64 (p : Int)) _ (by simp only [Act.put, pA, pB, pC ]) ⟨hB, hX, x3, q3, n3, x4, q4, n4, V.step 1 rfl⟩
      · refine wp_build_of 26 _ rfl (zb 64 TP) (by rw [Array.toList_map]; exact built_T) ?_
        exact hK _ _ _ rfl ⟨hB, hX, x3, q3, n3, x4, q4, n4, V.step 2 rfl⟩
      · have s4 := q4 (by
         cases hL : L 11 with
         | false => rfl
         | true => exact absurd rfl (hn 11 _ rfl hL ⟨3, .phase⟩ (by simp) rfl))
        refine zlc s4 Try.underlying26 Try.size26 ?_
        exact hK _ _ _ rfl ⟨hB, hX, x3, q3, n3, x4, q4, n4, V.step 3 rfl⟩
      · have e1 := V.at (zdq hd 1 rfl) rfl
        have e2 := V.at (zdq hd 2 rfl) rfl
        have e3 := V.at (zdq hd 3 rfl) rfl
        go_wp2_with (go_at_call 88; refine (HN.out _).mono ?_; rintro e wy ⟨rfl, hy⟩)
        exact hK _ (.agg (zb 64 (N))) _ (by simp only [Act.put, pA, pB, pC, e1, e2, e3]) ⟨hB.trans (hy.mono hB.size), hX.below hy, (let ⟨g, h⟩ := x3; ⟨g, h.zw hy⟩), (fun h => (q3 h).below hy (q3 h).lt), (fun h => (n3 h).below hy (n3 h).lt), (let ⟨g, h⟩ := x4; ⟨g, h.zw hy⟩), (fun h => (q4 h).below hy (q4 h).lt), (fun h => (n4 h).below hy (n4 h).lt), V.step 4 rfl⟩
      · refine wp_load_any 26 _ rfl _ rfl 64 26 _ (B1.kx hX (by simp <;> omega)) _ Try.underlying26 rfl Try.size26 ?_
        exact hK _ _ _ rfl ⟨hB, hX, x3, q3, n3, x4, q4, n4, V.step 5 rfl⟩
      · have e0 := V.at (zdq hd 0 rfl) rfl
        have e4 := V.at (zdq hd 4 rfl) rfl
        have e5 := V.at (zdq hd 5 rfl) rfl
        go_wp2_with (go_at_call 118; refine (HQ.out _).mono ?_; rintro e wy ⟨rfl, hy⟩)
        exact hK _ (.tuple #[(.agg (zb 64 (Q))), (.agg (zb 64 (R2)))]) _ (by simp only [Act.put, pA, pB, pC, e0, e4, e5]) ⟨hB.trans (hy.mono hB.size), hX.below hy, (let ⟨g, h⟩ := x3; ⟨g, h.zw hy⟩), (fun h => (q3 h).below hy (q3 h).lt), (fun h => (n3 h).below hy (n3 h).lt), (let ⟨g, h⟩ := x4; ⟨g, h.zw hy⟩), (fun h => (q4 h).below hy (q4 h).lt), (fun h => (n4 h).below hy (n4 h).lt), V.step 6 rfl⟩
      · have e6 := V.at (zdq hd 6 rfl) rfl
        go_wp2_with fail
        exact hK _ (.tuple #[(.agg (zb 64 (Q))), (.agg (zb 64 (R2)))]) _ (by simp only [Act.put, pA, pB, pC, e6]) ⟨hB, hX, x3, q3, n3, x4, q4, n4, V.step 7 rfl⟩
      · have e7 := V.at (zdq hd 7 rfl) rfl
        go_wp2_with fail
        exact hK _ (.agg (zb 64 (Q))) _ (by simp only [Act.put, pA, pB, pC, e7]) ⟨hB, hX, x3, q3, n3, x4, q4, n4, V.step 8 rfl⟩
      · have e7 := V.at (zdq hd 7 rfl) rfl
        go_wp2_with fail
        exact hK _ (.agg (zb 64 (R2))) _ (by simp only [Act.put, pA, pB, pC, e7]) ⟨hB, hX, x3, q3, n3, x4, q4, n4, V.step 9 rfl⟩
      · have e8 := V.at (zdq hd 8 rfl) rfl
        obtain ⟨gz, hk⟩ := x3
        refine zsb 26 _ _ rfl _ 64 (Q) rfl e8 26 gz hk Try.size26 ?_
        exact hK _ undef _ rfl ⟨zr hB (by omega) _, hX.row (by simp) _, ⟨_, hk.row _⟩, (fun h => absurd h (by simp [setL])), (fun _ => hk.row _), (let ⟨g, h⟩ := x4; ⟨g, (h).rowOther (by omega)⟩), (fun h => (q4 h).rowOther (by omega)), (fun h => (n4 h).rowOther (by omega)), V.skip 10 rfl⟩
      · have e9 := V.at (zdq hd 9 rfl) rfl
        obtain ⟨gz, hk⟩ := x4
        refine zsb 26 _ _ rfl _ 64 (R2) rfl e9 26 gz hk Try.size26 ?_
        exact hK _ undef _ rfl ⟨zr hB (by omega) _, hX.row (by simp) _, (let ⟨g, h⟩ := x3; ⟨g, (h).rowOther (by omega)⟩), (fun h => (q3 h).rowOther (by omega)), (fun h => (n3 h).rowOther (by omega)), ⟨_, hk.row _⟩, (fun h => absurd h (by simp [setL])), (fun _ => hk.row _), V.skip 11 rfl⟩
    · intro L v W6 hL ⟨hB, hX, x3, q3, n3, x4, q4, n4, V⟩
      have r3 := n3 (hL 10 (by decide))
      have r4 := n4 (hL 11 (by decide))
      have e0 := V.at (hL 0 (by decide)) rfl
      have e1 := V.at (hL 1 (by decide)) rfl
      have e2 := V.at (hL 2 (by decide)) rfl
      have e3 := V.at (hL 3 (by decide)) rfl
      have e4 := V.at (hL 4 (by decide)) rfl
      have e5 := V.at (hL 5 (by decide)) rfl
      have e6 := V.at (hL 6 (by decide)) rfl
      have e7 := V.at (hL 7 (by decide)) rfl
      have e8 := V.at (hL 8 (by decide)) rfl
      have e9 := V.at (hL 9 (by decide)) rfl
      clear hL x3 q3 n3 x4 q4 n4 V
      replace B0 := B0.kx hX (by simp <;> omega)
      replace B1 := B1.kx hX (by simp <;> omega)
      replace B2 := B2.kx hX (by simp <;> omega)
      clear hX
      simp only [Exit.then, e0, e1, e2, e3, e4, e5, e6, e7, e8, e9]
      clear e0 e1 e2 e3 e4 e5 e6 e7 e8 e9
      replace B3 := r3
      clear r3
      replace B4 := r4
      clear r4
      replace hb := hB
      clear hB
      clear hbase lt_B0 lt_B1 lt_B2 lt_B3 lt_B4
      have cq := B3.cell (i := 0) (by omega)
      rw [HD0.out.1] at cq
      have hd8 := HD0.out.2
      obtain ⟨v, hv⟩ : ∃ v, v = dqD p a b j := ⟨_, rfl⟩
      rw [← hv] at cq hd8 HIX
      have hD2 := Lib.hid (show Row (W6.setCell ⟨N1, j, none⟩ (.int .i64 (v : Int))) (N1) 133 (icl 40 (dqI p a b (j + 1))).toArray from HIX.out ▸ B2.zset)
      have cc := B2.zcell (i := j) (by omega)
      have zz := B2.frozen j
      clear hv HIX
      go_wp2_with fail
      go_roundw
      case rel => exact ⟨j + 1, Q, by omega, by go_num, hb.setCell (by show w.heap.size ≤ _; omega) _, B0.setOther (by dsimp only; omega), B1.setOther (by dsimp only; omega), hD2.out, B3.setOther (by dsimp only; omega), by rw [← HR2.out]; exact B4.setOther (by dsimp only; omega)⟩
      case measure => simp [intOf] <;> omega
  · have hjl : ¬ (j : Int) < (n : Int) := by omega
    obtain rfl : j = n := by omega
    have hsl := fun W => slice_hm (P := Try.prog) Try.underlying133 Try.sizeI64 (N1) j hn .i64 .i64 W
    have hlt := B2.lt
    have hsg : Seg wr (N1) (N1 + 1) (.slice (some ⟨N1, 0, none⟩) j j) (dqL p a b j) := by
     refine ⟨by omega, by omega, _, j, by rw [dqL_len], .inr ⟨_, 0, _, _, rfl, Nat.le_refl _, by omega, B2, ?_, fun i x hx => ?_⟩⟩
     · rw [dqL_len]; simp [icl_len]; omega
     · have hi : i < j := by have := (List.getElem?_eq_some_iff.1 hx).1; rwa [dqL_len] at this
       rw [dqL_at hi] at hx
       injection hx with hx
       rw [Nat.zero_add, icl_get (by omega), ← hx]
       unfold dqI; rw [if_pos hi]
    go_wp2_with fail
    go_ret
    exact ⟨_, _, _, rfl, by omega, hsg, hb⟩
end Go.Proofs.Ytgcajgmokcmcgaa
end
