/-
  Walks: quotient and rest.
-/
import Derived.Test.YtbjpkmbhbpcbgaaW15
import Derived.Test.YtbjpkmbhbpcbgaaBz
namespace Go.Proofs.Ytbjpkmbhbpcbgaa
open Go.RowKit
set_option linter.unusedVariables false
set_option linter.unusedSimpArgs false
attribute [local irreducible] deg invN dS qS stp stpr quoP resP
theorem splice_cut (a g : Nat → Nat) (hg : ∀ k, 64 ≤ k → g k = 0) : splice (bl 128 g) 0 (bl 64 a) = bl 128 (cut a) := by
  unfold splice
  apply List.ext_getElem?
  intro i
  by_cases h : i < 64
  · rw [List.take_zero, List.nil_append, List.getElem?_append_left (by rw [bl_length]; exact h)]
    have e1 := bcells_get (f := a) h
    have e2 := bcells_get (f := cut a) (show i < 128 by omega)
    simp only [List.getElem?_toArray] at e1 e2
    rw [e1, e2, cut_in a h]
  · rw [List.take_zero, List.nil_append, List.getElem?_append_right (by rw [bl_length]; omega), bl_length, List.getElem?_drop]
    by_cases h2 : i < 128
    · have e1 := bcells_get (f := g) (show 0 + 64 + (i - 64) < 128 by omega)
      have e2 := bcells_get (f := cut a) h2
      simp only [List.getElem?_toArray] at e1 e2
      rw [e1, e2, cut_zero a (by omega), hg _ (by omega)]
    · rw [List.getElem?_eq_none (by rw [bl_length]; omega), List.getElem?_eq_none (by rw [bl_length]; omega)]
theorem wp_copy_splice {P : Program} {o : Oper} {a : Act} {w : World} {K : Act → World → Prop} {Q : Exit → Act → World → Prop} (hgd : o.guard = none) (d s : Operand) (dT sT : TypeId)
    (ho : o.op = .call { callee := .builtin .copy, args := #[d, s], argTypes := #[dT, sT] }) (elem : TypeId) (hu : P.underlying dT = some (.slice elem)) (hsz : (P.info? elem).map (·.size) = some 1)
    (dp sp : Option Addr) (dLen dCap sLen sCap : Nat) (hd : a.eval d = .slice dp dLen dCap) (hs : a.eval s = .slice sp sLen sCap)
    (g off : Nat) (cur : List Value) (t : TypeId) (hg : w.heap[g]? = some (.cells cur.toArray t (0, 0))) (cs : List Value) (hn : cs.length = Nat.min sLen dLen)
    (hpos : 0 < cs.length → dp = some ⟨g, off, none⟩ ∧ ∃ ad, sp = some ad ∧ ∀ j v, cs[j]? = some v → w.cell? (ad.add j) = some v)
    (hfit : off + cs.length ≤ cur.length) (h1 : ∀ v ∈ cs, v.oneCell' = true) (B : Nat) (w0 : World) (hb : Below B w0 w) (hBg : B ≤ g)
    (h : ∀ w', Hid (w'.heap[g]? = some (.cells (splice cur off cs).toArray t (0, 0))) → Below B w0 w' → K (a.put o.dst (goInt cs.length)) w') : Oper.wp P o a w K Q := by
  have := step_copy_splice (P := P) (ops := #[]) (K := K) (Q := Q) (E := True) hgd d s dT sT ho elem hu hsz dp sp dLen dCap sLen sCap hd hs g off cur t hg cs hn hpos hfit h1 B w0 hb hBg h
  rwa [if_pos (by simp [Region.wanted, hgd])] at this
set_option maxRecDepth 100000 in
set_option maxHeartbeats 3200000 in
theorem quotientAndRest_any (p : Nat) (a b : Nat → Nat) (w : World) (hp : p = 2 ∨ p = 3 ∨ p = 5 ∨ p = 7) (ha : ∀ k, k < 64 → a k < p) (hbp : ∀ k, k < 64 → b k < p) (hd : 0 ≤ deg b) :
    Calls Try.prog 125 #[.int .i64 (p : Int), .agg (bcells 64 a), .agg (bcells 64 b)] w fun e w' => e = .returned (.tuple #[.agg (bcells 64 (quoP p a b)), .agg (bcells 64 (resP p a b))]) ∧ Below w.heap.size w w' := by
  obtain ⟨m, hm⟩ : ∃ m : Nat, deg b = (m : Int) := ⟨(deg b).toNat, by omega⟩
  obtain ⟨hm6, hbm, _⟩ := deg_top hm
  have p0 : 0 < p := by omega
  have HL := Lib.hid (fun W => longDivision_any p m (cut a) b W hp (fun k _ => cut_all p0 ha k) hbp hm hbm hm6)
  have HQ := Lib.hid (quoP_at (p := p) (a := a) hm)
  have HR := Lib.hid (resP_at (p := p) (a := a) hm)
  clear hm hd ha hbp
  go_enter Try.func125, Try.ntmps125
  go_upto_region 2 with (fail)
  rw [← zero128, ← zero64]
  obtain ⟨wo, hwo⟩ : ∃ wo : World, wo = (((((w.alloc (.cells (bcells 64 a) 23)).alloc (.cells (bcells 64 b) 23)).alloc (.cells (bcells 64 fun _ => 0) 23)).alloc (.cells (bcells 64 fun _ => 0) 23)).alloc (.cells (bcells 128 fun _ => 0) 118)) := ⟨_, rfl⟩
  have b0 : Blk wo (w.heap.size) 64 23 a := by subst hwo; have := (((((Blk.new w 64 23 a).alloc (.cells (bcells 64 b) 23)).alloc (.cells (bcells 64 fun _ => 0) 23)).alloc (.cells (bcells 64 fun _ => 0) 23)).alloc (.cells (bcells 128 fun _ => 0) 118)); simpa using this
  have b1 : Blk wo (w.heap.size + 1) 64 23 b := by subst hwo; have := ((((Blk.new (w.alloc (.cells (bcells 64 a) 23)) 64 23 b).alloc (.cells (bcells 64 fun _ => 0) 23)).alloc (.cells (bcells 64 fun _ => 0) 23)).alloc (.cells (bcells 128 fun _ => 0) 118)); simpa using this
  have b2 : Blk wo (w.heap.size + 1 + 1) 64 23 (fun _ => 0) := by subst hwo; have := (((Blk.new ((w.alloc (.cells (bcells 64 a) 23)).alloc (.cells (bcells 64 b) 23)) 64 23 (fun _ => 0)).alloc (.cells (bcells 64 fun _ => 0) 23)).alloc (.cells (bcells 128 fun _ => 0) 118)); simpa using this
  have b3 : Blk wo (w.heap.size + 1 + 1 + 1) 64 23 (fun _ => 0) := by subst hwo; have := ((Blk.new (((w.alloc (.cells (bcells 64 a) 23)).alloc (.cells (bcells 64 b) 23)).alloc (.cells (bcells 64 fun _ => 0) 23)) 64 23 (fun _ => 0)).alloc (.cells (bcells 128 fun _ => 0) 118)); simpa using this
  have b4 : Blk wo (w.heap.size + 1 + 1 + 1 + 1) 128 118 (fun _ => 0) := by subst hwo; have := (Blk.new ((((w.alloc (.cells (bcells 64 a) 23)).alloc (.cells (bcells 64 b) 23)).alloc (.cells (bcells 64 fun _ => 0) 23)).alloc (.cells (bcells 64 fun _ => 0) 23)) 128 118 (fun _ => 0)); simpa using this
  have hb : Below w.heap.size w wo := by subst hwo; exact ((((((Below.refl _ _).alloc (Nat.le_refl _) _).alloc (by simp) _).alloc (by simp; omega) _).alloc (by simp; omega) _).alloc (by simp; omega) _)
  rw [← hwo]
  clear hwo
  have lt_b0 : (w.heap.size) < wo.heap.size := b0.lt
  have lt_b1 : (w.heap.size + 1) < wo.heap.size := b1.lt
  have lt_b2 : (w.heap.size + 1 + 1) < wo.heap.size := b2.lt
  have lt_b3 : (w.heap.size + 1 + 1 + 1) < wo.heap.size := b3.lt
  have lt_b4 : (w.heap.size + 1 + 1 + 1 + 1) < wo.heap.size := b4.lt
  have hbase : w.heap.size ≤ wo.heap.size := hb.size
  refine wp_region_steps0 Try.mixed (by kernel_rfl) (by kernel_rfl) (fun v => by (simp only [frL, Act.put, List.setIfInBounds_toArray, List.set_cons_zero, List.set_cons_succ, Nat.reduceAdd, Nat.zero_add]; exact rfl))
    (fun L v wx => Below w.heap.size w wx ∧ wo.heap.size ≤ wx.heap.size ∧ Blk wx (w.heap.size) 64 23 (a) ∧ Blk wx (w.heap.size + 1) 64 23 (b) ∧ Blk wx (w.heap.size + 1 + 1) 64 23 (fun _ => 0) ∧ Blk wx (w.heap.size + 1 + 1 + 1) 64 23 (fun _ => 0) ∧ (∃ g, Blk wx (w.heap.size + 1 + 1 + 1 + 1) 128 118 (g)) ∧ (L 2 = false → Blk wx (w.heap.size + 1 + 1 + 1 + 1) 128 118 (fun _ => 0)) ∧ (L 2 = true → Blk wx (w.heap.size + 1 + 1 + 1 + 1) 128 118 (cut a)) ∧ (L 0 = true → v 0 = (.slice (some ⟨w.heap.size + 1 + 1 + 1 + 1, 0, none⟩) 128 128)) ∧ (L 1 = true → v 1 = (.slice (some ⟨w.heap.size, 0, none⟩) 64 64)) ∧ (L 2 = true → v 2 = (goInt ((64 : Nat) : Int)))) ?_ ?_ ?_
  · intro v hv0
    exact ⟨hb.drew, Nat.le_refl _, b0.drew, b1.drew, b2.drew, b3.drew, ⟨_, b4.drew⟩, (fun _ => b4.drew), (fun h => by cases h), (fun h => by cases h), (fun h => by cases h), (fun h => by cases h)⟩
  · refine (.cons rfl ?_ (.cons rfl ?_ (.cons rfl ?_ (.nil _))))
    · intro L v wx hd hn ⟨hB, hz, s0, s1, s2, s3, x4, q4, n4, h0, h1, h2⟩ K hK
      go_wp2_with fail
      exact hK _ (.slice (some ⟨w.heap.size + 1 + 1 + 1 + 1, 0, none⟩) 128 128) _ (by simp only [Act.put, List.setIfInBounds_toArray, List.set_cons_zero, List.set_cons_succ ]) ⟨hB, hz, s0, s1, s2, s3, x4, q4, n4, (fun _ => rfl), h1, h2⟩
    · intro L v wx hd hn ⟨hB, hz, s0, s1, s2, s3, x4, q4, n4, h0, h1, h2⟩ K hK
      go_wp2_with fail
      exact hK _ (.slice (some ⟨w.heap.size, 0, none⟩) 64 64) _ (by simp only [Act.put, List.setIfInBounds_toArray, List.set_cons_zero, List.set_cons_succ ]) ⟨hB, hz, s0, s1, s2, s3, x4, q4, n4, h0, (fun _ => rfl), h2⟩
    · intro L v wx hd hn ⟨hB, hz, s0, s1, s2, s3, x4, q4, n4, h0, h1, h2⟩ K hK
      have e0 := h0 (hd ⟨0, .data⟩ (by simp) rfl)
      have e1 := h1 (hd ⟨1, .data⟩ (by simp) rfl)
      obtain ⟨gz, hk, hgz⟩ : ∃ g, Blk wx (w.heap.size + 1 + 1 + 1 + 1) 128 118 g ∧ ∀ k, 64 ≤ k → g k = 0 := by
        cases hL : L 2 with
        | false => exact ⟨_, q4 hL, fun _ _ => rfl⟩
        | true => exact ⟨_, n4 hL, fun k hk => cut_zero a hk⟩
      have hg : wx.heap[w.heap.size + 1 + 1 + 1 + 1]? = some (.cells (bl 128 gz).toArray 118 (0, 0)) := by unfold Blk at hk; exact hk
      refine wp_copy_splice rfl _ _ 120 120 rfl 5 Try.underlying120 Try.size5 _ _ _ _ _ _ e0 e1 (w.heap.size + 1 + 1 + 1 + 1) 0 (bl 128 gz) 118 hg (bl 64 a) (by rw [bl_length]; rfl) (fun _ => ⟨rfl, _, rfl, fun j v hv => by rw [addr_zero_add]; have := s0.range j v hv; rwa [Nat.zero_add] at this⟩) (by rw [bl_length, bl_length]; omega) bl_one (w.heap.size + 1 + 1 + 1 + 1) wx (Below.refl _ _) (Nat.le_refl _) ?_
      intro wy hyg hy
      have hnew : Blk wy (w.heap.size + 1 + 1 + 1 + 1) 128 118 (cut a) := by unfold Blk; rw [hyg.out, splice_cut a gz hgz]
      rw [bl_length]
      exact hK _ (goInt ((64 : Nat) : Int)) _ (by simp only [Act.put, List.setIfInBounds_toArray, List.set_cons_zero, List.set_cons_succ, e0, e1]) ⟨hB.trans (hy.mono (by omega)), (Nat.le_trans hz hy.size), (s0).below hy (by omega), (s1).below hy (by omega), (s2).below hy (by omega), (s3).below hy (by omega), ⟨_, hnew⟩, (fun h => absurd h (by simp [setL])), (fun _ => hnew), h0, h1, (fun _ => rfl)⟩
  · intro L v wx hL ⟨hB, hz, s0, s1, s2, s3, x4, q4, n4, h0, h1, h2⟩
    have r4 := n4 (hL 2 (by decide))
    have e0 := h0 (hL 0 (by decide))
    have e1 := h1 (hL 1 (by decide))
    have e2 := h2 (hL 2 (by decide))
    clear hL x4 q4 n4 h0 h1 h2
    simp only [Exit.then, e0, e1, e2]
    clear e0 e1 e2
    replace hb := hB
    replace b1 := s1
    replace b2 := s2
    replace b3 := s3
    replace b4 := r4
    clear hB s1 s2 s3 r4 hz
    have hx10 : ∀ w1 : World, Blk ((w1.alloc (.cells (bcells 128 fun _ => 0) 118)).alloc (.cells (bcells 64 fun _ => 0) 23)) (w1.heap.size + 1) 64 23 (fun _ => 0) := fun w1 => by
      have := Blk.new (w1.alloc (.cells (bcells 128 fun _ => 0) 118)) 64 23 (fun _ => 0)
      simpa using this
    have HX := Lib.hid hx10
    clear hx10
    go_upto_region 4 with (first | refine wpList_load_blk rfl 118 _ rfl _ rfl 128 118 _ (b4) 5 Try.underlying118 Try.size118 ?_ | refine wpList_load_blk rfl 23 _ rfl _ rfl 64 23 _ (b1) 5 Try.underlying23 Try.size23 ?_ | (go_at_call 174; refine (HL.out _).mono ?_; rintro e w1 ⟨rfl, h1⟩; rw [← HQ.out, ← HR.out]) | (rw [← zero128, ← zero64]; refine wpList_store_blk rfl 118 _ _ rfl _ 128 (quoP p a b) rfl rfl 118 _ ((Blk.new w1 128 118 (fun _ => 0)).alloc _) Try.size118 ?_) | (refine wpList_store_blk rfl 23 _ _ rfl _ 64 (resP p a b) rfl rfl 23 _ ((HX.out w1).rowOther (by omega)) Try.size23 ?_))
    have a9 := (((Blk.new w1 128 118 (fun _ => 0)).alloc (.cells (bcells 64 fun _ => 0) 23)).row (quoP p a b)).rowOther (k := w1.heap.size + 1) (cs := bcells 64 (resP p a b)) (by omega)
    have a10 := ((HX.out w1).rowOther (k := w1.heap.size) (cs := bcells 128 (quoP p a b)) (by omega)).row (resP p a b)
    have hb4 := below_row (below_row (((Below.refl w1.heap.size w1).alloc (Nat.le_refl _) (.cells (bcells 128 fun _ => 0) 118)).alloc (by simp) (.cells (bcells 64 fun _ => 0) 23)) (Nat.le_refl _) (bcells 128 (quoP p a b))) (show w1.heap.size ≤ w1.heap.size + 1 by omega) (bcells 64 (resP p a b))
    obtain ⟨w4, hw4⟩ : ∃ w4 : World, w4 = (((w1.alloc (.cells (bcells 128 fun _ => 0) 118)).alloc (.cells (bcells 64 fun _ => 0) 23)).setRow w1.heap.size (bcells 128 (quoP p a b))).setRow (w1.heap.size + 1) (bcells 64 (resP p a b)) := ⟨_, rfl⟩
    rw [← hw4] at a9 a10 hb4 ⊢
    clear hw4
    replace b2 := b2.below h1 b2.lt
    replace b3 := b3.below h1 b3.lt
    have hl3 := b3.lt
    replace b2 := b2.below hb4 b2.lt
    replace b3 := b3.below hb4 b3.lt
    replace hb := (hb.trans (h1.mono hb.size))
    replace hb := hb.trans (hb4.mono hb.size)
    obtain ⟨n9, hn9⟩ : ∃ n9, n9 = w1.heap.size := ⟨_, rfl⟩
    rw [← hn9] at a9 a10 hl3 ⊢
    clear hn9 hb4 h1 b1 b4
    have hat := fun (W : World) (a : Option Addr) => run_arrayAt (P := Try.prog) (w := W) 23 5 64 a 64 128 Try.underlying23 (by omega)
    have lt_a9 : (n9) < w4.heap.size := a9.lt
    have lt_a10 : (n9 + 1) < w4.heap.size := a10.lt
    have lt_b2 : (w.heap.size + 1 + 1) < w4.heap.size := b2.lt
    have lt_b3 : (w.heap.size + 1 + 1 + 1) < w4.heap.size := b3.lt
    have hbase : w.heap.size ≤ w4.heap.size := hb.size
    refine wp_region_steps0 Try.mixed (by kernel_rfl) (by kernel_rfl) (fun v => by (simp only [frL, Act.put, List.setIfInBounds_toArray, List.set_cons_zero, List.set_cons_succ, Nat.reduceAdd, Nat.zero_add]; exact rfl))
      (fun L v wx => Below w.heap.size w wx ∧ w4.heap.size ≤ wx.heap.size ∧ Blk wx (n9) 128 118 (quoP p a b) ∧ Blk wx (n9 + 1) 64 23 (resP p a b) ∧ (∃ g, Blk wx (w.heap.size + 1 + 1) 64 23 (g)) ∧ (L 4 = false → Blk wx (w.heap.size + 1 + 1) 64 23 (fun _ => 0)) ∧ (L 4 = true → Blk wx (w.heap.size + 1 + 1) 64 23 (quoP p a b)) ∧ (∃ g, Blk wx (w.heap.size + 1 + 1 + 1) 64 23 (g)) ∧ (L 5 = false → Blk wx (w.heap.size + 1 + 1 + 1) 64 23 (fun _ => 0)) ∧ (L 5 = true → Blk wx (w.heap.size + 1 + 1 + 1) 64 23 (resP p a b)) ∧ (L 0 = true → v 0 = (.slice (some ⟨n9, 0, none⟩) 64 128)) ∧ (L 1 = true → v 1 = (.pointer (some ⟨n9, 0, none⟩) )) ∧ (L 2 = true → v 2 = (.agg (bcells 64 (quoP p a b)))) ∧ (L 3 = true → v 3 = (.agg (bcells 64 (resP p a b))))) ?_ ?_ ?_
    · intro v hv0
      exact ⟨hb.drew, Nat.le_refl _, a9.drew, a10.drew, ⟨_, b2.drew⟩, (fun _ => b2.drew), (fun h => by cases h), ⟨_, b3.drew⟩, (fun _ => b3.drew), (fun h => by cases h), (fun h => by cases h), (fun h => by cases h), (fun h => by cases h), (fun h => by cases h)⟩
    · refine (.cons rfl ?_ (.cons rfl ?_ (.cons rfl ?_ (.cons rfl ?_ (.cons rfl ?_ (.cons rfl ?_ (.nil _)))))))
      · intro L v wx hd hn ⟨hB, hz, s0, s1, x2, q2, n2, x3, q3, n3, h0, h1, h2, h3⟩ K hK
        go_wp2_with fail
        exact hK _ (.slice (some ⟨n9, 0, none⟩) 64 128) _ (by simp only [Act.put, List.setIfInBounds_toArray, List.set_cons_zero, List.set_cons_succ ]) ⟨hB, hz, s0, s1, x2, q2, n2, x3, q3, n3, (fun _ => rfl), h1, h2, h3⟩
      · intro L v wx hd hn ⟨hB, hz, s0, s1, x2, q2, n2, x3, q3, n3, h0, h1, h2, h3⟩ K hK
        have e0 := h0 (hd ⟨0, .data⟩ (by simp) rfl)
        go_wp2_with fail
        exact hK _ (.pointer (some ⟨n9, 0, none⟩) ) _ (by simp only [Act.put, List.setIfInBounds_toArray, List.set_cons_zero, List.set_cons_succ, e0]) ⟨hB, hz, s0, s1, x2, q2, n2, x3, q3, n3, h0, (fun _ => rfl), h2, h3⟩
      · intro L v wx hd hn ⟨hB, hz, s0, s1, x2, q2, n2, x3, q3, n3, h0, h1, h2, h3⟩ K hK
        have e1 := h1 (hd ⟨1, .data⟩ (by simp) rfl)
        refine wp_load_mid 23 _ rfl _ (0) e1 _ _ (s0.pre (m := 64) (by omega)) Try.underlying23 rfl (by rw [bl_length]; exact Try.size23) ?_
        exact hK _ _ _ rfl ⟨hB, hz, s0, s1, x2, q2, n2, x3, q3, n3, h0, h1, (fun _ => rfl), h3⟩
      · intro L v wx hd hn ⟨hB, hz, s0, s1, x2, q2, n2, x3, q3, n3, h0, h1, h2, h3⟩ K hK
        refine wp_load_blk 23 _ rfl _ rfl 64 23 _ s1 _ Try.underlying23 Try.size23 ?_
        exact hK _ _ _ rfl ⟨hB, hz, s0, s1, x2, q2, n2, x3, q3, n3, h0, h1, h2, (fun _ => rfl)⟩
      · intro L v wx hd hn ⟨hB, hz, s0, s1, x2, q2, n2, x3, q3, n3, h0, h1, h2, h3⟩ K hK
        have e2 := h2 (hd ⟨2, .data⟩ (by simp) rfl)
        obtain ⟨gz, hk⟩ := x2
        refine wp_store_blk 23 _ _ rfl _ 64 (quoP p a b) rfl e2 23 gz hk Try.size23 ?_
        exact hK _ undef _ rfl ⟨below_row hB (by omega) _, (by simpa [World.setRow] using hz), (s0).rowOther (by omega), (s1).rowOther (by omega), ⟨_, hk.row _⟩, (fun h => absurd h (by simp [setL])), (fun _ => hk.row _), (let ⟨g, h⟩ := x3; ⟨g, (h).rowOther (by omega)⟩), (fun h => (q3 h).rowOther (by omega)), (fun h => (n3 h).rowOther (by omega)), h0, h1, h2, h3⟩
      · intro L v wx hd hn ⟨hB, hz, s0, s1, x2, q2, n2, x3, q3, n3, h0, h1, h2, h3⟩ K hK
        have e3 := h3 (hd ⟨3, .data⟩ (by simp) rfl)
        obtain ⟨gz, hk⟩ := x3
        refine wp_store_blk 23 _ _ rfl _ 64 (resP p a b) rfl e3 23 gz hk Try.size23 ?_
        exact hK _ undef _ rfl ⟨below_row hB (by omega) _, (by simpa [World.setRow] using hz), (s0).rowOther (by omega), (s1).rowOther (by omega), (let ⟨g, h⟩ := x2; ⟨g, (h).rowOther (by omega)⟩), (fun h => (q2 h).rowOther (by omega)), (fun h => (n2 h).rowOther (by omega)), ⟨_, hk.row _⟩, (fun h => absurd h (by simp [setL])), (fun _ => hk.row _), h0, h1, h2, h3⟩
    · intro L v wx hL ⟨hB, hz, s0, s1, x2, q2, n2, x3, q3, n3, h0, h1, h2, h3⟩
      have r2 := n2 (hL 4 (by decide))
      have r3 := n3 (hL 5 (by decide))
      have e0 := h0 (hL 0 (by decide))
      have e1 := h1 (hL 1 (by decide))
      have e2 := h2 (hL 2 (by decide))
      have e3 := h3 (hL 3 (by decide))
      clear hL x2 q2 n2 x3 q3 n3 h0 h1 h2 h3
      simp only [Exit.then, e0, e1, e2, e3]
      clear e0 e1 e2 e3
      go_wp2_with fail
      show bodyPost Try.prog Try.f125 _ .ret _ _
      refine bodyPost_ret (results_bb rfl _ _ _ 64 23 5 _ _ 64 23 5 _ rfl r2 Try.underlying23 Try.size23 rfl r3 Try.underlying23 Try.size23) rfl ⟨rfl, hB⟩
end Go.Proofs.Ytbjpkmbhbpcbgaa
