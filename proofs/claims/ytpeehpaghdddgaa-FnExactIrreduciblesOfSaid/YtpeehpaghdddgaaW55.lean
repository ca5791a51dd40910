/-
  Walks: lists of irreducible polynomials (the program's).
-/
import Derived.Test.YtpeehpaghdddgaaW54
namespace Go.Proofs.Ytpeehpaghdddgaa
open Go Go.RowKit
set_option linter.unusedVariables false
set_option linter.unusedSimpArgs false
attribute [local irreducible] ofN irB deg
noncomputable def irM (p : Nat) (l : List Nat) : List (Nat → Nat) := (l.filter fun N => irB p (ofN p N)).map (ofN p)
theorem irM_nil (p : Nat) : irM p [] = [] := rfl
theorem irM_yes {p x : Nat} {l : List Nat} (h : irB p (ofN p x) = true) : irM p (l ++ [x]) = irM p l ++ [ofN p x] := by
  unfold irM; rw [List.filter_append, List.map_append]; simp [h]
theorem irM_no {p x : Nat} {l : List Nat} (h : irB p (ofN p x) = false) : irM p (l ++ [x]) = irM p l := by
  unfold irM; rw [List.filter_append, List.map_append]; simp [h]
theorem irM_len (p : Nat) (l : List Nat) : (irM p l).length ≤ l.length := by
  unfold irM; rw [List.length_map]; exact List.length_filter_le _ _
theorem irM_all (p n : Nat) : irL p n (p ^ n) = irM p (monL p n) := rfl
theorem irV_up2 {p n : Nat} {f : Nat → Nat} (h : mon f n) (h1 : 1 ≤ n) (h2 : n ≤ 12) : irV p f = irB p f := by
  have h3 : monUp 12 f = true := by
    rw [monUp_B]
    have hB : monB f = true := by
      unfold monB
      rw [h.1]
      have := h.2
      simp [this]
    rw [hB, h.1]; simp; omega
  unfold irV; rw [h3]; rfl
/-- what stands between two rounds -/
def IlI (p n : Nat) (n0 b2 b6 bp bn : Nat) (w : World) (pre : List (MonN p n)) (W : World) : Prop :=
  One W b2 2 (.int .i64 (p : Int)) ∧ (∃ v, One W b6 37 v ∧ SlL W n0 26 64 v (plR (irM p (vals pre)))) ∧
    One W bp 2 (.int .i64 (p : Int)) ∧ One W bn 2 (.int .i64 (n : Int)) ∧ Below w.heap.size w W
theorem ilI_own {p n : Nat} {n0 b2 b6 bp bn : Nat} {w : World} (h2 : b2 < n0) (h6 : b6 < n0) (hp : bp < n0) (hn : bn < n0) (hw : w.heap.size ≤ n0) : OwnFrom n0 (IlI p n n0 b2 b6 bp bn w) := by
  intro pre W W' row h hg hr
  obtain ⟨a2, ⟨v, a6, aS⟩, ap, an, hb⟩ := h
  have h1 : ∀ r, row = some r → n0 ≤ r := fun r e => (hr r e).1
  exact ⟨a2.grownO hg h1 h2, ⟨v, a6.grownO hg h1 h6, aS.grownN hg (fun r e => (hr r e).2)⟩, ap.grownO hg h1 hp, an.grownO hg h1 hn,
    hb.grown hg hb.size (fun k e => Nat.le_trans hw (h1 k e))⟩
theorem ilI_below {p n : Nat} {n0 b2 b6 bp bn : Nat} {w W W' : World} {pre : List (MonN p n)} (h : IlI p n n0 b2 b6 bp bn w pre W) (hB : Below W.heap.size W W') : IlI p n n0 b2 b6 bp bn w pre W' := by
  obtain ⟨a2, ⟨v, a6, aS⟩, ap, an, hb⟩ := h
  exact ⟨a2.below hB a2.lt, ⟨v, a6.below hB a6.lt, aS.below hB aS.lt⟩, ap.below hB ap.lt, an.below hB an.lt, hb.trans (hB.mono hb.size)⟩
theorem ilI_start {p n : Nat} {n0 b2 b6 bp bn : Nat} {w W : World} (a2 : One W b2 2 (.int .i64 (p : Int))) (a6 : One W b6 37 (.slice none 0 0))
    (ap : One W bp 2 (.int .i64 (p : Int))) (an : One W bn 2 (.int .i64 (n : Int))) (hb : Below w.heap.size w W) (h0 : n0 = W.heap.size) : IlI p n n0 b2 b6 bp bn w [] W := by
  unfold IlI
  rw [vals_nil, irM_nil, plR_nil]
  exact ⟨a2, ⟨_, a6, SlL.nil _ _ (by omega)⟩, ap, an, hb⟩
set_option maxRecDepth 100000 in
set_option maxHeartbeats 6400000 in
theorem irrs_core (p n : Nat) (w : World) (hpr : p = 2 ∨ p = 3 ∨ p = 5 ∨ p = 7) (hok : okP (p : Int) = true) (hn1 : 1 ≤ n) (hn : n ≤ 8) (hq : p ^ n ≤ 343) :
    Calls Try.prog 46 #[.int .i64 (p : Int), .int .i64 (n : Int)] w fun e w' => ∃ v, e = .returned (.tuple #[v, .int .i64 0]) ∧ SlL w' w.heap.size 26 64 v (plR (irL p n (p ^ n))) ∧ Below w.heap.size w w' := by
  have p2 : 2 ≤ p := by omega
  have p7 : p ≤ 7 := by omega
  have p0 : 0 < p := by omega
  have HOK := Lib.hid hok
  obtain ⟨Q, hQ⟩ : ∃ Q, Q = p ^ n := ⟨_, rfl⟩
  have HNM := Lib.hid (fun W => norm_any p n W p2 p7 (by omega))
  rw [← hQ] at HNM hq ⊢
  have hqi : (Q : Int) ≤ 343 := by omega
  have HQ := Lib.hid hQ
  clear hok hQ
  refine callsIn_wide.1 (callsIn_of_wp_marks (n := 9) Try.func46 rfl trivial (wpIn_wide.2 ?_) rfl)
  simp only [Try.ntmps46, List.size_toArray, List.length_cons, List.length_nil, Nat.reduceAdd, Nat.reduceSub, Array.replicate_succ, Array.replicate_zero, List.push_toArray, List.append_toArray, List.nil_append, List.cons_append]
  go_upto_region 1 with (fail)
  obtain ⟨W1, hwo⟩ : ∃ v : World, v = (w.alloc (.cells #[(.int .i64 (p : Int))] 2)) := ⟨_, rfl⟩
  have B0 : One W1 (w.heap.size) 2 (.int .i64 (p : Int)) := by subst hwo; have := (One.new w 2 (.int .i64 (p : Int))); simpa using this
  have hb : Below w.heap.size w W1 := by subst hwo; exact ((Below.refl _ _).alloc (Nat.le_refl _) _)
  rw [← hwo]
  clear hwo
  have cc := B0.cell
  go_upto_region 5 with (first | (go_at_call 93; refine (isPrime_any _ _).mono ?_; rintro e wS ⟨rfl, rfl⟩; rw [HOK.out]) | (go_at_call 102; refine (HNM.out _).mono ?_; rintro e wS ⟨rfl, rfl⟩))
  clear cc
  go_upto_region 6 with (first | rw [← zero64])
  have lt_B0 := B0.lt
  have lhb := hb.size
  have qB0 : One (W1.alloc (.cells #[(.slice none 0 0)] 37)) (w.heap.size) 2 (.int .i64 (p : Int)) := (B0.alloc (.cells #[(.slice none 0 0)] 37))
  have qB1 : One (W1.alloc (.cells #[(.slice none 0 0)] 37)) (W1.heap.size) 37 (.slice none 0 0) := (One.new W1 37 (.slice none 0 0))
  have qhb : Below w.heap.size w (W1.alloc (.cells #[(.slice none 0 0)] 37)) := (hb.alloc (by have := hb.size; simp; omega) (.cells #[(.slice none 0 0)] 37))
  obtain ⟨W2, hwo⟩ : ∃ v : World, v = (W1.alloc (.cells #[(.slice none 0 0)] 37)) := ⟨_, rfl⟩
  rw [← hwo] at qB0 qB1 qhb ⊢
  clear hwo
  clear B0 hb
  have B0 := qB0
  have B1 := qB1
  have hb := qhb
  clear qB0 qB1 qhb
  obtain ⟨N1, hNN⟩ : ∃ n : Nat, n = W1.heap.size := ⟨_, rfl⟩
  rw [← hNN] at lt_B0 lhb B1 ⊢
  clear hNN
  have zN1_0 := lt_B0
  have zN1 := lhb
  clear lt_B0 lhb
  try simp only [Act.put, List.setIfInBounds_toArray, List.set_cons_zero, List.set_cons_succ]
  go_upto_block 0 with (first | (refine wpList_load_one rfl 2 (.tmp 2) rfl _ rfl 2 ((.int .i64 (p : Int))) (B0) _ Try.underlying2 rfl ?_) | (go_at_call 103; refine (monics_any p n _).mono ?_; rintro e WM ⟨bp, bn, rfl, hbp0, hbn0, C0, C1, hWM⟩))
  have nb_0 : (w.heap.size) < bp := by have := B0.lt; omega
  have nn_0 : (w.heap.size) < bn := by have := B0.lt; omega
  have nb_1 : (N1) < bp := by have := B1.lt; omega
  have nn_1 : (N1) < bn := by have := B1.lt; omega
  replace B0 := B0.below hWM B0.lt
  replace B1 := B1.below hWM B1.lt
  replace hb := hb.trans (hWM.mono hb.size)
  clear hbp0 hbn0 hWM
  have lB0 : (w.heap.size) < WM.heap.size := B0.lt
  have lB1 : (N1) < WM.heap.size := B1.lt
  have lC0 : bp < WM.heap.size := C0.lt
  have lC1 : bn < WM.heap.size := C1.lt
  have lw : w.heap.size ≤ WM.heap.size := hb.size
  have d1 : decide ((n : Int) < 1) = false := by simp; omega
  have d2 : decide (20 < (n : Int)) = false := by simp; omega
  have d3 : decide (343 < (Q : Int)) = false := by simp; omega
  simp only [d1, d2, d3, Bool.or_false]
  clear d1 d2 d3
  refine (wpIn_wide (n := 9)).1 (wpIn_block ?_)
  refine wpIn_rangeFunc_ownH (F := Fence.wide) (n := 9) rfl (by omega) (gf := 141) (lb := #[.pointer (some ⟨bp, 0, none⟩), .pointer (some ⟨bn, 0, none⟩)]) rfl trivial (enters_of Try.func141 (by kernel_rfl) rfl)
    (monics1_stops 8 p n p2 p7 (by omega) bp bn WM C0 C1) KpM.trans (KpM.put C0.lt C1.lt) (Below.refl _ _) (fun _ => rfl)
    (IlI p n WM.heap.size (w.heap.size) (N1) bp bn w) (fun c pre W => False)
    (ilI_own lB0 lB1 lC0 lC1 lw)
    (by intro c pre W W' row h hg hr; exact h)
    (ilI_start B0 B1 C0 C1 hb rfl)
    (fun (x : MonN p n) (a' : Act) (W : World) => ∃ b8, WM.heap.size ≤ b8 ∧ Blk W b8 64 26 (ofN p x.1) ∧ a' = { tmps := #[(.int .i64 (p : Int)), (.int .i64 (n : Int)), (.pointer (some ⟨w.heap.size, 0, none⟩)), undef, (.slice none 0 0), (.int .i64 0), (.pointer (some ⟨N1, 0, none⟩)), (.pointer (some ⟨b8, 0, none⟩)), (.int .i64 (p : Int)), (.bool true), (.bool false), (.int .i64 (n : Int)), (.bool false), (.bool false), (.int .i64 (n : Int)), (.bool false), (.bool false), (.bool false), (.int .i64 (p : Int)), (.int .i64 (n : Int)), (.int .i64 (Q : Int)), (.bool false), (.bool false), (.int .i64 (p : Int)), (.int .i64 (n : Int)), (.func (.func 141) #[] #[.pointer (some ⟨bp, 0, none⟩), .pointer (some ⟨bn, 0, none⟩)]), (.agg (bcells 64 (ofN p x.1))), undef, undef, undef, undef, undef, undef, undef, undef], defers := [] })
    (by
      rintro x a' _ W W' row ⟨b8, h8, hB, rfl⟩ hg hr
      exact ⟨b8, h8, by
        unfold Blk at *
        rw [hg.block b8 (Array.getElem?_eq_some_iff.1 hB).1 (fun e => by
          obtain ⟨_, o, ho, hc⟩ := hr b8 e.symm
          rw [hB] at ho; cases ho; cases hc)]
        exact hB, rfl⟩) ?assign ?body ?done ?stop
  all_goals clear B0 B1 C0 C1 hb
  case assign =>
    intro l pre x W K hi hK
    refine regionIn_of (nd_of (by rfl)) (fun _ _ h => h) ?_
    unfold monEnc
    have hN : Blk (W.alloc (.cells (bcells 64 fun _ => 0) 26)) W.heap.size 64 26 (fun _ => 0) := Blk.new W 64 26 _
    go_wp2_with (first | rw [← zero64] | (refine wpList_store_blk rfl 26 (.tmp 7) (.tmp 26) rfl _ 64 (ofN p x.1) rfl rfl 26 _ hN Try.size26 ?_))
    have hBB : Below W.heap.size W ((W.alloc (.cells (bcells 64 fun _ => 0) 26)).setRow W.heap.size (bcells 64 (ofN p x.1))) := below_row (below_alloc' _ _) (Nat.le_refl _) _
    have hi2 := hi
    obtain ⟨_, ⟨v, _, aS⟩, ap, an, _⟩ := hi
    have z0 := aS.lt
    refine hK _ _ ((KF.refl _ W).below hBB (Nat.le_refl _)) ⟨hBB.block _ ap.lt, hBB.block _ an.lt⟩ (ilI_below hi2 hBB) ⟨W.heap.size, z0, hN.row _, rfl⟩
  case body =>
    rintro l pre ⟨x, hx⟩ a' W hl _ hi ⟨bx, h8, B2, rfl⟩ hlen
    unfold IlI at hi
    obtain ⟨B0, ⟨vv, B1, B3⟩, B4, B5, hb⟩ := hi
    have HP0 := Lib.hid (show One W bp 2 (.int .i64 (p : Int)) from B4)
    have HQ0 := Lib.hid (show One W bn 2 (.int .i64 (n : Int)) from B5)
    have B6 := KF.refl WM.heap.size W
    replace B3 := B3.top
    replace B2 : Blk W bx 64 26 (ofN p x) := B2
    have lt8 := B2.lt
    have hpl : pre.length < Q := by rw [HQ.out]; exact hlen
    have hLen2 : (irM p (vals pre)).length < 343 := by have := irM_len p (vals pre); rw [vals_len] at this; omega
    have zWM := B3.lt
    have hm := mon_ofN p2 (by omega : n < 64) hx
    have HIR := Lib.hid (fun W => isIrreducible_any p (ofN p x) W hpr (fun k _ => ofN_lt p0 x k))
    rw [irV_up2 hm hn1 (by omega)] at HIR
    have HYE := Lib.hid (irM_yes (p := p) (x := x) (l := vals pre))
    have HNO := Lib.hid (irM_no (p := p) (x := x) (l := vals pre))
    clear hlen hpl hm hl
    refine wpIn_block ?_
    refine wpIn_seq ?_
    refine regionIn_of (nd_of (by rfl)) (fun _ _ h => h) ?_
    cases hir : irB p (ofN p x) with
    | false =>
      have HSN := Lib.hid (HNO.out hir)
      rw [hir] at HIR
      clear hir HYE HNO
      go_wp2_with (first | (refine wpList_load_one rfl 2 (.tmp 2) rfl _ rfl 2 ((.int .i64 (p : Int))) (B0) _ Try.underlying2 rfl ?_) | (refine wpList_load_any rfl 26 (.tmp 7) rfl _ rfl 64 26 _ (B2) _ Try.underlying26 rfl Try.size26 ?_) | (go_at_call 101; refine (HIR.out _).mono ?_; rintro e W3 ⟨rfl, hW3⟩; replace B0 := B0.below hW3 B0.lt; replace B1 := B1.below hW3 B1.lt; replace B2 := B2.below hW3 B2.lt; replace B3 := B3.below hW3 B3.lt; replace B4 := B4.below hW3 B4.lt; replace B5 := B5.below hW3 B5.lt; replace B6 := B6.below hW3 B6.lt; replace hb := (hb).trans (hW3.mono (hb).size)))
      clear HIR
      refine wpIn_cond_false rfl ?_
      refine wpIn_skip ?_
      exact ⟨B6, (show KpM bp bn W W3 from ⟨One.same HP0.out B4, One.same HQ0.out B5⟩), (show IlI p n WM.heap.size (w.heap.size) (N1) bp bn w (pre ++ [⟨x, hx⟩]) W3 by unfold IlI; rw [vals_snoc, HSN.out]; exact ⟨B0, ⟨_, B1, B3.1⟩, B4, B5, hb⟩)⟩
    | true =>
      have HSN := Lib.hid (HYE.out hir)
      rw [hir] at HIR
      clear hir HYE HNO
      go_wp2_with (first | (refine wpList_load_one rfl 2 (.tmp 2) rfl _ rfl 2 ((.int .i64 (p : Int))) (B0) _ Try.underlying2 rfl ?_) | (refine wpList_load_any rfl 26 (.tmp 7) rfl _ rfl 64 26 _ (B2) _ Try.underlying26 rfl Try.size26 ?_) | (go_at_call 101; refine (HIR.out _).mono ?_; rintro e W3 ⟨rfl, hW3⟩; replace B0 := B0.below hW3 B0.lt; replace B1 := B1.below hW3 B1.lt; replace B2 := B2.below hW3 B2.lt; replace B3 := B3.below hW3 B3.lt; replace B4 := B4.below hW3 B4.lt; replace B5 := B5.below hW3 B5.lt; replace B6 := B6.below hW3 B6.lt; replace hb := (hb).trans (hW3.mono (hb).size)))
      clear HIR
      refine wpIn_cond_true rfl ?_
      refine regionIn_of (nd_of (by rfl)) (fun _ _ h => h) ?_
      have lu_0 := B0.lt
      have lu_1 := B1.lt
      have lu_4 := B4.lt
      have lu_5 := B5.lt
      go_wp2_with (first | (refine wpList_load_one rfl 37 (.tmp 6) rfl _ rfl 37 vv B1 _ Try.underlying37 rfl ?_) | (refine wpList_load_any rfl 26 (.tmp 7) rfl _ rfl 64 26 _ B2 _ Try.underlying26 rfl Try.size26 ?_) | (refine wpList_build_polys rfl 37 _ [ofN p x] rfl 26 rfl Try.underlying37 Try.elem26 (by simp) (by simp) rfl ?_; intro wa hwa hps hba; clear hwa; have eB0 := B0.below hba B0.lt; have eB1 := B1.below hba B1.lt; have eB2 := B2.below hba B2.lt; have eB3 := B3.below hba B3.lt; have eB4 := B4.below hba B4.lt; have eB5 := B5.below hba B5.lt; have eB6 := B6.below hba B6.lt; have ehb := hb.trans (hba.mono hb.size)) | (at_builtin; refine wpList_append_sl _ rfl _ _ 37 rfl WM.heap.size 26 (.agg (bcells 64 fun _ => 0)) 64 64 Try.underlying37 Try.infoPoly (by simp [Value.cells, bl]) (by decide) vv _ rfl eB3.1 W3.heap.size (bl 64 (ofN p x)) rfl (bl_length _ _) (by have := hps.range (i := 0) (f := ofN p x) rfl; rwa [Nat.zero_mul] at this) bl_one (by rw [plR_len]; unfold maxLen; omega) (by rw [plR_len]; omega) ?_; intro vp wp hSp hg1; have fB0 := eB0.grownO hg1 (eB3.1.own) (base := WM.heap.size) (by omega); have fB1 := eB1.grownO hg1 (eB3.1.own) (base := WM.heap.size) (by omega); have fB4 := eB4.grownO hg1 (eB3.1.own) (base := WM.heap.size) (by omega); have fB5 := eB5.grownO hg1 (eB3.1.own) (base := WM.heap.size) (by omega); have fB6 := eB6.grown hg1 (fun r e => by obtain ⟨cur, hc⟩ := eB3.1.ownCells r e; exact ⟨cur, _, _, hc⟩); have fhb := ehb.grown hg1 ehb.size (fun k e => Nat.le_trans lw (eB3.1.own k e))) | (refine wpList_store_oneV rfl 37 (.tmp 6) (.tmp 33) rfl _ rfl vp rfl hSp.one 37 vv fB1 Try.sizeSl ?_))
      have fl : WM.heap.size ≤ wp.heap.size := hSp.lt
      have gB0 : One (wp.setRow (N1) #[vp]) (w.heap.size) 2 (.int .i64 (p : Int)) := fB0.rowOther (by omega)
      have gB1 : One (wp.setRow (N1) #[vp]) (N1) 37 vp := fB1.row vp
      have gB4 : One (wp.setRow (N1) #[vp]) (bp) 2 (.int .i64 (p : Int)) := fB4.rowOther (by omega)
      have gB5 : One (wp.setRow (N1) #[vp]) (bn) 2 (.int .i64 (n : Int)) := fB5.rowOther (by omega)
      have gB6 : KF WM.heap.size W (wp.setRow (N1) #[vp]) := fB6.rowOther (by omega)
      have gS : SlL (wp.setRow (N1) #[vp]) WM.heap.size 26 64 vp (plR (irM p (vals pre) ++ [ofN p x])) := by rw [plR_snoc]; exact hSp.rowOther (by omega)
      have ghb : Below w.heap.size w (wp.setRow (N1) #[vp]) := below_row fhb (by omega) _
      exact ⟨gB6, ⟨One.same HP0.out gB4, One.same HQ0.out gB5⟩, (show IlI p n WM.heap.size (w.heap.size) (N1) bp bn w (pre ++ [⟨x, hx⟩]) _ by unfold IlI; rw [vals_snoc, HSN.out]; exact ⟨gB0, ⟨_, gB1, gS⟩, gB4, gB5, ghb⟩)⟩
  case done =>
    rintro D ys W hD hS hi hK
    unfold IlI at hi
    rw [hS] at hi
    have hDF : DF W D := hK
    obtain ⟨B0, ⟨vv, B1, hSl⟩, _, _, hb⟩ := hi
    clear hK hS
    go_wp2_with (first | (refine wpList_load_one rfl 37 (.tmp 6) rfl _ rfl 37 vv B1 _ Try.underlying37 rfl ?_))
    refine ⟨by simp, .inl ⟨_, _, rfl, run_takeDeferred (show W.heap[D]? = some (.deferred (some [])) from hDF), ?_⟩⟩
    have hg := grownBy_putObj' W D (.deferred none)
    have hs := (hSl.grownN hg (fun r e => by cases e; exact ⟨_, hDF, rfl⟩)).base lw
    rw [← irM_all, ← HQ.out] at hs
    exact ⟨_, results_tmp2 rfl _ _ _, vv, rfl, hs, hb.grown hg hb.size (fun k e => by cases e; omega)⟩
  case stop =>
    rintro D c ys W hD hS hi hK
    exact absurd hi (by simp)
set_option maxRecDepth 100000 in
set_option maxHeartbeats 6400000 in
theorem impl_IrreduciblesOf_any (p n : Int) (w : World) (hn1 : -9223372036854775808 ≤ n) (hn2 : n ≤ 9223372036854775807) :
    Calls Try.prog 46 #[.int .i64 p, .int .i64 n] w (IlF p n w) := by
  cases hp : okP p with
  | false =>
    have HP := Lib.hid hp
    have HV := Lib.hid (ilV_1 (n := n) hp)
    clear hp
    go_enter Try.func46, Try.ntmps46
    go_upto_region 1 with (fail)
    obtain ⟨W1, hwo⟩ : ∃ v : World, v = (w.alloc (.cells #[.int .i64 p] 2)) := ⟨_, rfl⟩
    have B0 : One W1 w.heap.size 2 (.int .i64 p) := by subst hwo; exact One.new w 2 _
    have hb : Below w.heap.size w W1 := by subst hwo; exact (Below.refl _ _).alloc (Nat.le_refl _) _
    rw [← hwo]
    clear hwo
    have cc := B0.cell
    go_wp2_with (first | (go_at_call 93; refine (isPrime_any _ _).mono ?_; rintro e wS ⟨rfl, rfl⟩; rw [HP.out]))
    go_ret2
    exact ⟨_, by rw [HV.out]; rfl, by rw [HV.out]; exact (by rw [plR_nil]; exact SlL.nil _ _ hb.size), hb⟩
  | true =>
    by_cases h20 : 1 ≤ n ∧ n ≤ 20
    · obtain ⟨n, rfl⟩ : ∃ j : Nat, n = (j : Int) := ⟨n.toNat, by omega⟩
      obtain ⟨p, rfl, p2, p7⟩ := okP_nat hp
      have hpr := prime_four hp
      by_cases hq : p ^ n ≤ 343
      · have hn8 : n ≤ 8 := by
          by_cases h : n ≤ 8
          · exact h
          · have h1 : 2 ^ 9 ≤ p ^ 9 := Nat.pow_le_pow_left p2 9
            have h2 : p ^ 9 ≤ p ^ n := Nat.pow_le_pow_right (by omega) (by omega)
            omega
        have HV := Lib.hid (ilV_0 hp (by omega) hn8 hq)
        refine (irrs_core p n w hpr hp (by omega) hn8 hq).mono ?_
        rintro e w' ⟨v, rfl, hS, hB⟩
        exact ⟨v, by rw [HV.out], by rw [HV.out]; exact hS, hB⟩
      · have HP := Lib.hid hp
        have HV := Lib.hid (ilV_3 (n := n) hp hq)
        have HNM := Lib.hid (fun W => norm_any p n W p2 p7 (by omega))
        obtain ⟨Q, hQ⟩ : ∃ Q, Q = p ^ n := ⟨_, rfl⟩
        have hQb : (Q : Int) ≤ 79792266297612001 := by rw [hQ]; exact Int.ofNat_le.2 (pow_big (by omega) p7 (by omega)).2
        rw [← hQ] at HNM hq
        have hqi : 343 < (Q : Int) := by omega
        clear hp hQ
        go_enter Try.func46, Try.ntmps46
        go_upto_region 1 with (fail)
        obtain ⟨W1, hwo⟩ : ∃ v : World, v = (w.alloc (.cells #[.int .i64 (p : Int)] 2)) := ⟨_, rfl⟩
        have B0 : One W1 w.heap.size 2 (.int .i64 (p : Int)) := by subst hwo; exact One.new w 2 _
        have hb : Below w.heap.size w W1 := by subst hwo; exact (Below.refl _ _).alloc (Nat.le_refl _) _
        rw [← hwo]
        clear hwo
        have cc := B0.cell
        go_wp2_with (first | (go_at_call 93; refine (isPrime_any _ _).mono ?_; rintro e wS ⟨rfl, rfl⟩; rw [HP.out]) | (go_at_call 102; refine (HNM.out _).mono ?_; rintro e wS ⟨rfl, rfl⟩))
        go_ret2
        exact ⟨_, by rw [HV.out]; rfl, by rw [HV.out]; exact (by rw [plR_nil]; exact SlL.nil _ _ hb.size), hb⟩
    · have HP := Lib.hid hp
      have HV := Lib.hid (ilV_2 (n := n) hp (by omega))
      by_cases h1 : n < 1
      · clear hp h20
        go_enter Try.func46, Try.ntmps46
        go_upto_region 1 with (fail)
        obtain ⟨W1, hwo⟩ : ∃ v : World, v = (w.alloc (.cells #[.int .i64 p] 2)) := ⟨_, rfl⟩
        have B0 : One W1 w.heap.size 2 (.int .i64 p) := by subst hwo; exact One.new w 2 _
        have hb : Below w.heap.size w W1 := by subst hwo; exact (Below.refl _ _).alloc (Nat.le_refl _) _
        rw [← hwo]
        clear hwo
        have cc := B0.cell
        go_wp2_with (first | (go_at_call 93; refine (isPrime_any _ _).mono ?_; rintro e wS ⟨rfl, rfl⟩; rw [HP.out]))
        go_ret2
        exact ⟨_, by rw [HV.out]; rfl, by rw [HV.out]; exact (by rw [plR_nil]; exact SlL.nil _ _ hb.size), hb⟩
      · have h2 : 20 < n := by omega
        clear hp h20
        go_enter Try.func46, Try.ntmps46
        go_upto_region 1 with (fail)
        obtain ⟨W1, hwo⟩ : ∃ v : World, v = (w.alloc (.cells #[.int .i64 p] 2)) := ⟨_, rfl⟩
        have B0 : One W1 w.heap.size 2 (.int .i64 p) := by subst hwo; exact One.new w 2 _
        have hb : Below w.heap.size w W1 := by subst hwo; exact (Below.refl _ _).alloc (Nat.le_refl _) _
        rw [← hwo]
        clear hwo
        have cc := B0.cell
        go_wp2_with (first | (go_at_call 93; refine (isPrime_any _ _).mono ?_; rintro e wS ⟨rfl, rfl⟩; rw [HP.out]))
        go_ret2
        exact ⟨_, by rw [HV.out]; rfl, by rw [HV.out]; exact (by rw [plR_nil]; exact SlL.nil _ _ hb.size), hb⟩
end Go.Proofs.Ytpeehpaghdddgaa
