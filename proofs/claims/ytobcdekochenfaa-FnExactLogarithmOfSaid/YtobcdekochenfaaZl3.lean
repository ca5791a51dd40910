/-
  What the rows of this claim rest on: arrays of bytes, walks of the functions, plain mathematics.
-/
import Derived.Test.YtobcdekochenfaaZl2
import Derived.OpenShut
import Derived.ProofKit
import Derived.Test.YtobcdekochenfaaRows
import Derived.JoinedOf
section
namespace Go.Proofs.Ytobcdekochenfaa
open Go Go.RowKit
set_option linter.unusedVariables false
set_option linter.unusedSimpArgs false
/-- both answers -/
def lgV (p : Int) (a g m : Nat → Nat) : Int × Int := if modV p m [a, g] = 0 then (match lgO p.toNat (resP p.toNat g m) m (resP p.toNat a m) (p.toNat ^ (deg m).toNat + 1) 0 with | some k => ((k : Int), 0) | none => (0, 4)) else (0, modV p m [a, g])
theorem lgV_c {p c : Int} {a g m : Nat → Nat} (h : modV p m [a, g] = c) (h0 : c ≠ 0) : lgV p a g m = (0, c) := by unfold lgV; rw [h, if_neg h0]
theorem lgV_some {p d k : Nat} {a g m : Nat → Nat} (h : modV (p : Int) m [a, g] = 0) (hd : deg m = (d : Int)) (h2 : lgO p (resP p g m) m (resP p a m) (p ^ d + 1) 0 = some k) : lgV (p : Int) a g m = ((k : Int), 0) := by
 unfold lgV; rw [if_pos h, hd, Int.toNat_natCast, Int.toNat_natCast, h2]
theorem lgV_none {p d : Nat} {a g m : Nat → Nat} (h : modV (p : Int) m [a, g] = 0) (hd : deg m = (d : Int)) (h2 : lgO p (resP p g m) m (resP p a m) (p ^ d + 1) 0 = none) : lgV (p : Int) a g m = (0, 4) := by
 unfold lgV; rw [if_pos h, hd, Int.toNat_natCast, Int.toNat_natCast, h2]
/-- what the map holds -/
def lgL (p : Nat) (g m : Nat → Nat) (k : Nat) : List (Value × Value) := (List.range k).map fun i => (.agg (zb 64 (lgP p g m i)), .bool true)
theorem lgL_z (p : Nat) (g m : Nat → Nat) : lgL p g m 0 = [] := rfl
theorem lgL_s (p : Nat) (g m : Nat → Nat) (k : Nat) : lgL p g m (k + 1) = lgL p g m k ++ [(.agg (zb 64 (lgP p g m k)), .bool true)] := by
 unfold lgL; rw [List.range_succ, List.map_append]; rfl
theorem lgL_in {p k : Nat} {g m f : Nat → Nat} {v : Value} (h : (.agg (zb 64 f), v) ∈ lgL p g m k) : v = .bool true ∧ ∃ i, i < k ∧ ∀ q, q < 64 → lgP p g m i q = f q := by
 obtain ⟨i, hi, e⟩ := List.mem_map.1 h
 injection e with e1 e2
 refine ⟨e2.symm, i, List.mem_range.1 hi, ?_⟩
 injection e1 with e3
 exact bcells_inj e3
theorem lgL_out {p k : Nat} {g m f : Nat → Nat} (h : ∀ q ∈ lgL p g m k, q.1 ≠ .agg (zb 64 f)) : ∀ i, i < k → ¬ ∀ q, q < 64 → lgP p g m i q = f q := by
 intro i hi e
 exact h (.agg (zb 64 (lgP p g m i)), .bool true) (List.mem_map.2 ⟨i, List.mem_range.2 hi, rfl⟩) (by rw [zbc e])
theorem pow_52 {p d : Nat} (h : p ≤ 7) (h2 : d ≤ 5) : p ^ d ≤ 16807 := by
 have h1 : p ^ d ≤ 7 ^ d := Nat.pow_le_pow_left h d
 have h3 : (7 : Nat) ^ d ≤ 7 ^ 5 := Nat.pow_le_pow_right (by decide) h2
 have h4 : (7 : Nat) ^ 5 = 16807 := by decide
 omega
attribute [local irreducible] deg invN quoP resP mmP prd lgP lgO lgV lgL oneP
set_option maxRecDepth 100000 in
set_option maxHeartbeats 3200000 in
theorem impl_LogarithmOf_any (p : Int) (a g m : Nat → Nat) (ha : byte a) (hg : byte g) (hm : byte m) (w : World) :
 Calls Try.prog 63 #[.int .i64 p, .agg (zb 64 a), .agg (zb 64 g), .agg (zb 64 m)] w fun e w' => e = .returned (.tuple #[.int .i64 (lgV p a g m).1, .int .i64 (lgV p a g m).2]) ∧ Below w.heap.size w w' := by
 go_enter Try.func63, Try.ntmps63
 go_upto_region 1 with (fail)
 obtain ⟨W1, hwo⟩ : ∃ v : World, v = (((w.alloc (.cells (zb 64 (a)) 23)).alloc (.cells (zb 64 (g)) 23)).alloc (.cells (zb 64 (m)) 23)) := ⟨_, rfl⟩
 have B0 : Blk W1 (w.heap.size) 64 23 (a) := by subst hwo; have := (((Blk.new w 64 23 (a)).alloc (.cells (zb 64 (g)) 23)).alloc (.cells (zb 64 (m)) 23)); simpa using this
 have B1 : Blk W1 (w.heap.size + 1) 64 23 (g) := by subst hwo; have := ((Blk.new (w.alloc (.cells (zb 64 (a)) 23)) 64 23 (g)).alloc (.cells (zb 64 (m)) 23)); simpa using this
 have B2 : Blk W1 (w.heap.size + 1 + 1) 64 23 (m) := by subst hwo; have := (Blk.new ((w.alloc (.cells (zb 64 (a)) 23)).alloc (.cells (zb 64 (g)) 23)) 64 23 (m)); simpa using this
 have hb : Below w.heap.size w W1 := by subst hwo; exact ((((Below.refl _ _).alloc (Nat.le_refl _) _).alloc (by simp) _).alloc (by simp; omega) _)
 rw [← hwo]
 clear hwo
 rcases modV_cases (p := p) (m := m) (fs := [a, g]) with ⟨c, hc, hc0, hc12⟩ | ⟨hc, hcm, hcf, hm5⟩
 · have HV := Lib.hid (lgV_c hc hc0)
   have hb1 : ((c : Int) != 0) = true := by simp [hc0]
   go_upto_region 2 with (first | (refine zla (.tmp 7) B2 Try.underlying23 Try.size23 ?_) | (refine zla (.tmp 5) B0 Try.underlying23 Try.size23 ?_) | (refine zla (.tmp 6) B1 Try.underlying23 Try.size23 ?_) | (refine wpList_build_polys rfl 57 _ [a, g] rfl 23 rfl Try.underlying57 Try.elem23 (by simp) (by simp) rfl ?_; intro W2 hwa hps hba; clear hwa) | (go_at_call 81; refine (checkModulus_any _ m hm [a, g] (by simp [ha, hg]) _ _ hps (by simp)).mono ?_; rintro e W3 ⟨rfl, hbb⟩; rw [hc]))
   have hBB : Below W1.heap.size W1 W3 := hba.trans (hbb.mono hba.size)
   replace B0 := B0.zw hBB
   replace B1 := B1.zw hBB
   replace B2 := B2.zw hBB
   replace hb := hb.trans (hBB.mono hb.size)
   clear hBB hba hbb hps
   go_wp2_with fail
   go_ret2
   exact ⟨by first | (rw [HV.out]; rfl) | rw [HV.out], hb⟩
 · have HC := Lib.hid hc
   obtain ⟨n, hn, n2, n7⟩ := okP_nat (codeL_zero hcm).1
   subst hn
   have lm := lt_of_code hcm (f := m) (by simp)
   have la := lt_of_code hcf (f := a) (by simp)
   have lg := lt_of_code hcf (f := g) (by simp)
   have hpr := prime_of hcm
   obtain ⟨d, hmon, hd1, hd5⟩ := mon_up hm5
   have hd := hmon.1
   have h0 : 0 ≤ deg m := by omega
   have HR := fun x hx W => (restOf_any n x m W hpr hx lm h0)
   have HRA := Lib.hid (fun W => HR a la W)
   have HRG := Lib.hid (fun W => HR g lg W)
   have HVs := Lib.hid (fun k h => lgV_some (k := k) hc hd h)
   have HVn := Lib.hid (fun h => lgV_none hc hd h)
   have HGL := Lib.hid (fun k (hk : k < 64) => resP_lt (b := m) (by omega) lg k hk)
   have hNB : n ^ d ≤ 16807 := pow_52 n7 (by omega)
   have HMM := Lib.hid (fun j W => restOfProduct_any n (lgP n (resP n g m) m j) (resP n g m) m W hpr (lgP_lt n2 j) HGL.out lm h0)
   have HPS := Lib.hid (fun j => show lgP n (resP n g m) m (j + 1) = mmP n (lgP n (resP n g m) m j) (resP n g m) m by rw [lgP])
   have HP0 := Lib.hid (show lgP n (resP n g m) m 0 = oneP by rw [lgP])
   have HFEW := Lib.hid (fun k h => lg_few (p := n) (d := d) (k := k) (g := resP n g m) (m := m) hpr lm hd hd1 (by omega) h)
   have HPL := Lib.hid (fun j => lgP_lt (p := n) (g := resP n g m) (m := m) n2 j)
   have HDD := Lib.hid hd
   have HCN := Lib.hid (fun W => l01Count_any n d W n2 n7 (by omega))
   clear HR
   obtain ⟨G, hG⟩ : ∃ G, G = resP n g m := ⟨_, rfl⟩
   obtain ⟨T, hT⟩ : ∃ T, T = resP n a m := ⟨_, rfl⟩
   obtain ⟨N, hN⟩ : ∃ N, N = n ^ d := ⟨_, rfl⟩
   rw [← hG] at HRG HVs HVn HMM HPS HP0 HFEW HPL
   rw [← hT] at HRA HVs HVn
   rw [← hN] at HVs HVn hNB HFEW HCN
   clear hG hT hN HGL hc hcm hcf hm5 hmon lm la lg hd
   go_upto_region 2 with (first | (refine zla (.tmp 7) B2 Try.underlying23 Try.size23 ?_) | (refine zla (.tmp 5) B0 Try.underlying23 Try.size23 ?_) | (refine zla (.tmp 6) B1 Try.underlying23 Try.size23 ?_) | (refine wpList_build_polys rfl 57 _ [a, g] rfl 23 rfl Try.underlying57 Try.elem23 (by simp) (by simp) rfl ?_; intro W2 hwa hps hba; clear hwa) | (go_at_call 81; refine (checkModulus_any _ m hm [a, g] (by simp [ha, hg]) _ _ hps (by simp)).mono ?_; rintro e W3 ⟨rfl, hbb⟩; rw [HC.out]))
   have hBB : Below W1.heap.size W1 W3 := hba.trans (hbb.mono hba.size)
   replace B0 := B0.zw hBB
   replace B1 := B1.zw hBB
   replace B2 := B2.zw hBB
   replace hb := hb.trans (hBB.mono hb.size)
   clear hBB hba hbb hps
   go_upto_region 4 with (fail)
   have lt_B0 : (w.heap.size) < W3.heap.size := B0.lt
   have lt_B1 : (w.heap.size + 1) < W3.heap.size := B1.lt
   have lt_B2 : (w.heap.size + 1 + 1) < W3.heap.size := B2.lt
   have hbase : w.heap.size ≤ W3.heap.size := hb.size
   refine zq Try.mixed (by kernel_rfl) (by kernel_rfl) (fun v => by (simp only [frL, Act.put, pA, pB, pC, Nat.reduceAdd, Nat.zero_add]; exact rfl))
    (fun L v W4 => Below w.heap.size w W4 ∧ Kx [w.heap.size, w.heap.size + 1] W3 W4 ∧ (∃ g, Blk W4 (w.heap.size) 64 23 (g)) ∧ (L 8 = false → Blk W4 (w.heap.size) 64 23 (a)) ∧ (L 8 = true → Blk W4 (w.heap.size) 64 23 (T)) ∧ (∃ g, Blk W4 (w.heap.size + 1) 64 23 (g)) ∧ (L 9 = false → Blk W4 (w.heap.size + 1) 64 23 (g)) ∧ (L 9 = true → Blk W4 (w.heap.size + 1) 64 23 (G)) ∧ VF L v [some (.int .i64 (n : Int)), some (.agg (zb 64 (a))), some (.agg (zb 64 (m))), some (.agg (zb 64 (T))), some (.int .i64 (n : Int)), some (.agg (zb 64 (g))), some (.agg (zb 64 (m))), some (.agg (zb 64 (G))), none, none]) ?_ ?_ ?_
   · intro v hv0
     exact ⟨hb.drew, Kx.start _ _, ⟨_, B0.drew⟩, (fun _ => B0.drew), (fun h => by cases h), ⟨_, B1.drew⟩, (fun _ => B1.drew), (fun h => by cases h), VF.start⟩
   · refine (.cons rfl ?_ (.cons rfl ?_ (.cons rfl ?_ (.cons rfl ?_ (.cons rfl ?_ (.cons rfl ?_ (.cons rfl ?_ (.cons rfl ?_ (.cons rfl ?_ (.cons rfl ?_ (.nil _)))))))))))
     all_goals intro L v W4 hd hn ⟨hB, hX, x0, q0, n0, x1, q1, n1, V⟩ K hK
     · go_wp2_with fail
       exact hK _ (.int .i64 (n : Int)) _ (by simp only [Act.put, pA, pB, pC ]) ⟨hB, hX, x0, q0, n0, x1, q1, n1, V.step 0 rfl⟩
     · have s0 := q0 (by
        cases hL : L 8 with
        | false => rfl
        | true => exact absurd rfl (hn 8 _ rfl hL ⟨1, .phase⟩ (by simp) rfl))
       refine zlc s0 Try.underlying23 Try.size23 ?_
       exact hK _ _ _ rfl ⟨hB, hX, x0, q0, n0, x1, q1, n1, V.step 1 rfl⟩
     · refine wp_load_any 23 _ rfl _ rfl 64 23 _ (B2.kx hX (by simp <;> omega)) _ Try.underlying23 rfl Try.size23 ?_
       exact hK _ _ _ rfl ⟨hB, hX, x0, q0, n0, x1, q1, n1, V.step 2 rfl⟩
     · have e0 := V.at (zdq hd 0 rfl) rfl
       have e1 := V.at (zdq hd 1 rfl) rfl
       have e2 := V.at (zdq hd 2 rfl) rfl
       go_wp2_with (go_at_call 116; refine (HRA.out _).mono ?_; rintro e wy ⟨rfl, hy⟩)
       exact hK _ (.agg (zb 64 (T))) _ (by simp only [Act.put, pA, pB, pC, e0, e1, e2]) ⟨hB.trans (hy.mono hB.size), hX.below hy, (let ⟨g, h⟩ := x0; ⟨g, h.zw hy⟩), (fun h => (q0 h).below hy (q0 h).lt), (fun h => (n0 h).below hy (n0 h).lt), (let ⟨g, h⟩ := x1; ⟨g, h.zw hy⟩), (fun h => (q1 h).below hy (q1 h).lt), (fun h => (n1 h).below hy (n1 h).lt), V.step 3 rfl⟩
     · go_wp2_with fail
       exact hK _ (.int .i64 (n : Int)) _ (by simp only [Act.put, pA, pB, pC ]) ⟨hB, hX, x0, q0, n0, x1, q1, n1, V.step 4 rfl⟩
     · have s1 := q1 (by
        cases hL : L 9 with
        | false => rfl
        | true => exact absurd rfl (hn 9 _ rfl hL ⟨5, .phase⟩ (by simp) rfl))
       refine zlc s1 Try.underlying23 Try.size23 ?_
       exact hK _ _ _ rfl ⟨hB, hX, x0, q0, n0, x1, q1, n1, V.step 5 rfl⟩
     · refine wp_load_any 23 _ rfl _ rfl 64 23 _ (B2.kx hX (by simp <;> omega)) _ Try.underlying23 rfl Try.size23 ?_
       exact hK _ _ _ rfl ⟨hB, hX, x0, q0, n0, x1, q1, n1, V.step 6 rfl⟩
     · have e4 := V.at (zdq hd 4 rfl) rfl
       have e5 := V.at (zdq hd 5 rfl) rfl
       have e6 := V.at (zdq hd 6 rfl) rfl
       go_wp2_with (go_at_call 116; refine (HRG.out _).mono ?_; rintro e wy ⟨rfl, hy⟩)
       exact hK _ (.agg (zb 64 (G))) _ (by simp only [Act.put, pA, pB, pC, e4, e5, e6]) ⟨hB.trans (hy.mono hB.size), hX.below hy, (let ⟨g, h⟩ := x0; ⟨g, h.zw hy⟩), (fun h => (q0 h).below hy (q0 h).lt), (fun h => (n0 h).below hy (n0 h).lt), (let ⟨g, h⟩ := x1; ⟨g, h.zw hy⟩), (fun h => (q1 h).below hy (q1 h).lt), (fun h => (n1 h).below hy (n1 h).lt), V.step 7 rfl⟩
     · have e3 := V.at (zdq hd 3 rfl) rfl
       obtain ⟨gz, hk⟩ := x0
       refine zsb 23 _ _ rfl _ 64 (T) rfl e3 23 gz hk Try.size23 ?_
       exact hK _ undef _ rfl ⟨zr hB (by omega) _, hX.row (by simp) _, ⟨_, hk.row _⟩, (fun h => absurd h (by simp [setL])), (fun _ => hk.row _), (let ⟨g, h⟩ := x1; ⟨g, (h).rowOther (by omega)⟩), (fun h => (q1 h).rowOther (by omega)), (fun h => (n1 h).rowOther (by omega)), V.skip 8 rfl⟩
     · have e7 := V.at (zdq hd 7 rfl) rfl
       obtain ⟨gz, hk⟩ := x1
       refine zsb 23 _ _ rfl _ 64 (G) rfl e7 23 gz hk Try.size23 ?_
       exact hK _ undef _ rfl ⟨zr hB (by omega) _, hX.row (by simp) _, (let ⟨g, h⟩ := x0; ⟨g, (h).rowOther (by omega)⟩), (fun h => (q0 h).rowOther (by omega)), (fun h => (n0 h).rowOther (by omega)), ⟨_, hk.row _⟩, (fun h => absurd h (by simp [setL])), (fun _ => hk.row _), V.skip 9 rfl⟩
   · intro L v W4 hL ⟨hB, hX, x0, q0, n0, x1, q1, n1, V⟩
     have r0 := n0 (hL 8 (by decide))
     have r1 := n1 (hL 9 (by decide))
     have e0 := V.at (hL 0 (by decide)) rfl
     have e1 := V.at (hL 1 (by decide)) rfl
     have e2 := V.at (hL 2 (by decide)) rfl
     have e3 := V.at (hL 3 (by decide)) rfl
     have e4 := V.at (hL 4 (by decide)) rfl
     have e5 := V.at (hL 5 (by decide)) rfl
     have e6 := V.at (hL 6 (by decide)) rfl
     have e7 := V.at (hL 7 (by decide)) rfl
     clear hL x0 q0 n0 x1 q1 n1 V
     replace B2 := B2.kx hX (by simp <;> omega)
     clear hX
     simp only [Exit.then, e0, e1, e2, e3, e4, e5, e6, e7]
     clear e0 e1 e2 e3 e4 e5 e6 e7
     replace B0 := r0
     clear r0
     replace B1 := r1
     clear r1
     replace hb := hB
     clear hB
     clear hbase lt_B0 lt_B1 lt_B2
     go_upto_region 5 with (fail)
     have lt_B0 := B0.lt
     have lt_B1 := B1.lt
     have lt_B2 := B2.lt
     go_upto_region 6 with (first | rw [← z64] | (refine zbo rfl 23 _ rfl (zb 64 oneP) (by rw [Array.toList_map]; exact built_one) ?_) | (refine wpList_store_blk rfl 23 (.tmp 11) (.tmp 31) rfl _ 64 (oneP) rfl rfl 23 _ ((Blk.new W4 64 23 (fun _ => 0))) Try.size23 ?_; try simp only [Act.put]))
     have lt_B0 := B0.lt
     have lt_B1 := B1.lt
     have lt_B2 := B2.lt
     have lhb := hb.size
     obtain ⟨W5, hwo, hzQ⟩ : ∃ v : World, v = ((W4.alloc (.cells (zb 64 (fun _ => 0)) 23)).setRow (W4.heap.size) (zb 64 (oneP))) ∧ Blk v (w.heap.size) 64 23 (T) ∧ Blk v (w.heap.size + 1) 64 23 (G) ∧ Blk v (w.heap.size + 1 + 1) 64 23 (m) ∧ Blk v (W4.heap.size) 64 23 (oneP) ∧ Below w.heap.size w v := ⟨_, rfl, ((B0.alloc (.cells (zb 64 (fun _ => 0)) 23)).rowOther (by omega)), ((B1.alloc (.cells (zb 64 (fun _ => 0)) 23)).rowOther (by omega)), ((B2.alloc (.cells (zb 64 (fun _ => 0)) 23)).rowOther (by omega)), ((Blk.new W4 64 23 (fun _ => 0)).row (oneP)), (zr (hb.alloc (by have := hb.size; simp; omega) (.cells (zb 64 (fun _ => 0)) 23)) (by omega) _)⟩
     rw [← hwo]
     clear hwo B0 B1 B2 hb
     obtain ⟨B0, B1, B2, B3, hb⟩ := hzQ
     obtain ⟨N1, hNN⟩ : ∃ n : Nat, n = W4.heap.size := ⟨_, rfl⟩
     rw [← hNN] at lt_B0 lt_B1 lt_B2 lhb B3 ⊢
     clear hNN
     have zN1_0 := lt_B0
     have zN1_1 := lt_B1
     have zN1_2 := lt_B2
     have zN1 := lhb
     clear lt_B0 lt_B1 lt_B2 lhb
     try simp only [Act.put, pA, pB, pC]
     have hmm := @run_makeMap Try.prog
     go_upto_region 7 with (fail)
     clear hmm
     have lt_B0 := B0.lt
     have lt_B1 := B1.lt
     have lt_B2 := B2.lt
     have lt_B3 := B3.lt
     have lhb := hb.size
     obtain ⟨W6, hwo, hzQ⟩ : ∃ v : World, v = (W5.alloc (.map #[] 0)) ∧ Blk v (w.heap.size) 64 23 (T) ∧ Blk v (w.heap.size + 1) 64 23 (G) ∧ Blk v (w.heap.size + 1 + 1) 64 23 (m) ∧ Blk v (N1) 64 23 (oneP) ∧ MapG Try.prog 23 v (W5.heap.size) [] ∧ Below w.heap.size w v := ⟨_, rfl, (B0.alloc (.map #[] 0)), (B1.alloc (.map #[] 0)), (B2.alloc (.map #[] 0)), (B3.alloc (.map #[] 0)), (MapG.new Try.prog 23 W5), (hb.alloc hb.size (.map #[] 0))⟩
     rw [← hwo]
     clear hwo B0 B1 B2 B3 hb
     obtain ⟨B0, B1, B2, B3, B4, hb⟩ := hzQ
     obtain ⟨N2, hNN⟩ : ∃ n : Nat, n = W5.heap.size := ⟨_, rfl⟩
     rw [← hNN] at lt_B0 lt_B1 lt_B2 lt_B3 lhb B4 ⊢
     clear hNN
     have zN2_0 := lt_B0
     have zN2_1 := lt_B1
     have zN2_2 := lt_B2
     have zN2_3 := lt_B3
     have zN2 := lhb
     clear lt_B0 lt_B1 lt_B2 lt_B3 lhb
     try simp only [Act.put, pA, pB, pC]
     go_wp2_with fail
     go_loopw [13] (fun i wr => ∃ k : Nat, k ≤ N ∧ i = .int .i64 (k : Int) ∧ Hid (∀ i j, i < j → j < k → ¬ ∀ q, q < 64 → lgP n G m i q = lgP n G m j q) ∧ Hid (∀ j, j < k → eqN 64 (lgP n G m j) T = false) ∧ Below w.heap.size w wr ∧ Blk wr (w.heap.size) 64 23 (T) ∧ Blk wr (w.heap.size + 1) 64 23 (G) ∧ Blk wr (w.heap.size + 1 + 1) 64 23 (m) ∧ MapG Try.prog 23 wr (N2) (lgL n G m k) ∧ Blk wr (N1) 64 23 (lgP n G m k)) (fun i _ => N - (intOf i).toNat)
     case atStart => exact ⟨0, Nat.zero_le _, rfl, Lib.hid (fun i j _ h => by omega), Lib.hid (fun j h => by omega), hb, B0, B1, B2, by rw [lgL_z]; exact B4, by rw [HP0.out]; exact B3⟩
     case round =>
      clear hb B0 B1 B2 B3 B4
      obtain ⟨k, hkN, rfl, hD, hF, hb, B0, B1, B2, B4, B3⟩ := hrel
      obtain ⟨kl, hkl⟩ := Try.keyOfPoly (f := lgP n G m k) (fun i hi => by have := HPL.out k i hi; omega)
      have HKL := Lib.hid hkl
      have hlk := B4.look Try.keyPoly Try.underlying139 (Try.zeroBool _) false hkl
      clear hkl
      rcases hlk with ⟨hrun, hno⟩ | ⟨v, hin, hrun⟩
      · simp only [Bool.false_eq_true, if_false] at hrun
        have hnew := lgL_out hno
        have hD2 : Hid (∀ i j, i < j → j < k + 1 → ¬ ∀ q, q < 64 → lgP n G m i q = lgP n G m j q) := Lib.hid (fun i j hij hj e => by
         by_cases h : j < k
         · exact hD.out i j hij h e
         · obtain rfl : j = k := by omega
           exact hnew i hij e)
        have hk1 : k + 1 ≤ N := HFEW.out (k + 1) hD2.out
        go_upto_region 10 with (first | (refine zla (.tmp 11) B3 Try.underlying23 Try.size23 ?_) | (at_lookup; refine wpList_look _ rfl _ _ 139 false rfl _ rfl _ rfl (.bool false) hrun ?_))
        clear hrun hnew hD
        cases hz : eqN 64 (lgP n G m k) T with
        | true =>
         have HV := Lib.hid (HVs.out k (lgO_at (N + 1) 0 k hz (Nat.zero_le _) (by omega) (fun j _ hj => hF.out j hj)))
         have hgd := Try.noGuard23
         have heq := fun W => zeb (P := Try.prog) W 9998 23 5 64 (lgP n G m k) T Try.underlying23 Try.underlying5 Try.size5
         rw [show eqN 64 (lgP n G m k) T = true from hz] at heq
         go_wp2_with (first | (refine zla (.tmp 11) B3 Try.underlying23 Try.size23 ?_) | (refine zla (.tmp 5) B0 Try.underlying23 Try.size23 ?_))
         go_ret2
         exact ⟨by first | (rw [HV.out]; rfl) | rw [HV.out], hb⟩
        | false =>
         have hF2 : Hid (∀ j, j < k + 1 → eqN 64 (lgP n G m j) T = false) := Lib.hid (fun j hj => by
          by_cases h : j < k
          · exact hF.out j h
          · obtain rfl : j = k := by omega
            exact hz)
         have hgd := Try.noGuard23
         have heq := fun W => zeb (P := Try.prog) W 9998 23 5 64 (lgP n G m k) T Try.underlying23 Try.underlying5 Try.size5
         rw [show eqN 64 (lgP n G m k) T = false from hz] at heq
         go_upto_region 12 with (first | (refine zla (.tmp 11) B3 Try.underlying23 Try.size23 ?_) | (refine zla (.tmp 5) B0 Try.underlying23 Try.size23 ?_))
         clear heq hgd
         obtain ⟨wM, hput, hmn, hgr⟩ := B4.put (val := .bool true) Try.keyPoly Try.underlying139 HKL.out hno
         have zz_0 := B0.lt
         have zz_1 := B1.lt
         have zz_2 := B2.lt
         have zz_3 := B3.lt
         have zz_4 := B4.lt
         rw [← lgL_s] at hmn
         have ne_0 : (w.heap.size) ≠ (N2) := by omega
         have ne_1 : (w.heap.size + 1) ≠ (N2) := by omega
         have ne_2 : (w.heap.size + 1 + 1) ≠ (N2) := by omega
         have ne_3 : (N1) ≠ (N2) := by omega
         have gB0 : Blk wM (w.heap.size) 64 23 (T) := B0.grown hgr ne_0
         have gB1 : Blk wM (w.heap.size + 1) 64 23 (G) := B1.grown hgr ne_1
         have gB2 : Blk wM (w.heap.size + 1 + 1) 64 23 (m) := B2.grown hgr ne_2
         have gB3 : Blk wM (N1) 64 23 (lgP n G m k) := B3.grown hgr ne_3
         have ghb : Below w.heap.size w wM := hb.grown hgr hb.size (fun j e => by cases e; omega)
         go_upto_region 13 with (first | (refine zla (.tmp 11) B3 Try.underlying23 Try.size23 ?_) | (at_mapUpdate; refine wpList_put _ rfl _ _ _ 139 rfl _ rfl _ rfl _ rfl wM hput ?_; go_upto_region 13 with (fail)))
         clear B0 B1 B2 B3 B4 hb hput hgr hno zz_0 zz_1 zz_2 zz_3 zz_4 ne_0 ne_1 ne_2 ne_3
         have B0 := gB0
         clear gB0
         have B1 := gB1
         clear gB1
         have B2 := gB2
         clear gB2
         have B3 := gB3
         clear gB3
         have B4 := hmn
         have hb := ghb
         clear hmn ghb
         have HM1 := Lib.hid (HMM.out k)
         rw [← HPS.out k] at HM1
         have lt_B0 := B0.lt
         have lt_B1 := B1.lt
         have lt_B2 := B2.lt
         have lt_B3 := B3.lt
         have lt_B4 := B4.lt
         go_upto_region 9 with (first | rw [← z64] | (refine zla (.tmp 11) B3 Try.underlying23 Try.size23 ?_) | (refine zla (.tmp 6) B1 Try.underlying23 Try.size23 ?_) | (refine zla (.tmp 7) B2 Try.underlying23 Try.size23 ?_) | (go_at_call 133; refine (HM1.out _).mono ?_; rintro e W7 ⟨rfl, hW7⟩; replace B0 := B0.zw hW7; replace B1 := B1.zw hW7; replace B2 := B2.zw hW7; replace B3 := B3.zw hW7; replace B4 := B4.zw hW7; replace hb := (hb).trans (hW7.mono (hb).size)) | (refine zsr (.tmp 11) (.tmp 49) (lgP n G m (k + 1)) B3 Try.size23 ?_; try simp only [Act.put]))
         obtain ⟨W8, hwo, hzQ⟩ : ∃ v : World, v = (W7.setRow (N1) (zb 64 (lgP n G m (k + 1)))) ∧ Blk v (w.heap.size) 64 23 (T) ∧ Blk v (w.heap.size + 1) 64 23 (G) ∧ Blk v (w.heap.size + 1 + 1) 64 23 (m) ∧ Blk v (N1) 64 23 (lgP n G m (k + 1)) ∧ MapG Try.prog 23 v (N2) (lgL n G m (k + 1)) ∧ Below w.heap.size w v := ⟨_, rfl, (B0.rowOther (by omega)), (B1.rowOther (by omega)), (B2.rowOther (by omega)), (B3.row (lgP n G m (k + 1))), (B4.rowOther (by omega)), (zr hb (by omega) _)⟩
         rw [← hwo]
         clear hwo B0 B1 B2 B3 B4 hb
         obtain ⟨B0, B1, B2, B3, B4, hb⟩ := hzQ
         try simp only [Act.put, pA, pB, pC]
         go_wp2_with fail
         go_roundw
         case rel => exact ⟨k + 1, hk1, by go_num, hD2, hF2, hb, B0, B1, B2, B4, B3⟩
         case measure => simp [intOf] <;> omega
      · obtain ⟨rfl, i, hi, he⟩ := lgL_in hin
        simp only [Bool.false_eq_true, if_false] at hrun
        have HV := Lib.hid (HVn.out (lg_no hi he hF.out (N + 1)))
        clear hin
        go_wp2_with (first | (refine zla (.tmp 11) B3 Try.underlying23 Try.size23 ?_) | (at_lookup; refine wpList_look _ rfl _ _ 139 false rfl _ rfl _ rfl (.bool true) hrun ?_))
        go_ret2
        exact ⟨by first | (rw [HV.out]; rfl) | rw [HV.out], hb⟩
set_option maxRecDepth 100000 in
set_option maxHeartbeats 3200000 in
theorem spec_LogarithmOf_any (p : Int) (a g m : Nat → Nat) (ha : byte a) (hg : byte g) (hm : byte m) (w : World) :
 Calls Try.prog 62 #[.int .i64 p, .agg (zb 64 a), .agg (zb 64 g), .agg (zb 64 m)] w fun e w' => e = .returned (.tuple #[.int .i64 (lgV p a g m).1, .int .i64 (lgV p a g m).2]) ∧ Below w.heap.size w w' := by
 go_enter Try.func62, Try.ntmps62
 go_upto_region 1 with (fail)
 obtain ⟨W1, hwo⟩ : ∃ v : World, v = (((w.alloc (.cells (zb 64 (a)) 23)).alloc (.cells (zb 64 (g)) 23)).alloc (.cells (zb 64 (m)) 23)) := ⟨_, rfl⟩
 have B0 : Blk W1 (w.heap.size) 64 23 (a) := by subst hwo; have := (((Blk.new w 64 23 (a)).alloc (.cells (zb 64 (g)) 23)).alloc (.cells (zb 64 (m)) 23)); simpa using this
 have B1 : Blk W1 (w.heap.size + 1) 64 23 (g) := by subst hwo; have := ((Blk.new (w.alloc (.cells (zb 64 (a)) 23)) 64 23 (g)).alloc (.cells (zb 64 (m)) 23)); simpa using this
 have B2 : Blk W1 (w.heap.size + 1 + 1) 64 23 (m) := by subst hwo; have := (Blk.new ((w.alloc (.cells (zb 64 (a)) 23)).alloc (.cells (zb 64 (g)) 23)) 64 23 (m)); simpa using this
 have hb : Below w.heap.size w W1 := by subst hwo; exact ((((Below.refl _ _).alloc (Nat.le_refl _) _).alloc (by simp) _).alloc (by simp; omega) _)
 rw [← hwo]
 clear hwo
 rcases modV_cases (p := p) (m := m) (fs := [a, g]) with ⟨c, hc, hc0, hc12⟩ | ⟨hc, hcm, hcf, hm5⟩
 · have HV := Lib.hid (lgV_c hc hc0)
   have hb1 : ((c : Int) != 0) = true := by simp [hc0]
   go_upto_region 2 with (first | (refine zla (.tmp 7) B2 Try.underlying23 Try.size23 ?_) | (refine zla (.tmp 5) B0 Try.underlying23 Try.size23 ?_) | (refine zla (.tmp 6) B1 Try.underlying23 Try.size23 ?_) | (refine wpList_build_polys rfl 57 _ [a, g] rfl 23 rfl Try.underlying57 Try.elem23 (by simp) (by simp) rfl ?_; intro W2 hwa hps hba; clear hwa) | (go_at_call 130; refine (l02Modulus_any _ m hm [a, g] (by simp [ha, hg]) _ _ hps (by simp)).mono ?_; rintro e W3 ⟨rfl, hbb⟩; rw [hc]))
   have hBB : Below W1.heap.size W1 W3 := hba.trans (hbb.mono hba.size)
   replace B0 := B0.zw hBB
   replace B1 := B1.zw hBB
   replace B2 := B2.zw hBB
   replace hb := hb.trans (hBB.mono hb.size)
   clear hBB hba hbb hps
   go_wp2_with fail
   go_ret2
   exact ⟨by first | (rw [HV.out]; rfl) | rw [HV.out], hb⟩
 · have HC := Lib.hid hc
   obtain ⟨n, hn, n2, n7⟩ := okP_nat (codeL_zero hcm).1
   subst hn
   have lm := lt_of_code hcm (f := m) (by simp)
   have la := lt_of_code hcf (f := a) (by simp)
   have lg := lt_of_code hcf (f := g) (by simp)
   have hpr := prime_of hcm
   obtain ⟨d, hmon, hd1, hd5⟩ := mon_up hm5
   have hd := hmon.1
   have h0 : 0 ≤ deg m := by omega
   have HR := fun x hx W => (l01Mod_any n x m W hpr hx lm h0)
   have HRA := Lib.hid (fun W => HR a la W)
   have HRG := Lib.hid (fun W => HR g lg W)
   have HVs := Lib.hid (fun k h => lgV_some (k := k) hc hd h)
   have HVn := Lib.hid (fun h => lgV_none hc hd h)
   have HGL := Lib.hid (fun k (hk : k < 64) => resP_lt (b := m) (by omega) lg k hk)
   have hNB : n ^ d ≤ 16807 := pow_52 n7 (by omega)
   have HMM := Lib.hid (fun j W => l01MulMod_any n (lgP n (resP n g m) m j) (resP n g m) m W hpr (lgP_lt n2 j) HGL.out lm h0)
   have HPS := Lib.hid (fun j => show lgP n (resP n g m) m (j + 1) = mmP n (lgP n (resP n g m) m j) (resP n g m) m by rw [lgP])
   have HP0 := Lib.hid (show lgP n (resP n g m) m 0 = oneP by rw [lgP])
   have HFEW := Lib.hid (fun k h => lg_few (p := n) (d := d) (k := k) (g := resP n g m) (m := m) hpr lm hd hd1 (by omega) h)
   have HPL := Lib.hid (fun j => lgP_lt (p := n) (g := resP n g m) (m := m) n2 j)
   have HDD := Lib.hid hd
   have HCN := Lib.hid (fun W => l01Count_any n d W n2 n7 (by omega))
   clear HR
   obtain ⟨G, hG⟩ : ∃ G, G = resP n g m := ⟨_, rfl⟩
   obtain ⟨T, hT⟩ : ∃ T, T = resP n a m := ⟨_, rfl⟩
   obtain ⟨N, hN⟩ : ∃ N, N = n ^ d := ⟨_, rfl⟩
   rw [← hG] at HRG HVs HVn HMM HPS HP0 HFEW HPL
   rw [← hT] at HRA HVs HVn
   rw [← hN] at HVs HVn hNB HFEW HCN
   clear hG hT hN HGL hc hcm hcf hm5 hmon lm la lg hd
   go_upto_region 2 with (first | (refine zla (.tmp 7) B2 Try.underlying23 Try.size23 ?_) | (refine zla (.tmp 5) B0 Try.underlying23 Try.size23 ?_) | (refine zla (.tmp 6) B1 Try.underlying23 Try.size23 ?_) | (refine wpList_build_polys rfl 57 _ [a, g] rfl 23 rfl Try.underlying57 Try.elem23 (by simp) (by simp) rfl ?_; intro W2 hwa hps hba; clear hwa) | (go_at_call 130; refine (l02Modulus_any _ m hm [a, g] (by simp [ha, hg]) _ _ hps (by simp)).mono ?_; rintro e W3 ⟨rfl, hbb⟩; rw [HC.out]))
   have hBB : Below W1.heap.size W1 W3 := hba.trans (hbb.mono hba.size)
   replace B0 := B0.zw hBB
   replace B1 := B1.zw hBB
   replace B2 := B2.zw hBB
   replace hb := hb.trans (hBB.mono hb.size)
   clear hBB hba hbb hps
   go_upto_region 4 with (fail)
   have lt_B0 : (w.heap.size) < W3.heap.size := B0.lt
   have lt_B1 : (w.heap.size + 1) < W3.heap.size := B1.lt
   have lt_B2 : (w.heap.size + 1 + 1) < W3.heap.size := B2.lt
   refine zq Try.mixed (by kernel_rfl) (by kernel_rfl) (fun v => by (simp only [frL, Act.put, pA, pB, pC, Nat.reduceAdd, Nat.zero_add]; exact rfl))
    (fun L v W4 => Below W3.heap.size W3 W4 ∧ (L 9 = true → AF (v 9) W4 W3.heap.size 64 23) ∧ (L 10 = true → AF (v 10) W4 W3.heap.size 64 23) ∧ (L 11 = true → AF (v 11) W4 W3.heap.size 64 23) ∧ (L 12 = true → PF (v 9) W4 W3.heap.size 64 23 (T)) ∧ (L 13 = true → PF (v 10) W4 W3.heap.size 64 23 (G)) ∧ (L 14 = true → PF (v 11) W4 W3.heap.size 64 23 (oneP)) ∧ (L 9 = true → L 10 = true → v 9 ≠ v 10) ∧ (L 9 = true → L 11 = true → v 9 ≠ v 11) ∧ (L 10 = true → L 11 = true → v 10 ≠ v 11) ∧ VF L v [some (.int .i64 (n : Int)), some (.agg (zb 64 (a))), some (.agg (zb 64 (m))), some (.agg (zb 64 (T))), some (.int .i64 (n : Int)), some (.agg (zb 64 (g))), some (.agg (zb 64 (m))), some (.agg (zb 64 (G))), some (.agg (zb 64 (oneP))), none, none, none, none, none, none]) ?_ ?_ ?_
   · intro v hv0
     exact ⟨(Below.refl _ W3).drew, (fun h => by cases h), (fun h => by cases h), (fun h => by cases h), (fun h => by cases h), (fun h => by cases h), (fun h => by cases h), (fun h => by cases h), (fun h => by cases h), (fun h => by cases h), VF.start⟩
   · refine (.cons rfl ?_ (.cons rfl ?_ (.cons rfl ?_ (.cons rfl ?_ (.cons rfl ?_ (.cons rfl ?_ (.cons rfl ?_ (.cons rfl ?_ (.cons rfl ?_ (.cons rfl ?_ (.cons rfl ?_ (.cons rfl ?_ (.cons rfl ?_ (.cons rfl ?_ (.cons rfl ?_ (.nil _))))))))))))))))
     all_goals intro L v W4 hd hn ⟨hY, h9, h10, h11, h12, h13, h14, d9_10, d9_11, d10_11, V⟩ K hK
     · go_wp2_with fail
       exact hK _ (.int .i64 (n : Int)) _ (by simp only [Act.put, pA, pB, pC ]) ⟨hY, h9, h10, h11, h12, h13, h14, d9_10, d9_11, d10_11, V.step 0 rfl⟩
     · refine zlc (B0.zw hY) Try.underlying23 Try.size23 ?_
       exact hK _ _ _ rfl ⟨hY, h9, h10, h11, h12, h13, h14, d9_10, d9_11, d10_11, V.step 1 rfl⟩
     · refine zlc (B2.zw hY) Try.underlying23 Try.size23 ?_
       exact hK _ _ _ rfl ⟨hY, h9, h10, h11, h12, h13, h14, d9_10, d9_11, d10_11, V.step 2 rfl⟩
     · have e0 := V.at (zdq hd 0 rfl) rfl
       have e1 := V.at (zdq hd 1 rfl) rfl
       have e2 := V.at (zdq hd 2 rfl) rfl
       go_wp2_with (go_at_call 131; refine (HRA.out _).mono ?_; rintro e wy ⟨rfl, hy⟩)
       exact hK _ (.agg (zb 64 (T))) _ (by simp only [Act.put, pA, pB, pC, e0, e1, e2]) ⟨hY.trans (hy.mono hY.size), (fun h => (h9 h).below hy), (fun h => (h10 h).below hy), (fun h => (h11 h).below hy), (fun h => (h12 h).below hy), (fun h => (h13 h).below hy), (fun h => (h14 h).below hy), d9_10, d9_11, d10_11, V.step 3 rfl⟩
     · go_wp2_with fail
       exact hK _ (.int .i64 (n : Int)) _ (by simp only [Act.put, pA, pB, pC ]) ⟨hY, h9, h10, h11, h12, h13, h14, d9_10, d9_11, d10_11, V.step 4 rfl⟩
     · refine zlc (B1.zw hY) Try.underlying23 Try.size23 ?_
       exact hK _ _ _ rfl ⟨hY, h9, h10, h11, h12, h13, h14, d9_10, d9_11, d10_11, V.step 5 rfl⟩
     · refine zlc (B2.zw hY) Try.underlying23 Try.size23 ?_
       exact hK _ _ _ rfl ⟨hY, h9, h10, h11, h12, h13, h14, d9_10, d9_11, d10_11, V.step 6 rfl⟩
     · have e4 := V.at (zdq hd 4 rfl) rfl
       have e5 := V.at (zdq hd 5 rfl) rfl
       have e6 := V.at (zdq hd 6 rfl) rfl
       go_wp2_with (go_at_call 131; refine (HRG.out _).mono ?_; rintro e wy ⟨rfl, hy⟩)
       exact hK _ (.agg (zb 64 (G))) _ (by simp only [Act.put, pA, pB, pC, e4, e5, e6]) ⟨hY.trans (hy.mono hY.size), (fun h => (h9 h).below hy), (fun h => (h10 h).below hy), (fun h => (h11 h).below hy), (fun h => (h12 h).below hy), (fun h => (h13 h).below hy), (fun h => (h14 h).below hy), d9_10, d9_11, d10_11, V.step 7 rfl⟩
     · go_wp2_with (go_at_call 80; refine (l01One_any _).mono ?_; rintro e wy ⟨rfl, hy⟩)
       exact hK _ (.agg (zb 64 (oneP))) _ (by simp only [Act.put, pA, pB, pC ]) ⟨hY.trans (hy.mono hY.size), (fun h => (h9 h).below hy), (fun h => (h10 h).below hy), (fun h => (h11 h).below hy), (fun h => (h12 h).below hy), (fun h => (h13 h).below hy), (fun h => (h14 h).below hy), d9_10, d9_11, d10_11, V.step 8 rfl⟩
     · go_wp2_with fail
       rw [← z64]
       exact hK _ (.pointer (some ⟨W4.heap.size, 0, none⟩)) _ (by simp only [Act.put, pA, pB, pC ]) ⟨hY.alloc hY.size _, (fun _ => (PF.new W4 64 23 _ hY.size).af), (fun h => (h10 h).below (zal _ _)), (fun h => (h11 h).below (zal _ _)), (fun h => absurd rfl (hn 12 _ rfl h ⟨9, .data⟩ (by simp) rfl)), (fun h => (h13 h).below (zal _ _)), (fun h => (h14 h).below (zal _ _)), (fun h g1 => Ne.symm ((h10 g1).ne_new)), (fun h g1 => Ne.symm ((h11 g1).ne_new)), d10_11, V.skip 9 rfl⟩
     · go_wp2_with fail
       rw [← z64]
       exact hK _ (.pointer (some ⟨W4.heap.size, 0, none⟩)) _ (by simp only [Act.put, pA, pB, pC ]) ⟨hY.alloc hY.size _, (fun h => (h9 h).below (zal _ _)), (fun _ => (PF.new W4 64 23 _ hY.size).af), (fun h => (h11 h).below (zal _ _)), (fun h => (h12 h).below (zal _ _)), (fun h => absurd rfl (hn 13 _ rfl h ⟨10, .data⟩ (by simp) rfl)), (fun h => (h14 h).below (zal _ _)), (fun h g1 => (h9 h).ne_new), d9_11, (fun h g1 => Ne.symm ((h11 g1).ne_new)), V.skip 10 rfl⟩
     · go_wp2_with fail
       rw [← z64]
       exact hK _ (.pointer (some ⟨W4.heap.size, 0, none⟩)) _ (by simp only [Act.put, pA, pB, pC ]) ⟨hY.alloc hY.size _, (fun h => (h9 h).below (zal _ _)), (fun h => (h10 h).below (zal _ _)), (fun _ => (PF.new W4 64 23 _ hY.size).af), (fun h => (h12 h).below (zal _ _)), (fun h => (h13 h).below (zal _ _)), (fun h => absurd rfl (hn 14 _ rfl h ⟨11, .data⟩ (by simp) rfl)), d9_10, (fun h g1 => (h9 h).ne_new), (fun h g1 => (h10 h).ne_new), V.skip 11 rfl⟩
     · have e3 := V.at (zdq hd 3 rfl) rfl
       obtain ⟨gz, b, ea, hN, hk⟩ := (h9 (zdq hd 9 rfl)).out
       refine zsb 23 _ _ rfl b 64 (T) ea e3 23 gz hk Try.size23 ?_
       exact hK _ undef _ rfl ⟨zr hY hN _, (fun h => (h9 h).row hk), (fun h => (h10 h).row hk), (fun h => (h11 h).row hk), (fun _ => by rw [show updV v 12 undef 9 = v 9 from rfl, ea]; exact PF.row hk hN _), (fun h => (h13 h).rowOther (by rw [← ea]; exact (Ne.symm (d9_10 (zdq hd 9 rfl) (zdq hd 10 rfl))))), (fun h => (h14 h).rowOther (by rw [← ea]; exact (Ne.symm (d9_11 (zdq hd 9 rfl) (zdq hd 11 rfl))))), d9_10, d9_11, d10_11, V.skip 12 rfl⟩
     · have e7 := V.at (zdq hd 7 rfl) rfl
       obtain ⟨gz, b, ea, hN, hk⟩ := (h10 (zdq hd 10 rfl)).out
       refine zsb 23 _ _ rfl b 64 (G) ea e7 23 gz hk Try.size23 ?_
       exact hK _ undef _ rfl ⟨zr hY hN _, (fun h => (h9 h).row hk), (fun h => (h10 h).row hk), (fun h => (h11 h).row hk), (fun h => (h12 h).rowOther (by rw [← ea]; exact (d9_10 (zdq hd 9 rfl) (zdq hd 10 rfl)))), (fun _ => by rw [show updV v 13 undef 10 = v 10 from rfl, ea]; exact PF.row hk hN _), (fun h => (h14 h).rowOther (by rw [← ea]; exact (Ne.symm (d10_11 (zdq hd 10 rfl) (zdq hd 11 rfl))))), d9_10, d9_11, d10_11, V.skip 13 rfl⟩
     · have e8 := V.at (zdq hd 8 rfl) rfl
       obtain ⟨gz, b, ea, hN, hk⟩ := (h11 (zdq hd 11 rfl)).out
       refine zsb 23 _ _ rfl b 64 (oneP) ea e8 23 gz hk Try.size23 ?_
       exact hK _ undef _ rfl ⟨zr hY hN _, (fun h => (h9 h).row hk), (fun h => (h10 h).row hk), (fun h => (h11 h).row hk), (fun h => (h12 h).rowOther (by rw [← ea]; exact (d9_11 (zdq hd 9 rfl) (zdq hd 11 rfl)))), (fun h => (h13 h).rowOther (by rw [← ea]; exact (d10_11 (zdq hd 10 rfl) (zdq hd 11 rfl)))), (fun _ => by rw [show updV v 14 undef 11 = v 11 from rfl, ea]; exact PF.row hk hN _), d9_10, d9_11, d10_11, V.skip 14 rfl⟩
   · intro L v W4 hL ⟨hY, h9, h10, h11, h12, h13, h14, d9_10, d9_11, d10_11, V⟩
     obtain ⟨k4_9, e9, hNk4_9, hk4_9⟩ := (h12 (hL 12 (by decide))).out
     obtain ⟨k4_10, e10, hNk4_10, hk4_10⟩ := (h13 (hL 13 (by decide))).out
     obtain ⟨k4_11, e11, hNk4_11, hk4_11⟩ := (h14 (hL 14 (by decide))).out
     have n9_10 := d9_10 (hL 9 (by decide)) (hL 10 (by decide))
     have n9_11 := d9_11 (hL 9 (by decide)) (hL 11 (by decide))
     have n10_11 := d10_11 (hL 10 (by decide)) (hL 11 (by decide))
     have e0 := V.at (hL 0 (by decide)) rfl
     have e1 := V.at (hL 1 (by decide)) rfl
     have e2 := V.at (hL 2 (by decide)) rfl
     have e3 := V.at (hL 3 (by decide)) rfl
     have e4 := V.at (hL 4 (by decide)) rfl
     have e5 := V.at (hL 5 (by decide)) rfl
     have e6 := V.at (hL 6 (by decide)) rfl
     have e7 := V.at (hL 7 (by decide)) rfl
     have e8 := V.at (hL 8 (by decide)) rfl
     clear hL h9 h10 h11 h12 h13 h14 d9_10 d9_11 d10_11 V
     replace B0 := B0.zw hY
     replace B1 := B1.zw hY
     replace B2 := B2.zw hY
     replace hb := hb.trans (hY.mono hb.size)
     clear hY
     rw [e9, e10] at n9_10
     have mk4_9_10 : k4_9 ≠ k4_10 := fun h => n9_10 (by rw [h])
     clear n9_10
     rw [e9, e11] at n9_11
     have mk4_9_11 : k4_9 ≠ k4_11 := fun h => n9_11 (by rw [h])
     clear n9_11
     rw [e10, e11] at n10_11
     have mk4_10_11 : k4_10 ≠ k4_11 := fun h => n10_11 (by rw [h])
     clear n10_11
     simp only [Exit.then, e9, e10, e11, e0, e1, e2, e3, e4, e5, e6, e7, e8]
     clear e9 e10 e11 e0 e1 e2 e3 e4 e5 e6 e7 e8
     have B3 := hk4_9
     clear hk4_9
     have zk4_9_0 : w.heap.size < k4_9 := by omega
     have zk4_9_1 : w.heap.size + 1 < k4_9 := by omega
     have zk4_9_2 : w.heap.size + 1 + 1 < k4_9 := by omega
     have B4 := hk4_10
     clear hk4_10
     have zk4_10_0 : w.heap.size < k4_10 := by omega
     have zk4_10_1 : w.heap.size + 1 < k4_10 := by omega
     have zk4_10_2 : w.heap.size + 1 + 1 < k4_10 := by omega
     have B5 := hk4_11
     clear hk4_11
     have zk4_11_0 : w.heap.size < k4_11 := by omega
     have zk4_11_1 : w.heap.size + 1 < k4_11 := by omega
     have zk4_11_2 : w.heap.size + 1 + 1 < k4_11 := by omega
     clear lt_B0 lt_B1 lt_B2
     go_upto_region 5 with (fail)
     go_wp2_with fail
     go_loopw [14] (fun i wr => ∃ k : Nat, k ≤ N + 1 ∧ i = .int .i64 (k : Int) ∧ Hid (lgO n G m T (N + 1) 0 = lgO n G m T (N + 1 - k) k) ∧ Below w.heap.size w wr ∧ Blk wr (w.heap.size + 1 + 1) 64 23 (m) ∧ Blk wr (k4_9) 64 23 (T) ∧ Blk wr (k4_10) 64 23 (G) ∧ Blk wr (k4_11) 64 23 (lgP n G m k)) (fun i _ => N + 1 - (intOf i).toNat)
     case atStart => exact ⟨0, Nat.zero_le _, rfl, Lib.hid rfl, hb, B2, B3, B4, by rw [HP0.out]; exact B5⟩
     case round =>
      clear hb B0 B1 B2 B3 B4 B5
      obtain ⟨k, hkN, rfl, hO, hb, B2, B3, B4, B5⟩ := hrel
      by_cases hk : k ≤ N
      · have hki : (k : Int) ≤ (N : Int) := by omega
        have hOs := fun h => hO.out.trans ((show lgO n G m T (N + 1 - k) k = lgO n G m T (N - k + 1) k by rw [show N + 1 - k = N - k + 1 by omega]).trans (lgO_s (p := n) (f := N - k) (k := k) (g := G) (m := m) (T := T) h))
        have hOn := fun h => hO.out.trans ((show lgO n G m T (N + 1 - k) k = lgO n G m T (N - k + 1) k by rw [show N + 1 - k = N - k + 1 by omega]).trans (lgO_n (p := n) (f := N - k) (k := k) (g := G) (m := m) (T := T) h))
        go_upto_region 8 with (first | (refine zla (.tmp 7) B2 Try.underlying23 Try.size23 ?_) | (go_at_call 74; refine (l01Deg_any m _).mono ?_; rintro e W5 ⟨rfl, hW5⟩; replace B2 := B2.zw hW5; replace B3 := B3.zw hW5; replace B4 := B4.zw hW5; replace B5 := B5.zw hW5; replace hb := hb.trans (hW5.mono hb.size); rw [HDD.out]) | (go_at_call 75; refine (HCN.out _).mono ?_; rintro e wS ⟨rfl, rfl⟩))
        cases hz : eqN 64 (lgP n G m k) T with
        | true =>
         have HV := Lib.hid (HVs.out k (hOs hz))
         clear hOs hOn
         have hgd := Try.noGuard23
         have heq := fun W => zeb (P := Try.prog) W 9998 23 5 64 (lgP n G m k) T Try.underlying23 Try.underlying5 Try.size5
         rw [show eqN 64 (lgP n G m k) T = true from hz] at heq
         go_wp2_with (first | (refine zla (.tmp 13) B5 Try.underlying23 Try.size23 ?_) | (refine zla (.tmp 11) B3 Try.underlying23 Try.size23 ?_))
         go_ret2
         exact ⟨by first | (rw [HV.out]; rfl) | rw [HV.out], hb⟩
        | false =>
         have hO2 := Lib.hid (hOn hz)
         clear hOs hOn
         have hgd := Try.noGuard23
         have heq := fun W => zeb (P := Try.prog) W 9998 23 5 64 (lgP n G m k) T Try.underlying23 Try.underlying5 Try.size5
         rw [show eqN 64 (lgP n G m k) T = false from hz] at heq
         go_upto_region 10 with (first | (refine zla (.tmp 13) B5 Try.underlying23 Try.size23 ?_) | (refine zla (.tmp 11) B3 Try.underlying23 Try.size23 ?_))
         clear heq hgd
         have HM1 := Lib.hid (HMM.out k)
         rw [← HPS.out k] at HM1
         have lt_B2 := B2.lt
         have lt_B3 := B3.lt
         have lt_B4 := B4.lt
         have lt_B5 := B5.lt
         go_upto_region 7 with (first | rw [← z64] | (refine zla (.tmp 13) B5 Try.underlying23 Try.size23 ?_) | (refine zla (.tmp 12) B4 Try.underlying23 Try.size23 ?_) | (refine zla (.tmp 7) B2 Try.underlying23 Try.size23 ?_) | (go_at_call 132; refine (HM1.out _).mono ?_; rintro e W6 ⟨rfl, hW6⟩; replace B2 := B2.zw hW6; replace B3 := B3.zw hW6; replace B4 := B4.zw hW6; replace B5 := B5.zw hW6; replace hb := (hb).trans (hW6.mono (hb).size)) | (refine zsr (.tmp 13) (.tmp 49) (lgP n G m (k + 1)) B5 Try.size23 ?_; try simp only [Act.put]))
         obtain ⟨W7, hwo, hzQ⟩ : ∃ v : World, v = (W6.setRow (k4_11) (zb 64 (lgP n G m (k + 1)))) ∧ Blk v (w.heap.size + 1 + 1) 64 23 (m) ∧ Blk v (k4_9) 64 23 (T) ∧ Blk v (k4_10) 64 23 (G) ∧ Blk v (k4_11) 64 23 (lgP n G m (k + 1)) ∧ Below w.heap.size w v := ⟨_, rfl, (B2.rowOther (by omega)), (B3.rowOther (by omega)), (B4.rowOther (by omega)), (B5.row (lgP n G m (k + 1))), (zr hb (by omega) _)⟩
         rw [← hwo]
         clear hwo B2 B3 B4 B5 hb
         obtain ⟨B2, B3, B4, B5, hb⟩ := hzQ
         try simp only [Act.put, pA, pB, pC]
         go_wp2_with fail
         go_roundw
         case rel => exact ⟨k + 1, by omega, by go_num, Lib.hid (hO2.out.trans (by rw [show N - k = N + 1 - (k + 1) by omega])), hb, B2, B3, B4, B5⟩
         case measure => simp [intOf] <;> omega
      · have hki : ¬ (k : Int) ≤ (N : Int) := by omega
        obtain rfl : k = N + 1 := by omega
        have HV := Lib.hid (HVn.out (hO.out.trans (by rw [Nat.sub_self, lgO])))
        go_upto_region 11 with (first | (refine zla (.tmp 7) B2 Try.underlying23 Try.size23 ?_) | (go_at_call 74; refine (l01Deg_any m _).mono ?_; rintro e W5 ⟨rfl, hW5⟩; replace B2 := B2.zw hW5; replace B3 := B3.zw hW5; replace B4 := B4.zw hW5; replace B5 := B5.zw hW5; replace hb := hb.trans (hW5.mono hb.size); rw [HDD.out]) | (go_at_call 75; refine (HCN.out _).mono ?_; rintro e wS ⟨rfl, rfl⟩))
        go_wp2_with fail
        go_ret2
        exact ⟨by first | (rw [HV.out]; rfl) | rw [HV.out], hb⟩
end Go.Proofs.Ytobcdekochenfaa
end
section
namespace Go.Proofs.Ytobcdekochenfaa
open Go Go.RowKit
set_option linter.unusedVariables false
set_option linter.unusedSimpArgs false
set_option maxRecDepth 100000 in
set_option maxHeartbeats 1600000 in
theorem FnExactLogarithmOf_walk (p : Int) (f : Nat → Nat) (g : Nat → Nat) (m : Nat → Nat) (hf : byte f) (hg : byte g) (hm : byte m) (w : World) :
 Calls Try.prog 18 #[.int .i64 p, .agg (zb 64 f), .agg (zb 64 g), .agg (zb 64 m)] w fun e w' => e = .returned (.bool true) ∧ Below w.heap.size w w' := by
 go_enter Try.func18, Try.ntmps18
 go_upto_region 1 with (fail)
 obtain ⟨W1, hwo⟩ : ∃ v : World, v = (((w.alloc (.cells (zb 64 (f)) 22)).alloc (.cells (zb 64 (g)) 22)).alloc (.cells (zb 64 (m)) 22)) := ⟨_, rfl⟩
 have B0 : Blk W1 (w.heap.size) 64 22 (f) := by subst hwo; have := (((Blk.new w 64 22 (f)).alloc (.cells (zb 64 (g)) 22)).alloc (.cells (zb 64 (m)) 22)); simpa using this
 have B1 : Blk W1 (w.heap.size + 1) 64 22 (g) := by subst hwo; have := ((Blk.new (w.alloc (.cells (zb 64 (f)) 22)) 64 22 (g)).alloc (.cells (zb 64 (m)) 22)); simpa using this
 have B2 : Blk W1 (w.heap.size + 1 + 1) 64 22 (m) := by subst hwo; have := (Blk.new ((w.alloc (.cells (zb 64 (f)) 22)).alloc (.cells (zb 64 (g)) 22)) 64 22 (m)); simpa using this
 have hb : Below w.heap.size w W1 := by subst hwo; exact ((((Below.refl _ _).alloc (Nat.le_refl _) _).alloc (by simp) _).alloc (by simp; omega) _)
 rw [← hwo]
 clear hwo
 have hne0 : (((lgV p f g m).1) != ((lgV p f g m).1)) = false := by simp
 have hne1 : (((lgV p f g m).2) != ((lgV p f g m).2)) = false := by simp
 refine zq Try.mixed (by kernel_rfl) (by kernel_rfl) (fun v => by (simp only [frL, Act.put, pA, pB, pC, Nat.reduceAdd, Nat.zero_add]; exact rfl))
  (fun L v W2 => Below W1.heap.size W1 W2 ∧ VF L v [some (.int .i64 p), some (.agg (zb 64 (f))), some (.agg (zb 64 (f))), some (.agg (zb 64 (g))), some (.agg (zb 64 (g))), some (.agg (zb 64 (m))), some (.agg (zb 64 (m))), some (.tuple #[(.int .i64 ((lgV p f g m).1)), (.int .i64 ((lgV p f g m).2))]), some (.tuple #[(.int .i64 ((lgV p f g m).1)), (.int .i64 ((lgV p f g m).2))]), some (.int .i64 ((lgV p f g m).1)), some (.int .i64 ((lgV p f g m).2)), some (.int .i64 ((lgV p f g m).1)), some (.int .i64 ((lgV p f g m).2))]) ?_ ?_ ?_
 · intro v hv0
   exact ⟨(Below.refl _ W1).drew, VF.start⟩
 · refine (.cons rfl ?_ (.cons rfl ?_ (.cons rfl ?_ (.cons rfl ?_ (.cons rfl ?_ (.cons rfl ?_ (.cons rfl ?_ (.cons rfl ?_ (.cons rfl ?_ (.cons rfl ?_ (.cons rfl ?_ (.cons rfl ?_ (.cons rfl ?_ (.nil _))))))))))))))
   all_goals intro L v W2 hd hn ⟨hY, V⟩ K hK
   · go_wp2_with fail
     exact hK _ (.int .i64 p) _ (by simp only [Act.put, pA, pB, pC ]) ⟨hY, V.step 0 rfl⟩
   · refine zlc (B0.zw hY) Try.underlying22 Try.size22 ?_
     exact hK _ _ _ rfl ⟨hY, V.step 1 rfl⟩
   · have e1 := V.at (zdq hd 1 rfl) rfl
     go_wp2_with (go_at_call 25; refine (toPoly_any f hf _).mono ?_; rintro e wy ⟨rfl, hy⟩)
     exact hK _ (.agg (zb 64 (f))) _ (by simp only [Act.put, pA, pB, pC, e1]) ⟨hY.trans (hy.mono hY.size), V.step 2 rfl⟩
   · refine zlc (B1.zw hY) Try.underlying22 Try.size22 ?_
     exact hK _ _ _ rfl ⟨hY, V.step 3 rfl⟩
   · have e3 := V.at (zdq hd 3 rfl) rfl
     go_wp2_with (go_at_call 25; refine (toPoly_any g hg _).mono ?_; rintro e wy ⟨rfl, hy⟩)
     exact hK _ (.agg (zb 64 (g))) _ (by simp only [Act.put, pA, pB, pC, e3]) ⟨hY.trans (hy.mono hY.size), V.step 4 rfl⟩
   · refine zlc (B2.zw hY) Try.underlying22 Try.size22 ?_
     exact hK _ _ _ rfl ⟨hY, V.step 5 rfl⟩
   · have e5 := V.at (zdq hd 5 rfl) rfl
     go_wp2_with (go_at_call 25; refine (toPoly_any m hm _).mono ?_; rintro e wy ⟨rfl, hy⟩)
     exact hK _ (.agg (zb 64 (m))) _ (by simp only [Act.put, pA, pB, pC, e5]) ⟨hY.trans (hy.mono hY.size), V.step 6 rfl⟩
   · have e0 := V.at (zdq hd 0 rfl) rfl
     have e2 := V.at (zdq hd 2 rfl) rfl
     have e4 := V.at (zdq hd 4 rfl) rfl
     have e6 := V.at (zdq hd 6 rfl) rfl
     go_wp2_with (go_at_call 62; refine (spec_LogarithmOf_any p f g m hf hg hm _).mono ?_; rintro e wy ⟨rfl, hy⟩)
     exact hK _ (.tuple #[(.int .i64 ((lgV p f g m).1)), (.int .i64 ((lgV p f g m).2))]) _ (by simp only [Act.put, pA, pB, pC, e0, e2, e4, e6]) ⟨hY.trans (hy.mono hY.size), V.step 7 rfl⟩
   · have e7 := V.at (zdq hd 7 rfl) rfl
     go_wp2_with fail
     exact hK _ (.tuple #[(.int .i64 ((lgV p f g m).1)), (.int .i64 ((lgV p f g m).2))]) _ (by simp only [Act.put, pA, pB, pC, e7]) ⟨hY, V.step 8 rfl⟩
   · have e8 := V.at (zdq hd 8 rfl) rfl
     go_wp2_with fail
     exact hK _ (.int .i64 ((lgV p f g m).1)) _ (by simp only [Act.put, pA, pB, pC, e8]) ⟨hY, V.step 9 rfl⟩
   · have e8 := V.at (zdq hd 8 rfl) rfl
     go_wp2_with fail
     exact hK _ (.int .i64 ((lgV p f g m).2)) _ (by simp only [Act.put, pA, pB, pC, e8]) ⟨hY, V.step 10 rfl⟩
   · have e9 := V.at (zdq hd 9 rfl) rfl
     go_wp2_with fail
     exact hK _ (.int .i64 ((lgV p f g m).1)) _ (by simp only [Act.put, pA, pB, pC, e9]) ⟨hY, V.step 11 rfl⟩
   · have e10 := V.at (zdq hd 10 rfl) rfl
     go_wp2_with fail
     exact hK _ (.int .i64 ((lgV p f g m).2)) _ (by simp only [Act.put, pA, pB, pC, e10]) ⟨hY, V.step 12 rfl⟩
 · intro L v W2 hL ⟨hY, V⟩
   have e0 := V.at (hL 0 (by decide)) rfl
   have e1 := V.at (hL 1 (by decide)) rfl
   have e2 := V.at (hL 2 (by decide)) rfl
   have e3 := V.at (hL 3 (by decide)) rfl
   have e4 := V.at (hL 4 (by decide)) rfl
   have e5 := V.at (hL 5 (by decide)) rfl
   have e6 := V.at (hL 6 (by decide)) rfl
   have e7 := V.at (hL 7 (by decide)) rfl
   have e8 := V.at (hL 8 (by decide)) rfl
   have e9 := V.at (hL 9 (by decide)) rfl
   have e10 := V.at (hL 10 (by decide)) rfl
   have e11 := V.at (hL 11 (by decide)) rfl
   have e12 := V.at (hL 12 (by decide)) rfl
   clear hL V
   replace B0 := B0.zw hY
   replace B1 := B1.zw hY
   replace B2 := B2.zw hY
   replace hb := hb.trans (hY.mono hb.size)
   clear hY
   simp only [Exit.then, e0, e1, e2, e3, e4, e5, e6, e7, e8, e9, e10, e11, e12]
   clear e0 e1 e2 e3 e4 e5 e6 e7 e8 e9 e10 e11 e12
   go_upto_region 2 with (fail)
   refine zq Try.mixed (by kernel_rfl) (by kernel_rfl) (fun v => by (simp only [frL, Act.put, pA, pB, pC, Nat.reduceAdd, Nat.zero_add]; exact rfl))
    (fun L v W3 => Below W2.heap.size W2 W3 ∧ VF L v [some (.int .i64 p), some (.agg (zb 64 (f))), some (.agg (zb 64 (f))), some (.agg (zb 64 (g))), some (.agg (zb 64 (g))), some (.agg (zb 64 (m))), some (.agg (zb 64 (m))), some (.tuple #[(.int .i64 ((lgV p f g m).1)), (.int .i64 ((lgV p f g m).2))]), some (.tuple #[(.int .i64 ((lgV p f g m).1)), (.int .i64 ((lgV p f g m).2))]), some (.int .i64 ((lgV p f g m).1)), some (.int .i64 ((lgV p f g m).2)), some (.int .i64 ((lgV p f g m).1)), some (.int .i64 ((lgV p f g m).2))]) ?_ ?_ ?_
   · intro v hv0
     exact ⟨(Below.refl _ W2).drew, VF.start⟩
   · refine (.cons rfl ?_ (.cons rfl ?_ (.cons rfl ?_ (.cons rfl ?_ (.cons rfl ?_ (.cons rfl ?_ (.cons rfl ?_ (.cons rfl ?_ (.cons rfl ?_ (.cons rfl ?_ (.cons rfl ?_ (.cons rfl ?_ (.cons rfl ?_ (.nil _))))))))))))))
     all_goals intro L v W3 hd hn ⟨hY, V⟩ K hK
     · go_wp2_with fail
       exact hK _ (.int .i64 p) _ (by simp only [Act.put, pA, pB, pC ]) ⟨hY, V.step 0 rfl⟩
     · refine zlc (B0.zw hY) Try.underlying22 Try.size22 ?_
       exact hK _ _ _ rfl ⟨hY, V.step 1 rfl⟩
     · have e1 := V.at (zdq hd 1 rfl) rfl
       go_wp2_with (go_at_call 25; refine (toPoly_any f hf _).mono ?_; rintro e wy ⟨rfl, hy⟩)
       exact hK _ (.agg (zb 64 (f))) _ (by simp only [Act.put, pA, pB, pC, e1]) ⟨hY.trans (hy.mono hY.size), V.step 2 rfl⟩
     · refine zlc (B1.zw hY) Try.underlying22 Try.size22 ?_
       exact hK _ _ _ rfl ⟨hY, V.step 3 rfl⟩
     · have e3 := V.at (zdq hd 3 rfl) rfl
       go_wp2_with (go_at_call 25; refine (toPoly_any g hg _).mono ?_; rintro e wy ⟨rfl, hy⟩)
       exact hK _ (.agg (zb 64 (g))) _ (by simp only [Act.put, pA, pB, pC, e3]) ⟨hY.trans (hy.mono hY.size), V.step 4 rfl⟩
     · refine zlc (B2.zw hY) Try.underlying22 Try.size22 ?_
       exact hK _ _ _ rfl ⟨hY, V.step 5 rfl⟩
     · have e5 := V.at (zdq hd 5 rfl) rfl
       go_wp2_with (go_at_call 25; refine (toPoly_any m hm _).mono ?_; rintro e wy ⟨rfl, hy⟩)
       exact hK _ (.agg (zb 64 (m))) _ (by simp only [Act.put, pA, pB, pC, e5]) ⟨hY.trans (hy.mono hY.size), V.step 6 rfl⟩
     · have e0 := V.at (zdq hd 0 rfl) rfl
       have e2 := V.at (zdq hd 2 rfl) rfl
       have e4 := V.at (zdq hd 4 rfl) rfl
       have e6 := V.at (zdq hd 6 rfl) rfl
       go_wp2_with (go_at_call 63; refine (impl_LogarithmOf_any p f g m hf hg hm _).mono ?_; rintro e wy ⟨rfl, hy⟩)
       exact hK _ (.tuple #[(.int .i64 ((lgV p f g m).1)), (.int .i64 ((lgV p f g m).2))]) _ (by simp only [Act.put, pA, pB, pC, e0, e2, e4, e6]) ⟨hY.trans (hy.mono hY.size), V.step 7 rfl⟩
     · have e7 := V.at (zdq hd 7 rfl) rfl
       go_wp2_with fail
       exact hK _ (.tuple #[(.int .i64 ((lgV p f g m).1)), (.int .i64 ((lgV p f g m).2))]) _ (by simp only [Act.put, pA, pB, pC, e7]) ⟨hY, V.step 8 rfl⟩
     · have e8 := V.at (zdq hd 8 rfl) rfl
       go_wp2_with fail
       exact hK _ (.int .i64 ((lgV p f g m).1)) _ (by simp only [Act.put, pA, pB, pC, e8]) ⟨hY, V.step 9 rfl⟩
     · have e8 := V.at (zdq hd 8 rfl) rfl
       go_wp2_with fail
       exact hK _ (.int .i64 ((lgV p f g m).2)) _ (by simp only [Act.put, pA, pB, pC, e8]) ⟨hY, V.step 10 rfl⟩
     · have e9 := V.at (zdq hd 9 rfl) rfl
       go_wp2_with fail
       exact hK _ (.int .i64 ((lgV p f g m).1)) _ (by simp only [Act.put, pA, pB, pC, e9]) ⟨hY, V.step 11 rfl⟩
     · have e10 := V.at (zdq hd 10 rfl) rfl
       go_wp2_with fail
       exact hK _ (.int .i64 ((lgV p f g m).2)) _ (by simp only [Act.put, pA, pB, pC, e10]) ⟨hY, V.step 12 rfl⟩
   · intro L v W3 hL ⟨hY, V⟩
     have e0 := V.at (hL 0 (by decide)) rfl
     have e1 := V.at (hL 1 (by decide)) rfl
     have e2 := V.at (hL 2 (by decide)) rfl
     have e3 := V.at (hL 3 (by decide)) rfl
     have e4 := V.at (hL 4 (by decide)) rfl
     have e5 := V.at (hL 5 (by decide)) rfl
     have e6 := V.at (hL 6 (by decide)) rfl
     have e7 := V.at (hL 7 (by decide)) rfl
     have e8 := V.at (hL 8 (by decide)) rfl
     have e9 := V.at (hL 9 (by decide)) rfl
     have e10 := V.at (hL 10 (by decide)) rfl
     have e11 := V.at (hL 11 (by decide)) rfl
     have e12 := V.at (hL 12 (by decide)) rfl
     clear hL V
     replace B0 := B0.zw hY
     replace B1 := B1.zw hY
     replace B2 := B2.zw hY
     replace hb := hb.trans (hY.mono hb.size)
     clear hY
     simp only [Exit.then, e0, e1, e2, e3, e4, e5, e6, e7, e8, e9, e10, e11, e12]
     clear e0 e1 e2 e3 e4 e5 e6 e7 e8 e9 e10 e11 e12
     go_upto_region 3 with (fail)
     go_wp2_with fail
     go_ret
     exact ⟨rfl, hb⟩
end Go.Proofs.Ytobcdekochenfaa
end
section
namespace Go.Proofs.Ytobcdekochenfaa
open Go.ChangeShapes Go.WideShapes Go.ChangeAt Go.RowKit
section
variable {H : Type} {enc : TypeId × Value → H} {P : Program}
theorem trod_int_to {e : TypeId} {k : IntKind} (he : P.underlying e = some (.int k)) {w : World} (w' : World) {b : Nat} (b' : Nat) {s : Nat → Bool} (s' : Nat → Bool) {h : Bool} (h' : Bool) {m : Nat} {c : List Value} {x : DataW H × List MemPlace}
 (hx : DataW.trod enc P w b s h m e c = some x) : DataW.trod enc P w' b' s' h' m e c = some x := by
 cases m with
 | zero => simp [DataW.trod] at hx
 | succ m =>
  obtain ⟨n, rfl, rfl, hw⟩ := DataW.trod_int he hx
  unfold DataW.trod
  rw [he]
  simp [hw]
theorem trod_int_same {e : TypeId} {k : IntKind} (he : P.underlying e = some (.int k)) (w w' : World) (b b' : Nat) (s s' : Nat → Bool) (h h' : Bool) (m : Nat) (c : List Value) :
 DataW.trod enc P w b s h m e c = DataW.trod enc P w' b' s' h' m e c := by
 cases h1 : DataW.trod enc P w b s h m e c with
 | some x => rw [trod_int_to he w' b' s' h' h1]
 | none =>
  cases h2 : DataW.trod enc P w' b' s' h' m e c with
  | none => rfl
  | some x => rw [trod_int_to he w b s h h2] at h1; cases h1
theorem open_barr {t e : TypeId} {n : Nat} {w : World} {r : Reach} {b0 base : Nat} {spare : Nat → Bool} {held : Bool} {v : Value} {d : DataW H} {p : List MemPlace}
 (ht : P.underlying t = some (.array n e)) (he : P.underlying e = some (.int .u8)) (hC : P.cellsOf t = n) (hCe : P.cellsOf e = 1)
 (hv : Value.okWide P w r b0 t v) (h : DataW.Trod enc P w base spare held t v d p) :
 ∃ f : Nat → Nat, byte f ∧ v = .agg (zb n f) ∧ p = [] ∧ ∀ (w' : World) (base' : Nat) (spare' : Nat → Bool) (held' : Bool), DataW.Trod enc P w' base' spare' held' t v d [] := by
 unfold Value.okWide at hv
 rw [ht] at hv
 obtain ⟨cs, rfl, hsz, _⟩ := hv
 obtain ⟨fuel, hf⟩ := h
 obtain ⟨xs, m, hm, hx, hlen, hxl, hel⟩ := DataW.trod_array ht hf
 subst hm
 have hcs : cs.size = n := by rw [hsz, hC]
 have each : ∀ i, i < n → ∃ k : Nat, k < 256 ∧ cs[i]? = some (.int .u8 (k : Int)) ∧ xs[i]? = some (.lit (.int .u8 (k : Int)), []) := by
  intro i hi
  have h1 := hel i hi
  have hxi : xs[i]? = some (xs[i]'(by omega)) := List.getElem?_eq_getElem (by omega)
  rw [hxi, hCe] at h1
  obtain ⟨z, hz1, hz2, hz3⟩ := DataW.trod_int he h1
  have hb := bounds_u8 hz3
  obtain ⟨k, rfl⟩ := Int.eq_ofNat_of_zero_le hb.1
  refine ⟨k, by omega, ?_, by rw [hxi, hz2]⟩
  have h2 : ((cs.toList.drop (i * 1)).take 1)[0]? = some (.int .u8 (k : Int)) := by
   have h3 : (Value.agg cs).cells.toList = cs.toList := rfl
   rw [← h3, hz1]; rfl
  simpa using h2
 refine ⟨fun i => match cs[i]? with | some (.int _ z) => if i < n then z.toNat else 0 | _ => 0, ?_, ?_, ?_, ?_⟩
 · intro i
   by_cases hi : i < n
   · obtain ⟨k, hk, hc, _⟩ := each i hi
     simp only [hc, hi, if_true, Int.toNat_natCast]
     exact hk
   · have : cs[i]? = none := Array.getElem?_eq_none (by omega)
     simp [this]
 · congr 1
   apply Array.ext_getElem?
   intro i
   by_cases hi : i < n
   · obtain ⟨k, hk, hc, _⟩ := each i hi
     rw [bcells_get hi]
     simp only [hc, hi, if_true, Int.toNat_natCast]
   · rw [Array.getElem?_eq_none (by omega), Array.getElem?_eq_none (by rw [zbs]; omega)]
 · have hp : p = xs.flatMap (·.2) := by simpa using congrArg Prod.snd hx
   rw [hp]
   rw [List.flatMap_eq_nil_iff]
   intro x hxm
   obtain ⟨i, hi⟩ := List.getElem?_of_mem hxm
   have hin : i < n := by rw [← hxl]; exact (List.getElem?_eq_some_iff.1 hi).1
   obtain ⟨k, _, _, h2⟩ := each i hin
   rw [hi] at h2
   injection h2 with h2
   rw [h2]
 · intro w' base' spare' held'
   refine ⟨m + 1, ?_⟩
   have e1 : DataW.trod enc P w' base' spare' held' (m + 1) t (Value.agg cs).cells.toList = DataW.trod enc P w base spare held (m + 1) t (Value.agg cs).cells.toList := by
    unfold DataW.trod
    rw [ht]
    simp only [trod_int_same he w' w base' base spare' spare held' held m]
   rw [e1, hf]
   have hp : p = xs.flatMap (·.2) := by simpa using congrArg Prod.snd hx
   have : p = [] := by
    rw [hp, List.flatMap_eq_nil_iff]
    intro x hxm
    obtain ⟨i, hi⟩ := List.getElem?_of_mem hxm
    have hin : i < n := by rw [← hxl]; exact (List.getElem?_eq_some_iff.1 hi).1
    obtain ⟨k, _, _, h2⟩ := each i hin
    rw [hi] at h2
    injection h2 with h2
    rw [h2]
   rw [this]
/-- the row's last step where the call has only made new memory, and the row does not say 'again' -/
theorem post_of_below0 {f : Func} {s : ChangeSpec} {apart fresh handsOn : Bool} {W W' : World} {args : Array Value} {v : Value} {ds gs : List (DataW H)} {before pa pv : List MemPlace}
 (hW : DataW.Whole enc P f.params.toList s.vars apart W args.toList ds gs before)
 (hres : ∀ (b : Nat) (sp : Nat → Bool) (hd : Bool), DataW.TrodAll enc P W' b sp hd f.resultTypes.toList (v.resultList f.resultTypes.size) (s.fn H (ds ++ gs)).results [])
 (hargs : ∀ sp : Nat → Bool, (∀ p ∈ before, sp p.block = true) → DataW.TrodAll enc P W' 0 sp true f.params.toList args.toList (s.fn H (ds ++ gs)).args pa)
 (hvars : ∀ sp : Nat → Bool, (∀ p ∈ before, sp p.block = true) → DataW.TrodVars enc P W' sp s.vars (s.fn H (ds ++ gs)).vars pv)
 (hps : before = pa ++ pv) (hb : Below W.heap.size W W') : s.post enc P f apart fresh handsOn false W args v W' := by
 have held : ∀ p ∈ before, (fun b => decide (b < W.heap.size)) p.block = true := fun p hp => by simpa using hW.lt p hp
 refine ⟨ds, gs, before, [], pa, pv, hW, hres _ _ _, hargs _ held, hvars _ held, ?_, fun h => by cases h⟩
 refine World.keptBut_mono (fun p hp => ⟨hp, .inr ?_⟩) (hb.frame (· ∈ before))
 rw [hps, List.mem_append] at hp
 exact hp
end
end Go.Proofs.Ytobcdekochenfaa
end
section
namespace Go.Proofs.Ytobcdekochenfaa
open Go
def cutW : List Char := [Char.ofNat 99, Char.ofNat 117, Char.ofNat 116]
theorem strip_cut (rest : List (List Char)) : stripLifts liftWords (cutW :: rest) = ([], cutW :: rest) := by
 have key : ∀ os : List String, (os.all fun o => !(cutW == o.toList)) = true → stripLifts os (cutW :: rest) = ([], cutW :: rest) := by
  intro os
  induction os with
  | nil => intro _; rfl
  | cons o os ih =>
   intro h
   simp only [List.all_cons, Bool.and_eq_true, Bool.not_eq_true'] at h
   unfold stripLifts
   rw [h.1]
   exact ih h.2
 exact key _ (by decide +kernel)
theorem make_cut {P : Program} {rest : List (List Char)} (h : behindMainWord (wordsSigns P.initOrder.toList) = cutW :: rest) : P.make = some .cut := by
 unfold Program.make
 rw [h]
 have e1 : (cutW == "gc".toList || cutW == "spec".toList) = false := by decide +kernel
 have e2 : (cutW == "cut".toList) = true := by decide +kernel
 simp only [e1, e2, Bool.true_or]
 rfl
theorem mayEnter_cut {P : Program} {rest : List (List Char)} (h : behindMainWord (wordsSigns P.initOrder.toList) = cutW :: rest) (h1 : P.laysLater = false) (h2 : P.bearsReflect = false) (h3 : P.doorFits [] = true) : P.mayEnter = true := by
 unfold Program.mayEnter
 rw [h]
 have e2 : (some cutW == some "cut".toList) = true := by decide +kernel
 simp only [strip_cut, h1, h2, h3, List.head?_cons, e2]
 simp
theorem lifts_cut {P : Program} {rest : List (List Char)} (h : behindMainWord (wordsSigns P.initOrder.toList) = cutW :: rest) : P.liftsFinal = false := by
 unfold Program.liftsFinal Program.headLifts
 rw [h]
 have e2 : (some cutW == some "cut".toList) = true := by decide +kernel
 have e3 : (some cutW == some "carried".toList) = false := by decide +kernel
 simp only [strip_cut, List.head?_cons, e2, e3]
 simp
/-- the signs of the head, and its words behind the first three -/
def initRest : List (List Nat) := [[97, 116], [108, 111, 111, 112, 46, 101, 120, 97, 109, 112, 108, 101, 47, 103, 48, 49, 50, 52, 53, 47, 108, 97, 119, 115, 46, 70, 110, 69, 120, 97, 99, 116, 80, 111, 119, 101, 114, 83, 117, 109], [108, 111, 111, 112, 46, 101, 120, 97, 109, 112, 108, 101, 47, 103, 48, 49, 50, 52, 53, 47, 108, 97, 119, 115, 46, 70, 110, 69, 120, 97, 99, 116, 68, 105, 103, 105, 116, 83, 117, 109], [108, 111, 111, 112, 46, 101, 120, 97, 109, 112, 108, 101, 47, 103, 48, 49, 50, 52, 53, 47, 108, 97, 119, 115, 46, 70, 110, 69, 120, 97, 99, 116, 83, 104, 105, 102, 116, 101, 100, 83, 117, 109], [108, 111, 111, 112, 46, 101, 120, 97, 109, 112, 108, 101, 47, 103, 48, 49, 50, 52, 53, 47, 108, 97, 119, 115, 46, 70, 110, 69, 120, 97, 99, 116, 70, 105, 114, 115, 116, 86, 97, 110, 105, 115, 104, 105, 110, 103], [108, 111, 111, 112, 46, 101, 120, 97, 109, 112, 108, 101, 47, 103, 48, 49, 50, 52, 53, 47, 108, 97, 119, 115, 46, 70, 110, 69, 120, 97, 99, 116, 80, 111, 119, 101, 114, 79, 102], [108, 111, 111, 112, 46, 101, 120, 97, 109, 112, 108, 101, 47, 103, 48, 49, 50, 52, 53, 47, 108, 97, 119, 115, 46, 70, 110, 69, 120, 97, 99, 116, 90, 101, 116, 97, 65, 116], [108, 111, 111, 112, 46, 101, 120, 97, 109, 112, 108, 101, 47, 103, 48, 49, 50, 52, 53, 47, 108, 97, 119, 115, 46, 70, 110, 69, 120, 97, 99, 116, 78, 101, 115, 116, 101, 100, 83, 117, 109], [108, 111, 111, 112, 46, 101, 120, 97, 109, 112, 108, 101, 47, 103, 48, 49, 50, 52, 53, 47, 108, 97, 119, 115, 46, 70, 110, 69, 120, 97, 99, 116, 81, 117, 97, 100, 114, 97, 116, 105, 99, 83, 121, 109, 98, 111, 108], [108, 111, 111, 112, 46, 101, 120, 97, 109, 112, 108, 101, 47, 103, 48, 49, 50, 52, 53, 47, 108, 97, 119, 115, 46, 70, 110, 69, 120, 97, 99, 116, 83, 121, 109, 98, 111, 108, 83, 117, 109], [108, 111, 111, 112, 46, 101, 120, 97, 109, 112, 108, 101, 47, 103, 48, 49, 50, 52, 53, 47, 108, 97, 119, 115, 46, 70, 110, 69, 120, 97, 99, 116, 83, 121, 109, 98, 111, 108, 80, 111, 108, 121, 110, 111, 109, 105, 97, 108], [108, 111, 111, 112, 46, 101, 120, 97, 109, 112, 108, 101, 47, 103, 48, 49, 50, 52, 53, 47, 108, 97, 119, 115, 46, 70, 110, 69, 120, 97, 99, 116, 67, 108, 97, 115, 115, 83, 117, 109], [108, 111, 111, 112, 46, 101, 120, 97, 109, 112, 108, 101, 47, 103, 48, 49, 50, 52, 53, 47, 108, 97, 119, 115, 46, 70, 110, 69, 120, 97, 99, 116, 65, 114, 101, 73, 115, 111, 109, 111, 114, 112, 104, 105, 99], [108, 111, 111, 112, 46, 101, 120, 97, 109, 112, 108, 101, 47, 103, 48, 49, 50, 52, 53, 47, 108, 97, 119, 115, 46, 70, 110, 69, 120, 97, 99, 116, 68, 114, 105, 110, 102, 101, 108, 100, 65, 99, 116, 105, 111, 110], [108, 111, 111, 112, 46, 101, 120, 97, 109, 112, 108, 101, 47, 103, 48, 49, 50, 52, 53, 47, 108, 97, 119, 115, 46, 70, 110, 69, 120, 97, 99, 116, 67, 111, 109, 112, 97, 110, 105, 111, 110, 79, 102], [108, 111, 111, 112, 46, 101, 120, 97, 109, 112, 108, 101, 47, 103, 48, 49, 50, 52, 53, 47, 108, 97, 119, 115, 46, 70, 110, 69, 120, 97, 99, 116, 65, 112, 112, 108, 121, 83, 113, 117, 97, 114, 101], [108, 111, 111, 112, 46, 101, 120, 97, 109, 112, 108, 101, 47, 103, 48, 49, 50, 52, 53, 47, 108, 97, 119, 115, 46, 70, 110, 69, 120, 97, 99, 116, 76, 111, 103, 97, 114, 105, 116, 104, 109, 79, 102]]
def initSigns : List Nat := [104, 97, 114, 110, 101, 115, 115, 32, 99, 50, 97, 57, 99, 53, 99, 98, 51, 100, 102, 52, 101, 54, 53, 102, 98, 54, 56, 54, 50, 49, 54, 50, 51, 101, 49, 57, 49, 54, 53, 56, 97, 57, 50, 50, 98, 98, 99, 101, 99, 53, 52, 57, 98, 54, 102, 100, 99, 101, 49, 55, 50, 52, 48, 53, 57, 56, 50, 49, 100, 56, 56, 52, 32, 99, 117, 116] ++ initRest.flatMap fun x => 32 :: x
theorem init_split : behindMainWord (wordsSigns (initSigns.map Char.ofNat)) = cutW :: initRest.map (fun w => w.map Char.ofNat) := by kernel_rfl
theorem init_order : Try.prog.initOrder = String.ofList (initSigns.map Char.ofNat) := by kernel_rfl
theorem init_cut : behindMainWord (wordsSigns Try.prog.initOrder.toList) = cutW :: initRest.map (fun w => w.map Char.ofNat) :=
 (congrArg (fun s : String => behindMainWord (wordsSigns s.toList)) init_order).trans ((congrArg (fun l => behindMainWord (wordsSigns l)) String.toList_ofList).trans init_split)
theorem Try.laysLater : Try.prog.laysLater = false := by kernel_rfl
theorem Try.bearsReflect : Try.prog.bearsReflect = false := by kernel_rfl
theorem Try.doorFits : Try.prog.doorFits [] = true := by kernel_rfl
theorem Try.mayEnter : Try.pinned.checked.prog.mayEnter = true := mayEnter_cut init_cut Try.laysLater Try.bearsReflect Try.doorFits
theorem Try.liftsFinal : Try.pinned.checked.prog.liftsFinal = false := lifts_cut init_cut
theorem Try.make : Try.pinned.checked.prog.make = some .cut := make_cut init_cut
end Go.Proofs.Ytobcdekochenfaa
end
