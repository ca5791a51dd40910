/-
  Walks: powers modulo a polynomial behind their checks.
-/
import Derived.Test.YtpeehpaghdddgaaW34
namespace Go.Proofs.Ytpeehpaghdddgaa
open Go.RowKit
set_option linter.unusedVariables false
set_option linter.unusedSimpArgs false
attribute [local irreducible] deg invN dS qS stp stpr quoP resP oneP upP upF hmR mmP shA addK pgR mmC pmI pmP
theorem pmI_pmP {p k : Nat} {a m : Nat → Nat} (hp : p = 2 ∨ p = 3 ∨ p = 5 ∨ p = 7) (ha : ∀ i, i < 64 → a i < p) (hm : ∀ k, k < 64 → m k < p) (h0 : 0 ≤ deg m) (hk : k < 2 ^ 64) : ∀ i, i < 64 → pmI p a k m i = pmP p a k m i :=
  res_sameN hp (fun i hi => pmI_lt (by omega) i hi) (pmP_spec hp ha hm h0 hk).1 hm h0 (pmI_spec hp hm h0 hk).1 (pmP_spec hp ha hm h0 hk).2.1 (rm_trans (pmI_spec hp hm h0 hk).2 (rm_symm (pmP_spec hp ha hm h0 hk).2.2))
theorem powMod_any (p : Nat) (f : Nat → Nat) (k0 : Nat) (m : Nat → Nat) (bp bm : Nat) (w : World) (hpr : p = 2 ∨ p = 3 ∨ p = 5 ∨ p = 7) (lf : ∀ k, k < 64 → f k < p) (lm : ∀ k, k < 64 → m k < p) (h0 : 0 ≤ deg m) (hk0 : (k0 : Int) ≤ 1000000000000)
    (B0 : One w bp 2 (.int .i64 (p : Int))) (B1 : Blk w bm 64 26 m) :
    Calls Try.prog 87 #[.agg (bcells 64 f), .int .i64 (k0 : Int), .func (.func 137) #[] #[.pointer (some ⟨bp, 0, none⟩), .pointer (some ⟨bm, 0, none⟩)]] w fun e w' => e = .returned (.agg (bcells 64 (pgR (mmC p m) 64 k0 oneP f))) ∧ Below w.heap.size w w' := by
  have p0 : 0 < p := by omega
  have key : ∀ (x y : Nat → Nat) W, (∀ i, i < 64 → x i < p) → (∀ i, i < 64 → y i < p) → Below w.heap.size w W → Calls Try.prog 137 #[.agg (bcells 64 x), .agg (bcells 64 y), .pointer (some ⟨bp, 0, none⟩), .pointer (some ⟨bm, 0, none⟩)] W fun e w' => e = .returned (.agg (bcells 64 (mmC p m x y))) ∧ Below W.heap.size W w' := by
    intro x y W hx hy hB
    have := timesMod_any p (cut x) (cut y) m bp bm W hpr (fun k hk => by rw [cut_in _ hk]; exact hx k hk) (fun k hk => by rw [cut_in _ hk]; exact hy k hk) lm h0 (B0.below hB B0.lt) (B1.below hB B1.lt)
    rw [bcells_cut, bcells_cut] at this
    unfold mmC
    exact this
  exact powerMod (mmC p m) (fun _ r s => (∀ i, i < 64 → r i < p) ∧ ∀ i, i < 64 → s i < p) _ _ f k0 w
    (Lib.hid fun k r s W hP _ hB => key r s W hP.1 hP.2 hB) (Lib.hid fun k r s W hP _ hB => key s s W hP.2 hP.2 hB)
    (Lib.hid fun k r s hP _ => ⟨fun i hi => by
      by_cases h : k % 2 = 1
      · rw [if_pos h]; exact mmC_lt p0 m r s i hi
      · rw [if_neg h]; exact hP.1 i hi, mmC_lt p0 m s s⟩)
    (Lib.hid fun x y h => by unfold mmC; rw [cut_eq h]) (Lib.hid fun k r s hP i hi => by have := hP.2 i hi; omega) (fun _ => ⟨fun i _ => by unfold oneP; split <;> omega, lf⟩) hk0
set_option maxRecDepth 100000 in
set_option maxHeartbeats 1600000 in
theorem powerModulo_any (p : Nat) (f : Nat → Nat) (k0 : Nat) (m : Nat → Nat) (w : World) (hpr : p = 2 ∨ p = 3 ∨ p = 5 ∨ p = 7) (lf : ∀ k, k < 64 → f k < p) (lm : ∀ k, k < 64 → m k < p) (h0 : 0 ≤ deg m) (hk0 : (k0 : Int) ≤ 1000000000000) :
    Calls Try.prog 89 #[.int .i64 (p : Int), .agg (bcells 64 f), .int .i64 (k0 : Int), .agg (bcells 64 m)] w fun e w' => e = .returned (.agg (bcells 64 (pmP p f k0 m))) ∧ Below w.heap.size w w' := by
  have p0 : 0 < p := by omega
  have HE := Lib.hid (show bcells 64 (resP p (pgR (mmC p m) 64 k0 oneP f) m) = bcells 64 (pmP p f k0 m) from bcells_congr (by
    have := pmI_pmP (k := k0) hpr lf lm h0 (by have h6 : (1000000000000 : Nat) < 2 ^ 64 := (by decide); omega)
    unfold pmI at this; exact this))
  have HPW := Lib.hid (fun bp bm W => powMod_any p f k0 m bp bm W hpr lf lm h0 hk0)
  have HRO := Lib.hid (fun W => restOf_any p (pgR (mmC p m) 64 k0 oneP f) m W hpr (pgR_lt (mmC_lt p0 m) 64 k0 oneP f (fun i _ => by unfold oneP; split <;> omega)) lm h0)
  have hmf : ∀ (fn : Fn) (first cap : Array Value) (w : World), (Instr.makeFunc fn first cap).run Try.prog w = .ok (.func fn first cap) w := fun _ _ _ _ => rfl
  go_enter Try.func89, Try.ntmps89
  go_upto_region 1 with (fail)
  rw [← zero64]
  obtain ⟨W1, hwo⟩ : ∃ v : World, v = ((((w.alloc (.cells #[(.int .i64 (p : Int))] 2)).alloc (.cells (bcells 64 (f)) 26)).alloc (.cells (bcells 64 (m)) 26)).alloc (.cells (bcells 64 fun _ => 0) 26)) := ⟨_, rfl⟩
  have B0 : One W1 (w.heap.size) 2 (.int .i64 (p : Int)) := by subst hwo; have := ((((One.new w 2 (.int .i64 (p : Int))).alloc (.cells (bcells 64 (f)) 26)).alloc (.cells (bcells 64 (m)) 26)).alloc (.cells (bcells 64 fun _ => 0) 26)); simpa using this
  have B1 : Blk W1 (w.heap.size + 1) 64 26 (f) := by subst hwo; have := (((Blk.new (w.alloc (.cells #[(.int .i64 (p : Int))] 2)) 64 26 (f)).alloc (.cells (bcells 64 (m)) 26)).alloc (.cells (bcells 64 fun _ => 0) 26)); simpa using this
  have B2 : Blk W1 (w.heap.size + 1 + 1) 64 26 (m) := by subst hwo; have := ((Blk.new ((w.alloc (.cells #[(.int .i64 (p : Int))] 2)).alloc (.cells (bcells 64 (f)) 26)) 64 26 (m)).alloc (.cells (bcells 64 fun _ => 0) 26)); simpa using this
  have B3 : Blk W1 (w.heap.size + 1 + 1 + 1) 64 26 (fun _ => 0) := by subst hwo; have := (Blk.new (((w.alloc (.cells #[(.int .i64 (p : Int))] 2)).alloc (.cells (bcells 64 (f)) 26)).alloc (.cells (bcells 64 (m)) 26)) 64 26 (fun _ => 0)); simpa using this
  have hb : Below w.heap.size w W1 := by subst hwo; exact (((((Below.refl _ _).alloc (Nat.le_refl _) _).alloc (by simp) _).alloc (by simp; omega) _).alloc (by simp; omega) _)
  rw [← hwo]
  clear hwo
  go_upto_region 2 with (fail)
  clear hmf
  have lt_B0 : (w.heap.size) < W1.heap.size := B0.lt
  have lt_B1 : (w.heap.size + 1) < W1.heap.size := B1.lt
  have lt_B2 : (w.heap.size + 1 + 1) < W1.heap.size := B2.lt
  have lt_B3 : (w.heap.size + 1 + 1 + 1) < W1.heap.size := B3.lt
  have hbase : w.heap.size ≤ W1.heap.size := hb.size
  refine wp_region_steps0 Try.mixed (by kernel_rfl) (by kernel_rfl) (fun v => by (simp only [frL, Act.put, List.setIfInBounds_toArray, List.set_cons_zero, List.set_cons_succ, Nat.reduceAdd, Nat.zero_add]; exact rfl))
    (fun L v W2 => Below w.heap.size w W2 ∧ W1.heap.size ≤ W2.heap.size ∧ One W2 (w.heap.size) 2 (.int .i64 (p : Int)) ∧ Blk W2 (w.heap.size + 1) 64 26 (f) ∧ Blk W2 (w.heap.size + 1 + 1) 64 26 (m) ∧ (∃ g, Blk W2 (w.heap.size + 1 + 1 + 1) 64 26 (g)) ∧ (L 7 = false → Blk W2 (w.heap.size + 1 + 1 + 1) 64 26 (fun _ => 0)) ∧ (L 7 = true → Blk W2 (w.heap.size + 1 + 1 + 1) 64 26 (resP p (pgR (mmC p m) 64 k0 oneP f) m)) ∧ (L 0 = true → v 0 = (.int .i64 (p : Int))) ∧ (L 1 = true → v 1 = (.agg (bcells 64 (f)))) ∧ (L 2 = true → v 2 = (.int .i64 (k0 : Int))) ∧ (L 3 = true → v 3 = (.func (.func 137) #[] #[(.pointer (some ⟨w.heap.size, 0, none⟩)), (.pointer (some ⟨w.heap.size + 1 + 1, 0, none⟩))])) ∧ (L 4 = true → v 4 = (.agg (bcells 64 (pgR (mmC p m) 64 k0 oneP f)))) ∧ (L 5 = true → v 5 = (.agg (bcells 64 (m)))) ∧ (L 6 = true → v 6 = (.agg (bcells 64 (resP p (pgR (mmC p m) 64 k0 oneP f) m))))) ?_ ?_ ?_
  · intro v hv0
    exact ⟨hb.drew, Nat.le_refl _, B0.drew, B1.drew, B2.drew, ⟨_, B3.drew⟩, (fun _ => B3.drew), (fun h => by cases h), (fun h => by cases h), (fun h => by cases h), (fun h => by cases h), (fun h => by cases h), (fun h => by cases h), (fun h => by cases h), (fun h => by cases h)⟩
  · refine (.cons rfl ?_ (.cons rfl ?_ (.cons rfl ?_ (.cons rfl ?_ (.cons rfl ?_ (.cons rfl ?_ (.cons rfl ?_ (.cons rfl ?_ (.nil _)))))))))
    · intro L v W2 hd hn ⟨hB, hz, s0, s1, s2, x3, q3, n3, h0, h1, h2, h3, h4, h5, h6⟩ K hK
      refine wp_load_one 2 _ rfl _ rfl 2 _ s0 _ Try.underlying2 rfl ?_
      exact hK _ _ _ rfl ⟨hB, hz, s0, s1, s2, x3, q3, n3, (fun _ => rfl), h1, h2, h3, h4, h5, h6⟩
    · intro L v W2 hd hn ⟨hB, hz, s0, s1, s2, x3, q3, n3, h0, h1, h2, h3, h4, h5, h6⟩ K hK
      refine wp_load_any 26 _ rfl _ rfl 64 26 _ s1 _ Try.underlying26 rfl Try.size26 ?_
      exact hK _ _ _ rfl ⟨hB, hz, s0, s1, s2, x3, q3, n3, h0, (fun _ => rfl), h2, h3, h4, h5, h6⟩
    · intro L v W2 hd hn ⟨hB, hz, s0, s1, s2, x3, q3, n3, h0, h1, h2, h3, h4, h5, h6⟩ K hK
      go_wp2_with fail
      exact hK _ (.int .i64 (k0 : Int)) _ (by simp only [Act.put, List.setIfInBounds_toArray, List.set_cons_zero, List.set_cons_succ ]) ⟨hB, hz, s0, s1, s2, x3, q3, n3, h0, h1, (fun _ => rfl), h3, h4, h5, h6⟩
    · intro L v W2 hd hn ⟨hB, hz, s0, s1, s2, x3, q3, n3, h0, h1, h2, h3, h4, h5, h6⟩ K hK
      go_wp2_with fail
      exact hK _ (.func (.func 137) #[] #[(.pointer (some ⟨w.heap.size, 0, none⟩)), (.pointer (some ⟨w.heap.size + 1 + 1, 0, none⟩))]) _ (by simp only [Act.put, List.setIfInBounds_toArray, List.set_cons_zero, List.set_cons_succ ]) ⟨hB, hz, s0, s1, s2, x3, q3, n3, h0, h1, h2, (fun _ => rfl), h4, h5, h6⟩
    · intro L v W2 hd hn ⟨hB, hz, s0, s1, s2, x3, q3, n3, h0, h1, h2, h3, h4, h5, h6⟩ K hK
      have e1 := h1 (hd ⟨1, .data⟩ (by simp) rfl)
      have e2 := h2 (hd ⟨2, .data⟩ (by simp) rfl)
      have e3 := h3 (hd ⟨3, .data⟩ (by simp) rfl)
      go_wp2_with (go_at_call 87; refine (HPW.out _ _ _ s0 s2).mono ?_; rintro e wy ⟨rfl, hy⟩)
      exact hK _ (.agg (bcells 64 (pgR (mmC p m) 64 k0 oneP f))) _ (by simp only [Act.put, List.setIfInBounds_toArray, List.set_cons_zero, List.set_cons_succ, e1, e2, e3]) ⟨hB.trans (hy.mono hB.size), (Nat.le_trans hz hy.size), (s0).below hy (s0).lt, (s1).below hy (s1).lt, (s2).below hy (s2).lt, (let ⟨g, h⟩ := x3; ⟨g, (h).below hy (h).lt⟩), (fun h => (q3 h).below hy (q3 h).lt), (fun h => (n3 h).below hy (n3 h).lt), h0, h1, h2, h3, (fun _ => rfl), h5, h6⟩
    · intro L v W2 hd hn ⟨hB, hz, s0, s1, s2, x3, q3, n3, h0, h1, h2, h3, h4, h5, h6⟩ K hK
      refine wp_load_any 26 _ rfl _ rfl 64 26 _ s2 _ Try.underlying26 rfl Try.size26 ?_
      exact hK _ _ _ rfl ⟨hB, hz, s0, s1, s2, x3, q3, n3, h0, h1, h2, h3, h4, (fun _ => rfl), h6⟩
    · intro L v W2 hd hn ⟨hB, hz, s0, s1, s2, x3, q3, n3, h0, h1, h2, h3, h4, h5, h6⟩ K hK
      have e0 := h0 (hd ⟨0, .data⟩ (by simp) rfl)
      have e4 := h4 (hd ⟨4, .data⟩ (by simp) rfl)
      have e5 := h5 (hd ⟨5, .data⟩ (by simp) rfl)
      go_wp2_with (go_at_call 117; refine (HRO.out _).mono ?_; rintro e wy ⟨rfl, hy⟩)
      exact hK _ (.agg (bcells 64 (resP p (pgR (mmC p m) 64 k0 oneP f) m))) _ (by simp only [Act.put, List.setIfInBounds_toArray, List.set_cons_zero, List.set_cons_succ, e0, e4, e5]) ⟨hB.trans (hy.mono hB.size), (Nat.le_trans hz hy.size), (s0).below hy (s0).lt, (s1).below hy (s1).lt, (s2).below hy (s2).lt, (let ⟨g, h⟩ := x3; ⟨g, (h).below hy (h).lt⟩), (fun h => (q3 h).below hy (q3 h).lt), (fun h => (n3 h).below hy (n3 h).lt), h0, h1, h2, h3, h4, h5, (fun _ => rfl)⟩
    · intro L v W2 hd hn ⟨hB, hz, s0, s1, s2, x3, q3, n3, h0, h1, h2, h3, h4, h5, h6⟩ K hK
      have e6 := h6 (hd ⟨6, .data⟩ (by simp) rfl)
      obtain ⟨gz, hk⟩ := x3
      refine wp_store_blk 26 _ _ rfl _ 64 (resP p (pgR (mmC p m) 64 k0 oneP f) m) rfl e6 26 gz hk Try.size26 ?_
      exact hK _ undef _ rfl ⟨below_row hB (by omega) _, (by simpa [World.setRow] using hz), (s0).rowOther (by omega), (s1).rowOther (by omega), (s2).rowOther (by omega), ⟨_, hk.row _⟩, (fun h => absurd h (by simp [setL])), (fun _ => hk.row _), h0, h1, h2, h3, h4, h5, h6⟩
  · intro L v W2 hL ⟨hB, hz, s0, s1, s2, x3, q3, n3, h0, h1, h2, h3, h4, h5, h6⟩
    have r3 := n3 (hL 7 (by decide))
    have e0 := h0 (hL 0 (by decide))
    have e1 := h1 (hL 1 (by decide))
    have e2 := h2 (hL 2 (by decide))
    have e3 := h3 (hL 3 (by decide))
    have e4 := h4 (hL 4 (by decide))
    have e5 := h5 (hL 5 (by decide))
    have e6 := h6 (hL 6 (by decide))
    clear hL x3 q3 n3 h0 h1 h2 h3 h4 h5 h6
    simp only [Exit.then, e0, e1, e2, e3, e4, e5, e6]
    clear e0 e1 e2 e3 e4 e5 e6
    clear B0
    have B0 := s0
    clear s0
    clear B1
    have B1 := s1
    clear s1
    clear B2
    have B2 := s2
    clear s2
    clear B3
    have B3 := r3
    clear r3
    clear hb
    have hb := hB
    clear hB
    clear hbase hz lt_B0 lt_B1 lt_B2 lt_B3
    go_wp2_with fail
    refine bodyPost_ret (results_blk rfl _ _ _ 64 26 5 _ rfl B3 Try.underlying26 Try.size26) rfl ⟨by rw [HE.out], hb⟩
/-- both answers -/
def pwV (p : Int) (f : Nat → Nat) (k : Int) (m : Nat → Nat) : (Nat → Nat) × Int := if codeL p [f, m] = 0 then (if 0 ≤ k ∧ k ≤ 1000000000000 then (if deg m < 0 then (fun _ => 0, 5) else (pmP p.toNat f k.toNat m, 0)) else (fun _ => 0, 2)) else (fun _ => 0, 1)
theorem pwV_1 {p k : Int} {f m : Nat → Nat} (h : codeL p [f, m] = 1) : pwV p f k m = (fun _ => 0, 1) := by unfold pwV; rw [if_neg (by omega)]
theorem pwV_2 {p k : Int} {f m : Nat → Nat} (h : codeL p [f, m] = 0) (h2 : ¬ (0 ≤ k ∧ k ≤ 1000000000000)) : pwV p f k m = (fun _ => 0, 2) := by unfold pwV; rw [if_pos h, if_neg h2]
theorem pwV_5 {p k : Int} {f m : Nat → Nat} (h : codeL p [f, m] = 0) (h2 : 0 ≤ k ∧ k ≤ 1000000000000) (h3 : deg m < 0) : pwV p f k m = (fun _ => 0, 5) := by unfold pwV; rw [if_pos h, if_pos h2, if_pos h3]
theorem pwV_0 {n k : Nat} {f m : Nat → Nat} (h : codeL (n : Int) [f, m] = 0) (h2 : 0 ≤ (k : Int) ∧ (k : Int) ≤ 1000000000000) (h3 : ¬ deg m < 0) : pwV (n : Int) f (k : Int) m = (pmP n f k m, 0) := by
  unfold pwV; rw [if_pos h, if_pos h2, if_neg h3]; rfl
set_option maxRecDepth 100000 in
set_option maxHeartbeats 1600000 in
theorem impl_PowerModulo_any (p : Int) (f : Nat → Nat) (k : Int) (m : Nat → Nat) (hf : byte f) (hm : byte m) (w : World) :
    Calls Try.prog 33 #[.int .i64 p, .agg (bcells 64 f), .int .i64 k, .agg (bcells 64 m)] w fun e w' => e = .returned (.tuple #[.agg (bcells 64 (pwV p f k m).1), .int .i64 (pwV p f k m).2]) ∧ Below w.heap.size w w' := by
  go_enter Try.func33, Try.ntmps33
  go_upto_region 1 with (fail)
  rw [← zero64]
  obtain ⟨W1, hwo⟩ : ∃ v : World, v = (((w.alloc (.cells (bcells 64 (f)) 26)).alloc (.cells (bcells 64 (m)) 26)).alloc (.cells (bcells 64 fun _ => 0) 26)) := ⟨_, rfl⟩
  have B0 : Blk W1 (w.heap.size) 64 26 (f) := by subst hwo; have := (((Blk.new w 64 26 (f)).alloc (.cells (bcells 64 (m)) 26)).alloc (.cells (bcells 64 fun _ => 0) 26)); simpa using this
  have B1 : Blk W1 (w.heap.size + 1) 64 26 (m) := by subst hwo; have := ((Blk.new (w.alloc (.cells (bcells 64 (f)) 26)) 64 26 (m)).alloc (.cells (bcells 64 fun _ => 0) 26)); simpa using this
  have B2 : Blk W1 (w.heap.size + 1 + 1) 64 26 (fun _ => 0) := by subst hwo; have := (Blk.new ((w.alloc (.cells (bcells 64 (f)) 26)).alloc (.cells (bcells 64 (m)) 26)) 64 26 (fun _ => 0)); simpa using this
  have hb : Below w.heap.size w W1 := by subst hwo; exact ((((Below.refl _ _).alloc (Nat.le_refl _) _).alloc (by simp) _).alloc (by simp; omega) _)
  rw [← hwo]
  clear hwo
  go_upto_region 2 with (first | (refine wpList_load_any rfl 26 (.tmp 5) rfl _ rfl 64 26 _ B0 _ Try.underlying26 rfl Try.size26 ?_) | (refine wpList_load_any rfl 26 (.tmp 7) rfl _ rfl 64 26 _ B1 _ Try.underlying26 rfl Try.size26 ?_) | (refine wpList_build_polys rfl 37 _ [f, m] rfl 26 rfl Try.underlying37 Try.elem26 (by simp) (by simp) rfl ?_; intro wa hwa hps hba; clear hwa) | (go_at_call 79; refine (checkPolys_any p [f, m] (by simp [hf, hm]) _ _ hps (by simp)).mono ?_; rintro e W2 ⟨rfl, hbb⟩))
  have hBB : Below W1.heap.size W1 W2 := hba.trans (hbb.mono hba.size)
  replace B0 := B0.below hBB B0.lt
  replace B1 := B1.below hBB B1.lt
  replace B2 := B2.below hBB B2.lt
  replace hb := hb.trans (hBB.mono hb.size)
  clear hBB hba hbb hps
  rcases codeL_two p [f, m] with hc | hc
  · obtain ⟨n, hn, n2, n7⟩ := okP_nat (codeL_zero hc).1
    subst hn
    have lf := lt_of_code hc (f := f) (by simp)
    have lm := lt_of_code hc (f := m) (by simp)
    have hpr := prime_of hc
    by_cases hr : 0 ≤ k ∧ k ≤ 1000000000000
    · obtain ⟨k, rfl⟩ : ∃ j : Nat, k = (j : Int) := ⟨k.toNat, by omega⟩
      have hr1 := hr.1; have hr2 := hr.2
      by_cases hz : deg m < 0
      · have HV := Lib.hid (pwV_5 hc hr hz)
        have hgd := Try.noGuard26
        have heq := fun W => run_equalIn_bytes (P := Try.prog) W 9998 26 5 64 m (fun _ => 0) Try.underlying26 Try.underlying5 Try.size5
        rw [eqN_zero, show decide (deg m < 0) = true by simp; omega] at heq
        simp only [zero64] at heq
        rw [hc]
        clear hc hr
        go_upto_region 6 with (fail)
        go_upto_region 7 with (first | (refine wpList_load_any rfl 26 (.tmp 7) rfl _ rfl 64 26 _ (B1) _ Try.underlying26 rfl Try.size26 ?_))
        clear heq hgd
        have lt_B0 := B0.lt
        have lt_B1 := B1.lt
        have lt_B2 := B2.lt
        go_wp2_with (first | rw [← zero64] | (refine wpList_store_blk rfl 26 (.tmp 8) (.tmp 30) rfl _ 64 (fun _ => 0) rfl rfl 26 _ (B2) Try.size26 ?_; try simp only [Act.put]; go_wp2_with fail))
        have qB0 : Blk (W2.setRow (w.heap.size + 1 + 1) (bcells 64 (fun _ => 0))) (w.heap.size) 64 26 (f) := (B0.rowOther (by omega))
        have qB1 : Blk (W2.setRow (w.heap.size + 1 + 1) (bcells 64 (fun _ => 0))) (w.heap.size + 1) 64 26 (m) := (B1.rowOther (by omega))
        have qB2 : Blk (W2.setRow (w.heap.size + 1 + 1) (bcells 64 (fun _ => 0))) (w.heap.size + 1 + 1) 64 26 (fun _ => 0) := (B2.row (fun _ => 0))
        have qhb : Below w.heap.size w (W2.setRow (w.heap.size + 1 + 1) (bcells 64 (fun _ => 0))) := (below_row hb (by omega) _)
        obtain ⟨W3, hwo⟩ : ∃ v : World, v = (W2.setRow (w.heap.size + 1 + 1) (bcells 64 (fun _ => 0))) := ⟨_, rfl⟩
        rw [← hwo] at qB0 qB1 qB2 qhb ⊢
        clear hwo
        clear B0 B1 B2 hb
        have B0 := qB0
        have B1 := qB1
        have B2 := qB2
        have hb := qhb
        clear qB0 qB1 qB2 qhb
        try simp only [Act.put, List.setIfInBounds_toArray, List.set_cons_zero, List.set_cons_succ]
        refine bodyPost_ret (results_bt rfl _ _ _ 64 26 5 _ rfl B2 Try.underlying26 Try.size26) rfl ⟨by first | (rw [HV.out]; rfl) | rw [HV.out], hb⟩
      · have HV := Lib.hid (pwV_0 hc hr hz)
        have HP := Lib.hid (fun W => powerModulo_any n f k m W hpr lf lm (by omega) hr2)
        have hgd := Try.noGuard26
        have heq := fun W => run_equalIn_bytes (P := Try.prog) W 9998 26 5 64 m (fun _ => 0) Try.underlying26 Try.underlying5 Try.size5
        rw [eqN_zero, show decide (deg m < 0) = false by simp; omega] at heq
        simp only [zero64] at heq
        rw [hc]
        clear hc hr
        go_upto_region 6 with (fail)
        go_upto_region 8 with (first | (refine wpList_load_any rfl 26 (.tmp 7) rfl _ rfl 64 26 _ (B1) _ Try.underlying26 rfl Try.size26 ?_))
        clear heq hgd
        have lt_B0 := B0.lt
        have lt_B1 := B1.lt
        have lt_B2 := B2.lt
        go_wp2_with (first | rw [← zero64] | (refine wpList_load_any rfl 26 (.tmp 5) rfl _ rfl 64 26 _ (B0) _ Try.underlying26 rfl Try.size26 ?_) | (refine wpList_load_any rfl 26 (.tmp 7) rfl _ rfl 64 26 _ (B1) _ Try.underlying26 rfl Try.size26 ?_) | (go_at_call 89; refine (HP.out _).mono ?_; rintro e W3 ⟨rfl, hW3⟩; replace B0 := B0.below hW3 B0.lt; replace B1 := B1.below hW3 B1.lt; replace B2 := B2.below hW3 B2.lt; replace hb := (hb).trans (hW3.mono (hb).size)) | (refine wpList_store_blk rfl 26 (.tmp 8) (.tmp 35) rfl _ 64 (pmP n f k m) rfl rfl 26 _ (B2) Try.size26 ?_; try simp only [Act.put]; go_wp2_with fail))
        have qB0 : Blk (W3.setRow (w.heap.size + 1 + 1) (bcells 64 (pmP n f k m))) (w.heap.size) 64 26 (f) := (B0.rowOther (by omega))
        have qB1 : Blk (W3.setRow (w.heap.size + 1 + 1) (bcells 64 (pmP n f k m))) (w.heap.size + 1) 64 26 (m) := (B1.rowOther (by omega))
        have qB2 : Blk (W3.setRow (w.heap.size + 1 + 1) (bcells 64 (pmP n f k m))) (w.heap.size + 1 + 1) 64 26 (pmP n f k m) := (B2.row (pmP n f k m))
        have qhb : Below w.heap.size w (W3.setRow (w.heap.size + 1 + 1) (bcells 64 (pmP n f k m))) := (below_row hb (by omega) _)
        obtain ⟨W4, hwo⟩ : ∃ v : World, v = (W3.setRow (w.heap.size + 1 + 1) (bcells 64 (pmP n f k m))) := ⟨_, rfl⟩
        rw [← hwo] at qB0 qB1 qB2 qhb ⊢
        clear hwo
        clear B0 B1 B2 hb
        have B0 := qB0
        have B1 := qB1
        have B2 := qB2
        have hb := qhb
        clear qB0 qB1 qB2 qhb
        try simp only [Act.put, List.setIfInBounds_toArray, List.set_cons_zero, List.set_cons_succ]
        refine bodyPost_ret (results_bt rfl _ _ _ 64 26 5 _ rfl B2 Try.underlying26 Try.size26) rfl ⟨by first | (rw [HV.out]; rfl) | rw [HV.out], hb⟩
    · have HV := Lib.hid (pwV_2 hc hr)
      rw [hc]
      clear hc
      by_cases h1 : k < 0
      · clear hr
        go_upto_region 5 with (fail)
        have lt_B0 := B0.lt
        have lt_B1 := B1.lt
        have lt_B2 := B2.lt
        go_wp2_with (first | rw [← zero64] | (refine wpList_store_blk rfl 26 (.tmp 8) (.tmp 26) rfl _ 64 (fun _ => 0) rfl rfl 26 _ (B2) Try.size26 ?_; try simp only [Act.put]; go_wp2_with fail))
        have qB0 : Blk (W2.setRow (w.heap.size + 1 + 1) (bcells 64 (fun _ => 0))) (w.heap.size) 64 26 (f) := (B0.rowOther (by omega))
        have qB1 : Blk (W2.setRow (w.heap.size + 1 + 1) (bcells 64 (fun _ => 0))) (w.heap.size + 1) 64 26 (m) := (B1.rowOther (by omega))
        have qB2 : Blk (W2.setRow (w.heap.size + 1 + 1) (bcells 64 (fun _ => 0))) (w.heap.size + 1 + 1) 64 26 (fun _ => 0) := (B2.row (fun _ => 0))
        have qhb : Below w.heap.size w (W2.setRow (w.heap.size + 1 + 1) (bcells 64 (fun _ => 0))) := (below_row hb (by omega) _)
        obtain ⟨W3, hwo⟩ : ∃ v : World, v = (W2.setRow (w.heap.size + 1 + 1) (bcells 64 (fun _ => 0))) := ⟨_, rfl⟩
        rw [← hwo] at qB0 qB1 qB2 qhb ⊢
        clear hwo
        clear B0 B1 B2 hb
        have B0 := qB0
        have B1 := qB1
        have B2 := qB2
        have hb := qhb
        clear qB0 qB1 qB2 qhb
        try simp only [Act.put, List.setIfInBounds_toArray, List.set_cons_zero, List.set_cons_succ]
        refine bodyPost_ret (results_bt rfl _ _ _ 64 26 5 _ rfl B2 Try.underlying26 Try.size26) rfl ⟨by first | (rw [HV.out]; rfl) | rw [HV.out], hb⟩
      · have h2 : 1000000000000 < k := by omega
        clear hr
        go_upto_region 5 with (fail)
        have lt_B0 := B0.lt
        have lt_B1 := B1.lt
        have lt_B2 := B2.lt
        go_wp2_with (first | rw [← zero64] | (refine wpList_store_blk rfl 26 (.tmp 8) (.tmp 26) rfl _ 64 (fun _ => 0) rfl rfl 26 _ (B2) Try.size26 ?_; try simp only [Act.put]; go_wp2_with fail))
        have qB0 : Blk (W2.setRow (w.heap.size + 1 + 1) (bcells 64 (fun _ => 0))) (w.heap.size) 64 26 (f) := (B0.rowOther (by omega))
        have qB1 : Blk (W2.setRow (w.heap.size + 1 + 1) (bcells 64 (fun _ => 0))) (w.heap.size + 1) 64 26 (m) := (B1.rowOther (by omega))
        have qB2 : Blk (W2.setRow (w.heap.size + 1 + 1) (bcells 64 (fun _ => 0))) (w.heap.size + 1 + 1) 64 26 (fun _ => 0) := (B2.row (fun _ => 0))
        have qhb : Below w.heap.size w (W2.setRow (w.heap.size + 1 + 1) (bcells 64 (fun _ => 0))) := (below_row hb (by omega) _)
        obtain ⟨W3, hwo⟩ : ∃ v : World, v = (W2.setRow (w.heap.size + 1 + 1) (bcells 64 (fun _ => 0))) := ⟨_, rfl⟩
        rw [← hwo] at qB0 qB1 qB2 qhb ⊢
        clear hwo
        clear B0 B1 B2 hb
        have B0 := qB0
        have B1 := qB1
        have B2 := qB2
        have hb := qhb
        clear qB0 qB1 qB2 qhb
        try simp only [Act.put, List.setIfInBounds_toArray, List.set_cons_zero, List.set_cons_succ]
        refine bodyPost_ret (results_bt rfl _ _ _ 64 26 5 _ rfl B2 Try.underlying26 Try.size26) rfl ⟨by first | (rw [HV.out]; rfl) | rw [HV.out], hb⟩
  · have HV := Lib.hid (pwV_1 (k := k) hc)
    rw [hc]
    clear hc
    go_upto_region 3 with (fail)
    have lt_B0 := B0.lt
    have lt_B1 := B1.lt
    have lt_B2 := B2.lt
    go_wp2_with (first | rw [← zero64] | (refine wpList_store_blk rfl 26 (.tmp 8) (.tmp 18) rfl _ 64 (fun _ => 0) rfl rfl 26 _ (B2) Try.size26 ?_; try simp only [Act.put]; go_wp2_with fail))
    have qB0 : Blk (W2.setRow (w.heap.size + 1 + 1) (bcells 64 (fun _ => 0))) (w.heap.size) 64 26 (f) := (B0.rowOther (by omega))
    have qB1 : Blk (W2.setRow (w.heap.size + 1 + 1) (bcells 64 (fun _ => 0))) (w.heap.size + 1) 64 26 (m) := (B1.rowOther (by omega))
    have qB2 : Blk (W2.setRow (w.heap.size + 1 + 1) (bcells 64 (fun _ => 0))) (w.heap.size + 1 + 1) 64 26 (fun _ => 0) := (B2.row (fun _ => 0))
    have qhb : Below w.heap.size w (W2.setRow (w.heap.size + 1 + 1) (bcells 64 (fun _ => 0))) := (below_row hb (by omega) _)
    obtain ⟨W3, hwo⟩ : ∃ v : World, v = (W2.setRow (w.heap.size + 1 + 1) (bcells 64 (fun _ => 0))) := ⟨_, rfl⟩
    rw [← hwo] at qB0 qB1 qB2 qhb ⊢
    clear hwo
    clear B0 B1 B2 hb
    have B0 := qB0
    have B1 := qB1
    have B2 := qB2
    have hb := qhb
    clear qB0 qB1 qB2 qhb
    try simp only [Act.put, List.setIfInBounds_toArray, List.set_cons_zero, List.set_cons_succ]
    refine bodyPost_ret (results_bt rfl _ _ _ 64 26 5 _ rfl B2 Try.underlying26 Try.size26) rfl ⟨by first | (rw [HV.out]; rfl) | rw [HV.out], hb⟩
set_option maxRecDepth 100000 in
set_option maxHeartbeats 1600000 in
theorem spec_PowerModulo_any (p : Int) (f : Nat → Nat) (k : Int) (m : Nat → Nat) (hf : byte f) (hm : byte m) (w : World) :
    Calls Try.prog 32 #[.int .i64 p, .agg (bcells 64 f), .int .i64 k, .agg (bcells 64 m)] w fun e w' => e = .returned (.tuple #[.agg (bcells 64 (pwV p f k m).1), .int .i64 (pwV p f k m).2]) ∧ Below w.heap.size w w' := by
  go_enter Try.func32, Try.ntmps32
  go_upto_region 1 with (fail)
  rw [← zero64]
  obtain ⟨W1, hwo⟩ : ∃ v : World, v = (((w.alloc (.cells (bcells 64 (f)) 26)).alloc (.cells (bcells 64 (m)) 26)).alloc (.cells (bcells 64 fun _ => 0) 26)) := ⟨_, rfl⟩
  have B0 : Blk W1 (w.heap.size) 64 26 (f) := by subst hwo; have := (((Blk.new w 64 26 (f)).alloc (.cells (bcells 64 (m)) 26)).alloc (.cells (bcells 64 fun _ => 0) 26)); simpa using this
  have B1 : Blk W1 (w.heap.size + 1) 64 26 (m) := by subst hwo; have := ((Blk.new (w.alloc (.cells (bcells 64 (f)) 26)) 64 26 (m)).alloc (.cells (bcells 64 fun _ => 0) 26)); simpa using this
  have B2 : Blk W1 (w.heap.size + 1 + 1) 64 26 (fun _ => 0) := by subst hwo; have := (Blk.new ((w.alloc (.cells (bcells 64 (f)) 26)).alloc (.cells (bcells 64 (m)) 26)) 64 26 (fun _ => 0)); simpa using this
  have hb : Below w.heap.size w W1 := by subst hwo; exact ((((Below.refl _ _).alloc (Nat.le_refl _) _).alloc (by simp) _).alloc (by simp; omega) _)
  rw [← hwo]
  clear hwo
  go_upto_region 2 with (first | (refine wpList_load_any rfl 26 (.tmp 5) rfl _ rfl 64 26 _ B0 _ Try.underlying26 rfl Try.size26 ?_) | (refine wpList_load_any rfl 26 (.tmp 7) rfl _ rfl 64 26 _ B1 _ Try.underlying26 rfl Try.size26 ?_) | (refine wpList_build_polys rfl 37 _ [f, m] rfl 26 rfl Try.underlying37 Try.elem26 (by simp) (by simp) rfl ?_; intro wa hwa hps hba; clear hwa) | (go_at_call 76; refine (l01Code_any p [f, m] (by simp [hf, hm]) _ _ hps (by simp)).mono ?_; rintro e W2 ⟨rfl, hbb⟩))
  have hBB : Below W1.heap.size W1 W2 := hba.trans (hbb.mono hba.size)
  replace B0 := B0.below hBB B0.lt
  replace B1 := B1.below hBB B1.lt
  replace B2 := B2.below hBB B2.lt
  replace hb := hb.trans (hBB.mono hb.size)
  clear hBB hba hbb hps
  rcases codeL_two p [f, m] with hc | hc
  · obtain ⟨n, hn, n2, n7⟩ := okP_nat (codeL_zero hc).1
    subst hn
    have lf := lt_of_code hc (f := f) (by simp)
    have lm := lt_of_code hc (f := m) (by simp)
    have hpr := prime_of hc
    by_cases hr : 0 ≤ k ∧ k ≤ 1000000000000
    · obtain ⟨k, rfl⟩ : ∃ j : Nat, k = (j : Int) := ⟨k.toNat, by omega⟩
      have hr1 := hr.1; have hr2 := hr.2
      by_cases hz : deg m < 0
      · have HV := Lib.hid (pwV_5 hc hr hz)
        rw [hc]
        clear hc hr
        go_upto_region 4 with (fail)
        go_upto_region 6 with (first | (go_at_call 81; refine (l01In_any _ _ _ _).mono ?_; rintro e wS ⟨rfl, rfl⟩; rw [show decide ((0 : Int) ≤ (k : Int) ∧ (k : Int) ≤ 1000000000000) = true by simp; omega]))
        go_upto_region 7 with (first | (refine wpList_load_any rfl 26 (.tmp 7) rfl _ rfl 64 26 _ (B1) _ Try.underlying26 rfl Try.size26 ?_) | (go_at_call 77; refine (l01Deg_any _ _).mono ?_; rintro e W3 ⟨rfl, hW3⟩; replace B0 := B0.below hW3 B0.lt; replace B1 := B1.below hW3 B1.lt; replace B2 := B2.below hW3 B2.lt; replace hb := (hb).trans (hW3.mono (hb).size)))
        have lt_B0 := B0.lt
        have lt_B1 := B1.lt
        have lt_B2 := B2.lt
        go_wp2_with (first | rw [← zero64] | (refine wpList_store_blk rfl 26 (.tmp 8) (.tmp 29) rfl _ 64 (fun _ => 0) rfl rfl 26 _ (B2) Try.size26 ?_; try simp only [Act.put]; go_wp2_with fail))
        have qB0 : Blk (W3.setRow (w.heap.size + 1 + 1) (bcells 64 (fun _ => 0))) (w.heap.size) 64 26 (f) := (B0.rowOther (by omega))
        have qB1 : Blk (W3.setRow (w.heap.size + 1 + 1) (bcells 64 (fun _ => 0))) (w.heap.size + 1) 64 26 (m) := (B1.rowOther (by omega))
        have qB2 : Blk (W3.setRow (w.heap.size + 1 + 1) (bcells 64 (fun _ => 0))) (w.heap.size + 1 + 1) 64 26 (fun _ => 0) := (B2.row (fun _ => 0))
        have qhb : Below w.heap.size w (W3.setRow (w.heap.size + 1 + 1) (bcells 64 (fun _ => 0))) := (below_row hb (by omega) _)
        obtain ⟨W4, hwo⟩ : ∃ v : World, v = (W3.setRow (w.heap.size + 1 + 1) (bcells 64 (fun _ => 0))) := ⟨_, rfl⟩
        rw [← hwo] at qB0 qB1 qB2 qhb ⊢
        clear hwo
        clear B0 B1 B2 hb
        have B0 := qB0
        have B1 := qB1
        have B2 := qB2
        have hb := qhb
        clear qB0 qB1 qB2 qhb
        try simp only [Act.put, List.setIfInBounds_toArray, List.set_cons_zero, List.set_cons_succ]
        refine bodyPost_ret (results_bt rfl _ _ _ 64 26 5 _ rfl B2 Try.underlying26 Try.size26) rfl ⟨by first | (rw [HV.out]; rfl) | rw [HV.out], hb⟩
      · have HV := Lib.hid (pwV_0 hc hr hz)
        have HP := Lib.hid (fun W => l01PowMod_any n f k m W hpr lf lm (by omega) hr2)
        rw [hc]
        clear hc hr
        have hz0 : (deg m < 0) = False := by simp; omega
        go_upto_region 4 with (fail)
        go_upto_region 6 with (first | (go_at_call 81; refine (l01In_any _ _ _ _).mono ?_; rintro e wS ⟨rfl, rfl⟩; rw [show decide ((0 : Int) ≤ (k : Int) ∧ (k : Int) ≤ 1000000000000) = true by simp; omega]))
        go_upto_region 8 with (first | (refine wpList_load_any rfl 26 (.tmp 7) rfl _ rfl 64 26 _ (B1) _ Try.underlying26 rfl Try.size26 ?_) | (go_at_call 77; refine (l01Deg_any _ _).mono ?_; rintro e W3 ⟨rfl, hW3⟩; replace B0 := B0.below hW3 B0.lt; replace B1 := B1.below hW3 B1.lt; replace B2 := B2.below hW3 B2.lt; replace hb := (hb).trans (hW3.mono (hb).size)))
        have lt_B0 := B0.lt
        have lt_B1 := B1.lt
        have lt_B2 := B2.lt
        go_wp2_with (first | rw [← zero64] | (refine wpList_load_any rfl 26 (.tmp 5) rfl _ rfl 64 26 _ (B0) _ Try.underlying26 rfl Try.size26 ?_) | (refine wpList_load_any rfl 26 (.tmp 7) rfl _ rfl 64 26 _ (B1) _ Try.underlying26 rfl Try.size26 ?_) | (go_at_call 88; refine (HP.out _).mono ?_; rintro e W4 ⟨rfl, hW4⟩; replace B0 := B0.below hW4 B0.lt; replace B1 := B1.below hW4 B1.lt; replace B2 := B2.below hW4 B2.lt; replace hb := (hb).trans (hW4.mono (hb).size)) | (refine wpList_store_blk rfl 26 (.tmp 8) (.tmp 34) rfl _ 64 (pmP n f k m) rfl rfl 26 _ (B2) Try.size26 ?_; try simp only [Act.put]; go_wp2_with fail))
        have qB0 : Blk (W4.setRow (w.heap.size + 1 + 1) (bcells 64 (pmP n f k m))) (w.heap.size) 64 26 (f) := (B0.rowOther (by omega))
        have qB1 : Blk (W4.setRow (w.heap.size + 1 + 1) (bcells 64 (pmP n f k m))) (w.heap.size + 1) 64 26 (m) := (B1.rowOther (by omega))
        have qB2 : Blk (W4.setRow (w.heap.size + 1 + 1) (bcells 64 (pmP n f k m))) (w.heap.size + 1 + 1) 64 26 (pmP n f k m) := (B2.row (pmP n f k m))
        have qhb : Below w.heap.size w (W4.setRow (w.heap.size + 1 + 1) (bcells 64 (pmP n f k m))) := (below_row hb (by omega) _)
        obtain ⟨W5, hwo⟩ : ∃ v : World, v = (W4.setRow (w.heap.size + 1 + 1) (bcells 64 (pmP n f k m))) := ⟨_, rfl⟩
        rw [← hwo] at qB0 qB1 qB2 qhb ⊢
        clear hwo
        clear B0 B1 B2 hb
        have B0 := qB0
        have B1 := qB1
        have B2 := qB2
        have hb := qhb
        clear qB0 qB1 qB2 qhb
        try simp only [Act.put, List.setIfInBounds_toArray, List.set_cons_zero, List.set_cons_succ]
        refine bodyPost_ret (results_bt rfl _ _ _ 64 26 5 _ rfl B2 Try.underlying26 Try.size26) rfl ⟨by first | (rw [HV.out]; rfl) | rw [HV.out], hb⟩
    · have HV := Lib.hid (pwV_2 hc hr)
      rw [hc]
      clear hc
      go_upto_region 4 with (fail)
      go_upto_region 5 with (first | (go_at_call 81; refine (l01In_any _ _ _ _).mono ?_; rintro e wS ⟨rfl, rfl⟩; rw [show decide ((0 : Int) ≤ k ∧ k ≤ 1000000000000) = false by simp; omega]))
      have lt_B0 := B0.lt
      have lt_B1 := B1.lt
      have lt_B2 := B2.lt
      go_wp2_with (first | rw [← zero64] | (refine wpList_store_blk rfl 26 (.tmp 8) (.tmp 24) rfl _ 64 (fun _ => 0) rfl rfl 26 _ (B2) Try.size26 ?_; try simp only [Act.put]; go_wp2_with fail))
      have qB0 : Blk (W2.setRow (w.heap.size + 1 + 1) (bcells 64 (fun _ => 0))) (w.heap.size) 64 26 (f) := (B0.rowOther (by omega))
      have qB1 : Blk (W2.setRow (w.heap.size + 1 + 1) (bcells 64 (fun _ => 0))) (w.heap.size + 1) 64 26 (m) := (B1.rowOther (by omega))
      have qB2 : Blk (W2.setRow (w.heap.size + 1 + 1) (bcells 64 (fun _ => 0))) (w.heap.size + 1 + 1) 64 26 (fun _ => 0) := (B2.row (fun _ => 0))
      have qhb : Below w.heap.size w (W2.setRow (w.heap.size + 1 + 1) (bcells 64 (fun _ => 0))) := (below_row hb (by omega) _)
      obtain ⟨W3, hwo⟩ : ∃ v : World, v = (W2.setRow (w.heap.size + 1 + 1) (bcells 64 (fun _ => 0))) := ⟨_, rfl⟩
      rw [← hwo] at qB0 qB1 qB2 qhb ⊢
      clear hwo
      clear B0 B1 B2 hb
      have B0 := qB0
      have B1 := qB1
      have B2 := qB2
      have hb := qhb
      clear qB0 qB1 qB2 qhb
      try simp only [Act.put, List.setIfInBounds_toArray, List.set_cons_zero, List.set_cons_succ]
      refine bodyPost_ret (results_bt rfl _ _ _ 64 26 5 _ rfl B2 Try.underlying26 Try.size26) rfl ⟨by first | (rw [HV.out]; rfl) | rw [HV.out], hb⟩
  · have HV := Lib.hid (pwV_1 (k := k) hc)
    rw [hc]
    clear hc
    go_upto_region 3 with (fail)
    have lt_B0 := B0.lt
    have lt_B1 := B1.lt
    have lt_B2 := B2.lt
    go_wp2_with (first | rw [← zero64] | (refine wpList_store_blk rfl 26 (.tmp 8) (.tmp 18) rfl _ 64 (fun _ => 0) rfl rfl 26 _ (B2) Try.size26 ?_; try simp only [Act.put]; go_wp2_with fail))
    have qB0 : Blk (W2.setRow (w.heap.size + 1 + 1) (bcells 64 (fun _ => 0))) (w.heap.size) 64 26 (f) := (B0.rowOther (by omega))
    have qB1 : Blk (W2.setRow (w.heap.size + 1 + 1) (bcells 64 (fun _ => 0))) (w.heap.size + 1) 64 26 (m) := (B1.rowOther (by omega))
    have qB2 : Blk (W2.setRow (w.heap.size + 1 + 1) (bcells 64 (fun _ => 0))) (w.heap.size + 1 + 1) 64 26 (fun _ => 0) := (B2.row (fun _ => 0))
    have qhb : Below w.heap.size w (W2.setRow (w.heap.size + 1 + 1) (bcells 64 (fun _ => 0))) := (below_row hb (by omega) _)
    obtain ⟨W3, hwo⟩ : ∃ v : World, v = (W2.setRow (w.heap.size + 1 + 1) (bcells 64 (fun _ => 0))) := ⟨_, rfl⟩
    rw [← hwo] at qB0 qB1 qB2 qhb ⊢
    clear hwo
    clear B0 B1 B2 hb
    have B0 := qB0
    have B1 := qB1
    have B2 := qB2
    have hb := qhb
    clear qB0 qB1 qB2 qhb
    try simp only [Act.put, List.setIfInBounds_toArray, List.set_cons_zero, List.set_cons_succ]
    refine bodyPost_ret (results_bt rfl _ _ _ 64 26 5 _ rfl B2 Try.underlying26 Try.size26) rfl ⟨by first | (rw [HV.out]; rfl) | rw [HV.out], hb⟩
end Go.Proofs.Ytpeehpaghdddgaa
