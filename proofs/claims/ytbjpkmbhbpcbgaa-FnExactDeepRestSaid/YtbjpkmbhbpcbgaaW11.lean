/-
  Walks: products behind their checks.
-/
import Derived.Test.YtbjpkmbhbpcbgaaW10
import Derived.Test.YtbjpkmbhbpcbgaaInv
namespace Go.Proofs.Ytbjpkmbhbpcbgaa
open Go.RowKit
set_option linter.unusedVariables false
set_option linter.unusedSimpArgs false
attribute [local irreducible] deg
theorem Blk.pre {w : World} {b n m : Nat} {t : TypeId} {f : Nat → Nat} (h : Blk w b n t f) (hm : m ≤ n) : w.rangeAt b 0 (bl m f) := by
  intro j v hv
  have hj : j < m := by
    have := (List.getElem?_eq_some_iff.1 hv).1
    rwa [bl_length] at this
  have e : (bl m f)[j]? = some (.int .u8 (f j : Int)) := by have := bcells_get (f := f) hj; simpa using this
  rw [e] at hv
  injection hv with hv
  subst hv
  rw [Nat.zero_add]
  exact h.cell (by omega)
set_option maxRecDepth 100000 in
set_option maxHeartbeats 1600000 in
theorem product_any (p : Nat) (f g : Nat → Nat) (w : World) (hp1 : 2 ≤ p) (hp2 : p ≤ 7) (hf : ∀ i, i < 64 → f i < p) (hg : ∀ i, i < 64 → g i < p) :
    Calls Try.prog 80 #[.int .i64 (p : Int), .agg (bcells 64 f), .agg (bcells 64 g)] w fun e w' => e = .returned (.agg (bcells 64 (prd p f g))) ∧ Below w.heap.size w w' := by
  go_enter Try.func80, Try.ntmps80
  go_upto_region 1 with (fail)
  obtain ⟨wo, hwo⟩ : ∃ wo : World, wo = (((w.alloc (.cells (bcells 64 f) 23)).alloc (.cells (bcells 64 g) 23)).alloc (.cells (bcells 64 fun _ => 0) 23)) := ⟨_, rfl⟩
  have b0 : Blk wo (w.heap.size) 64 23 f := by subst hwo; have := (((Blk.new w 64 23 f).alloc (.cells (bcells 64 g) 23)).alloc (.cells (bcells 64 fun _ => 0) 23)); simpa using this
  have b1 : Blk wo (w.heap.size + 1) 64 23 g := by subst hwo; have := ((Blk.new (w.alloc (.cells (bcells 64 f) 23)) 64 23 g).alloc (.cells (bcells 64 fun _ => 0) 23)); simpa using this
  have b2 : Blk wo (w.heap.size + 1 + 1) 64 23 (fun _ => 0) := by subst hwo; have := (Blk.new ((w.alloc (.cells (bcells 64 f) 23)).alloc (.cells (bcells 64 g) 23)) 64 23 (fun _ => 0)); simpa using this
  have hb : Below w.heap.size w wo := by subst hwo; exact ((((Below.refl _ _).alloc (Nat.le_refl _) _).alloc (by simp) _).alloc (by simp; omega) _)
  rw [← zero64, ← hwo]
  clear hwo
  go_upto_region 2 with (first | refine wpList_load_blk rfl 23 _ rfl _ rfl 64 23 _ (b0) 5 Try.underlying23 Try.size23 ?_ | refine wpList_load_blk rfl 23 _ rfl _ rfl 64 23 _ (b1) 5 Try.underlying23 Try.size23 ?_ | (go_at_call 151; refine (wideProduct_any p f g _ hp1 hp2 hf hg).mono ?_; rintro e w1 ⟨rfl, h1⟩) | (refine wpList_store_new rfl 118 _ _ rfl _ 118 128 (prd p f g) rfl rfl (by rw [← zero128, bcells_size]) Try.size118 ?_))
  have hq := (Blk.new w1 128 118 (prd p f g)).pre (m := 64) (by omega)
  replace b2 := (b2.below h1 b2.lt).alloc (.cells (bcells 128 (prd p f g)) 118)
  replace hb := hb.trans ((h1.trans ((below_alloc' w1 (.cells (bcells 128 (prd p f g)) 118)).mono h1.size)).mono hb.size)
  have hat := fun (W : World) (a : Option Addr) => run_arrayAt (P := Try.prog) (w := W) 23 5 64 a 64 128 Try.underlying23 (by omega)
  go_wp2_with (first | (refine wpList_load_mid rfl 23 _ rfl _ 0 rfl _ _ hq Try.underlying23 rfl (by rw [bl_length]; exact Try.size23) ?_) | refine wpList_store_blk rfl 23 _ _ rfl _ 64 (_) rfl rfl 23 _ (b2) Try.size23 ?_)
  refine bodyPost_ret (results_blk rfl _ _ _ 64 23 5 _ rfl (b2.row _) Try.underlying23 Try.size23) rfl ⟨rfl, below_setRow hb (by omega) _⟩
def mulV (p : Int) (f g : Nat → Nat) : (Nat → Nat) × Int := if codeL p [f, g] = 0 then (if deg f + deg g ≤ 63 then (prd p.toNat f g, 0) else (fun _ => 0, 3)) else (fun _ => 0, 1)
theorem mulV_ok {n : Nat} {f g : Nat → Nat} (h : codeL (n : Int) [f, g] = 0) (h2 : deg f + deg g ≤ 63) : mulV (n : Int) f g = (prd n f g, 0) := by
  unfold mulV; rw [if_pos h, if_pos h2, Int.toNat_natCast]
theorem mulV_lim {n : Nat} {f g : Nat → Nat} (h : codeL (n : Int) [f, g] = 0) (h2 : ¬ deg f + deg g ≤ 63) : mulV (n : Int) f g = (fun _ => 0, 3) := by
  unfold mulV; rw [if_pos h, if_neg h2]
theorem mulV_bad {p : Int} {f g : Nat → Nat} (h : codeL p [f, g] = 1) : mulV p f g = (fun _ => 0, 1) := by
  unfold mulV; rw [if_neg (by rw [h]; decide)]
theorem deg_bounds (f : Nat → Nat) : -1 ≤ deg f ∧ deg f ≤ 63 := by
  rcases deg_spec f with ⟨e, _⟩ | ⟨d, hd, e, _⟩ <;> omega
theorem prd_zero_left {p : Nat} {f g : Nat → Nat} (hp : 0 < p) (h : ∀ i, i < 64 → f i = 0) (k : Nat) : prd p f g k = 0 := by
  rw [prd_rows hp (n := 0) (by omega) (fun i _ hi => h i hi), cv_zero]
theorem prd_zero_right {p : Nat} {f g : Nat → Nat} (hp : 0 < p) (h : ∀ i, i < 64 → g i = 0) (k : Nat) : prd p f g k = 0 := by
  have : ∀ n, cv p (cut f) (cut g) n k = 0 := by
    intro n
    induction n with
    | zero => rfl
    | succ n ih =>
      have hz : ∀ j, cut g j = 0 := fun j => by
        by_cases hj : j < 64
        · rw [cut_in g hj]; exact h j hj
        · exact cut_zero g (by omega)
      rw [cv_same hp (fun _ => by rw [hz, Nat.mul_zero]), ih]
  exact this 64
theorem deg_neg {f : Nat → Nat} (h : deg f < 0) : ∀ i, i < 64 → f i = 0 := by
  rcases deg_spec f with ⟨_, hz⟩ | ⟨d, hd, e, _⟩
  · exact hz
  · omega
def tmV (p : Nat) (f g : Nat → Nat) : (Nat → Nat) × Bool := if deg f + deg g ≤ 63 then (prd p f g, true) else (fun _ => 0, false)
set_option maxRecDepth 100000 in
set_option maxHeartbeats 3200000 in
theorem l01Times_any (p : Nat) (f g : Nat → Nat) (w : World) (hp1 : 2 ≤ p) (hp2 : p ≤ 7) (hf : ∀ i, i < 64 → f i < p) (hg : ∀ i, i < 64 → g i < p) :
    Calls Try.prog 76 #[.int .i64 (p : Int), .agg (bcells 64 f), .agg (bcells 64 g)] w fun e w' => e = .returned (.tuple #[.agg (bcells 64 (tmV p f g).1), .bool (tmV p f g).2]) ∧ Below w.heap.size w w' := by
  obtain ⟨df1, df2⟩ := deg_bounds f
  obtain ⟨dg1, dg2⟩ := deg_bounds g
  have HF := Lib.hid hf; clear hf
  have HG := Lib.hid hg; clear hg
  go_enter Try.func76, Try.ntmps76
  go_upto_region 1 with (fail)
  obtain ⟨wo, hwo⟩ : ∃ wo : World, wo = (((w.alloc (.cells (bcells 64 f) 23)).alloc (.cells (bcells 64 g) 23)).alloc (.cells (bcells 64 fun _ => 0) 23)) := ⟨_, rfl⟩
  have b0 : Blk wo (w.heap.size) 64 23 f := by subst hwo; have := (((Blk.new w 64 23 f).alloc (.cells (bcells 64 g) 23)).alloc (.cells (bcells 64 fun _ => 0) 23)); simpa using this
  have b1 : Blk wo (w.heap.size + 1) 64 23 g := by subst hwo; have := ((Blk.new (w.alloc (.cells (bcells 64 f) 23)) 64 23 g).alloc (.cells (bcells 64 fun _ => 0) 23)); simpa using this
  have b2 : Blk wo (w.heap.size + 1 + 1) 64 23 (fun _ => 0) := by subst hwo; have := (Blk.new ((w.alloc (.cells (bcells 64 f) 23)).alloc (.cells (bcells 64 g) 23)) 64 23 (fun _ => 0)); simpa using this
  have hb : Below w.heap.size w wo := by subst hwo; exact ((((Below.refl _ _).alloc (Nat.le_refl _) _).alloc (by simp) _).alloc (by simp; omega) _)
  rw [← zero64, ← hwo]
  clear hwo
  refine wp_region_steps Try.mixed (by kernel_rfl) (by kernel_rfl) (fun v => by (simp only [frL, Act.put, List.setIfInBounds_toArray, List.set_cons_zero, List.set_cons_succ, Nat.reduceAdd, Nat.zero_add]; exact rfl))
    (fun L v w1 => Below wo.heap.size wo w1 ∧ (L 0 = true → v 0 = (.agg (bcells 64 (f)))) ∧ (L 1 = true → v 1 = (.int .i64 (deg f))) ∧ (L 2 = true → v 2 = (.agg (bcells 64 (g)))) ∧ (L 3 = true → v 3 = (.int .i64 (deg g))) ∧ (L 4 = true → v 4 = (.agg (bcells 64 (fun _ => 0)))) ∧ (L 5 = true → AF (v 5) w1 wo.heap.size 64 23) ∧ (L 6 = true → v 6 = (.int .i64 (deg f))) ∧ (L 7 = true → v 7 = (.int .i64 (deg g))) ∧ (L 8 = true → PF (v 5) w1 wo.heap.size 64 23 (fun _ => 0))) ?_ ?_ ?_
  · intro v
    exact ⟨(Below.refl _ _).drew, (fun h => by cases h), (fun h => by cases h), (fun h => by cases h), (fun h => by cases h), (fun h => by cases h), (fun h => by cases h), (fun h => by cases h), (fun h => by cases h), (fun h => by cases h)⟩
  · refine (.cons rfl ?_ (.cons rfl ?_ (.cons rfl ?_ (.cons rfl ?_ (.cons rfl ?_ (.cons rfl ?_ (.cons rfl ?_ (.cons rfl ?_ (.cons rfl ?_ (.nil _))))))))))
    · intro L v w1 hd hn ⟨hS1, h0, h1, h2, h3, h4, h5, h6, h7, h8⟩ K hK
      refine wp_load_blk 23 _ rfl _ rfl 64 23 _ (b0.below hS1 b0.lt) _ Try.underlying23 Try.size23 ?_
      exact hK _ _ _ rfl ⟨hS1, fun _ => rfl, h1, h2, h3, h4, h5, h6, h7, h8⟩
    · intro L v w1 hd hn ⟨hS1, h0, h1, h2, h3, h4, h5, h6, h7, h8⟩ K hK
      have e0 := h0 (hd ⟨0, .data⟩ (by simp) rfl)
      go_wp2_with (go_at_call 73; refine (l01Deg_any _ _).mono ?_; rintro e w1y ⟨rfl, hy⟩)
      exact hK _ (.int .i64 (deg f)) _ (by simp only [Act.put, List.setIfInBounds_toArray, List.set_cons_zero, List.set_cons_succ, e0]) ⟨hS1.trans (hy.mono hS1.size), h0, fun _ => rfl, h2, h3, h4, fun h => (h5 h).below hy, h6, h7, fun h => (h8 h).below hy⟩
    · intro L v w1 hd hn ⟨hS1, h0, h1, h2, h3, h4, h5, h6, h7, h8⟩ K hK
      refine wp_load_blk 23 _ rfl _ rfl 64 23 _ (b1.below hS1 b1.lt) _ Try.underlying23 Try.size23 ?_
      exact hK _ _ _ rfl ⟨hS1, h0, h1, fun _ => rfl, h3, h4, h5, h6, h7, h8⟩
    · intro L v w1 hd hn ⟨hS1, h0, h1, h2, h3, h4, h5, h6, h7, h8⟩ K hK
      have e2 := h2 (hd ⟨2, .data⟩ (by simp) rfl)
      go_wp2_with (go_at_call 73; refine (l01Deg_any _ _).mono ?_; rintro e w1y ⟨rfl, hy⟩)
      exact hK _ (.int .i64 (deg g)) _ (by simp only [Act.put, List.setIfInBounds_toArray, List.set_cons_zero, List.set_cons_succ, e2]) ⟨hS1.trans (hy.mono hS1.size), h0, h1, h2, fun _ => rfl, h4, fun h => (h5 h).below hy, h6, h7, fun h => (h8 h).below hy⟩
    · intro L v w1 hd hn ⟨hS1, h0, h1, h2, h3, h4, h5, h6, h7, h8⟩ K hK
      go_wp2_with fail
      rw [← zero64]
      exact hK _ (.agg (bcells 64 (fun _ => 0))) _ (by simp only [Act.put, List.setIfInBounds_toArray, List.set_cons_zero, List.set_cons_succ ]) ⟨hS1, h0, h1, h2, h3, fun _ => rfl, h5, h6, h7, h8⟩
    · intro L v w1 hd hn ⟨hS1, h0, h1, h2, h3, h4, h5, h6, h7, h8⟩ K hK
      go_wp2_with fail
      rw [← zero64]
      exact hK _ (.pointer (some ⟨w1.heap.size, 0, none⟩)) _ (by simp only [Act.put, List.setIfInBounds_toArray, List.set_cons_zero, List.set_cons_succ ]) ⟨hS1.alloc hS1.size _, h0, h1, h2, h3, h4, fun _ => (PF.new w1 64 23 _ hS1.size).af, h6, h7, fun h => absurd rfl (hn 8 _ rfl h ⟨5, .data⟩ (by simp) rfl)⟩
    · intro L v w1 hd hn ⟨hS1, h0, h1, h2, h3, h4, h5, h6, h7, h8⟩ K hK
      have e1 := h1 (hd ⟨1, .data⟩ (by simp) rfl)
      go_wp2_with fail
      exact hK _ (.int .i64 (deg f)) _ (by simp only [Act.put, List.setIfInBounds_toArray, List.set_cons_zero, List.set_cons_succ, e1]) ⟨hS1, h0, h1, h2, h3, h4, h5, fun _ => rfl, h7, h8⟩
    · intro L v w1 hd hn ⟨hS1, h0, h1, h2, h3, h4, h5, h6, h7, h8⟩ K hK
      have e3 := h3 (hd ⟨3, .data⟩ (by simp) rfl)
      go_wp2_with fail
      exact hK _ (.int .i64 (deg g)) _ (by simp only [Act.put, List.setIfInBounds_toArray, List.set_cons_zero, List.set_cons_succ, e3]) ⟨hS1, h0, h1, h2, h3, h4, h5, h6, fun _ => rfl, h8⟩
    · intro L v w1 hd hn ⟨hS1, h0, h1, h2, h3, h4, h5, h6, h7, h8⟩ K hK
      have e4 := h4 (hd ⟨4, .data⟩ (by simp) rfl)
      obtain ⟨gz, b, ea, hN, hk⟩ := (h5 (hd ⟨5, .data⟩ (by simp) rfl)).out
      refine wp_store_blk 23 _ _ rfl b 64 (fun _ => 0) ea e4 23 gz hk Try.size23 ?_
      exact hK _ undef _ rfl ⟨below_row hS1 hN _, h0, h1, h2, h3, h4, fun h => (h5 h).row hk, h6, h7, fun _ => by rw [show updV v 8 undef 5 = v 5 from rfl, ea]; exact PF.row hk hN _⟩
  · intro L v w1 hL ⟨hS1, h0, h1, h2, h3, h4, h5, h6, h7, h8⟩
    have e0 := h0 (hL 0 (by decide))
    have e1 := h1 (hL 1 (by decide))
    have e2 := h2 (hL 2 (by decide))
    have e3 := h3 (hL 3 (by decide))
    have e4 := h4 (hL 4 (by decide))
    have e6 := h6 (hL 6 (by decide))
    have e7 := h7 (hL 7 (by decide))
    obtain ⟨b5, e5, hN5, hb5⟩ := (h8 (hL 8 (by decide))).out
    clear hL h0 h1 h2 h3 h4 h5 h6 h7 h8
    simp only [Exit.then, e0, e1, e2, e3, e4, e6, e7, e5]
    clear e0 e1 e2 e3 e4 e6 e7 e5
    have hlt2 := b2.lt
    replace b0 := b0.below hS1 b0.lt
    replace b1 := b1.below hS1 b1.lt
    replace b2 := b2.below hS1 b2.lt
    have hB5 : w.heap.size + 1 + 1 + 1 ≤ b5 := by omega
    clear hlt2
    replace hb := hb.trans (hS1.mono hb.size)
    by_cases hlim : deg f + deg g ≤ 63
    · have HV := Lib.hid (show tmV p f g = (prd p f g, true) from if_pos hlim)
      by_cases hf0 : deg f < 0
      · have HZ : ∀ k, k < 64 → (0 : Nat) = prd p f g k := fun k _ => (prd_zero_left (by omega) (deg_neg hf0) k).symm
        go_wp2_with (first | refine wpList_load_blk rfl 23 _ rfl _ rfl 64 23 _ (hb5) 5 Try.underlying23 Try.size23 ?_ | refine wpList_store_blk rfl 23 _ _ rfl _ 64 (_) rfl rfl 23 _ (b2) Try.size23 ?_)
        refine bodyPost_ret (results_bt rfl _ _ _ 64 23 5 _ rfl (b2.row _) Try.underlying23 Try.size23) rfl ⟨by rw [HV.out, ← bcells_congr HZ]; rfl, below_setRow hb (by omega) _⟩
      · by_cases hg0 : deg g < 0
        · have HZ : ∀ k, k < 64 → (0 : Nat) = prd p f g k := fun k _ => (prd_zero_right (by omega) (deg_neg hg0) k).symm
          go_wp2_with (first | refine wpList_load_blk rfl 23 _ rfl _ rfl 64 23 _ (hb5) 5 Try.underlying23 Try.size23 ?_ | refine wpList_store_blk rfl 23 _ _ rfl _ 64 (_) rfl rfl 23 _ (b2) Try.size23 ?_)
          refine bodyPost_ret (results_bt rfl _ _ _ 64 23 5 _ rfl (b2.row _) Try.underlying23 Try.size23) rfl ⟨by rw [HV.out, ← bcells_congr HZ]; rfl, below_setRow hb (by omega) _⟩
        · obtain ⟨n, hn⟩ := Int.eq_ofNat_of_zero_le (show 0 ≤ deg f by omega)
          obtain ⟨m, hm⟩ := Int.eq_ofNat_of_zero_le (show 0 ≤ deg g by omega)
          have HFZ : Hid (∀ i, n + 1 ≤ i → i < 64 → f i = 0) := by
            rcases deg_spec f with ⟨e, hz⟩ | ⟨d, hd, e, hne, hz⟩
            · exact fun i _ h => hz i h
            · exact fun i h1 h2 => hz i (by omega) h2
          have HGZ : Hid (∀ i, m + 1 ≤ i → i < 64 → g i = 0) := by
            rcases deg_spec g with ⟨e, hz⟩ | ⟨d, hd, e, hne, hz⟩
            · exact fun i _ h => hz i h
            · exact fun i h1 h2 => hz i (by omega) h2
          have hnm : n + m ≤ 63 := by omega
          rw [hn, hm]
          clear df1 df2 dg1 dg2 hlim hf0 hg0 hn hm
          go_wp2_with fail
          go_loopw [11] (fun c wr => ∃ i : Nat, i ≤ n + 1 ∧ c = .int .i64 (i : Int) ∧ Below w.heap.size w wr ∧ Blk wr w.heap.size 64 23 f ∧ Blk wr (w.heap.size + 1) 64 23 g ∧ Blk wr (w.heap.size + 1 + 1) 64 23 (fun _ => 0) ∧ Blk wr b5 64 23 (cv p (cut f) (cut g) i)) (fun c _ => n + 1 - (intOf c).toNat)
          case atStart => exact ⟨0, by omega, rfl, hb, b0, b1, b2, hb5.congr (fun k _ => by rw [cv_zero])⟩
          case round =>
            clear hb b0 b1 b2 hb5
            obtain ⟨i, hi, rfl, hb, b0, b1, b2, b3⟩ := hrel
            by_cases hlt : i ≤ n
            · go_wp2_with fail
              obtain ⟨wi, rfl⟩ : ∃ v : World, v = wr := ⟨_, rfl⟩
              have b3' := b3.congr (fun k _ => (cvr_zero p (cut f) (cut g) i k).symm)
              clear b3
              go_loopw [12] (fun c wr => ∃ j : Nat, j ≤ m + 1 ∧ (f i = 0 → j = 0) ∧ c = .int .i64 (j : Int) ∧ Below w.heap.size w wr ∧ Blk wr w.heap.size 64 23 f ∧ Blk wr (w.heap.size + 1) 64 23 g ∧ Blk wr (w.heap.size + 1 + 1) 64 23 (fun _ => 0) ∧ Blk wr b5 64 23 (cvr p (cut f) (cut g) i j)) (fun c _ => m + 1 - (intOf c).toNat)
              case atStart => exact ⟨0, by omega, fun _ => rfl, rfl, hb, b0, b1, b2, b3'⟩
              case round =>
                clear hb b0 b1 b2 b3'
                obtain ⟨j, hj, hfj, rfl, hb, b0, b1, b2, b3⟩ := hrel
                have HJ := Lib.hid hfj; clear hfj
                by_cases hltj : j ≤ m
                · have c0 := b0.cell (i := i) (by omega)
                  by_cases hfi : f i = 0
                  · have hne : ((f i : Int) != 0) = false := by simp [hfi]
                    have HFI := Lib.hid hfi; clear hfi
                    go_wp2_with fail
                    go_roundw
                    case rel =>
                      have hj0 := HJ.out HFI.out
                      subst hj0
                      exact ⟨i + 1, by omega, by go_num, hb, b0, b1, b2, b3.congr (fun k _ => by rw [cvr_zero, cv_skip (by omega) (by rw [cut_in f (by omega)]; exact HFI.out)])⟩
                    case measure => simp [intOf] <;> omega
                  · have hne : ((f i : Int) != 0) = true := by simpa using hfi
                    have HFI := Lib.hid hfi; clear hfi
                    have c1 := b1.cell (i := j) (by omega)
                    have c3 : wr.cell? ⟨b5, i + j, none⟩ = some (.int .u8 (cv p (cut f) (cut g) i (i + j) : Int)) := by rw [b3.cell (by omega), cvr_at]
                    have z3 := b3.frozen (i + j)
                    have hij : ((i : Int) + (j : Int)).toNat = i + j := by omega
                    have v1 : f i < p := HF.out i (by omega)
                    have v2 : g j < p := HG.out j (by omega)
                    have v3 := cv_lt p (cut f) (cut g) (by omega) i (i + j)
                    obtain ⟨m1, m2⟩ := small_nat_mul hp2 v1 v2
                    have m4 : 0 ≤ ((cv p (cut f) (cut g) i (i + j) : Int) + (f i : Int) * (g j : Int)) % (p : Int) := Int.emod_nonneg _ (by omega)
                    have m5 : ((cv p (cut f) (cut g) i (i + j) : Int) + (f i : Int) * (g j : Int)) % (p : Int) < (p : Int) := Int.emod_lt_of_pos _ (by omega)
                    have HE := Lib.hid (show (cv p (cut f) (cut g) (i + 1) (i + j) : Int) = ((cv p (cut f) (cut g) i (i + j) : Int) + (f i : Int) * (g j : Int)) % (p : Int) by rw [cv_hit, cut_in f (by omega), cut_in g (by omega)]; push_cast; rfl)
                    go_wp2_with fail
                    go_region
                    go_wp2_with fail
                    go_roundw
                    case rel =>
                      refine ⟨j + 1, by omega, fun h => absurd h HFI.out, by go_num, (hb.setCell (by simp <;> omega) _).drew, (b0.setOther (by simp <;> omega)).drew, (b1.setOther (by simp <;> omega)).drew, (b2.setOther (by simp <;> omega)).drew, ?_⟩
                      exact ((b3.set (v := cv p (cut f) (cut g) (i + 1) (i + j)) HE.out.symm).congr (fun k _ => cvr_next p (cut f) (cut g) i j k)).drew
                    case measure => simp [intOf] <;> omega
                · have e : j = m + 1 := by omega
                  subst e
                  go_wp2_with fail
                  go_roundw
                  case rel =>
                    refine ⟨i + 1, by omega, by go_num, hb, b0, b1, b2, b3.congr (fun k _ => cvr_full (by omega) (fun q hq => ?_) k)⟩
                    by_cases h64 : q < 64
                    · rw [cut_in g h64]; exact HGZ.out q hq h64
                    · exact cut_zero g (by omega)
                  case measure => simp [intOf] <;> omega
            · have e : i = n + 1 := by omega
              subst e
              go_wp2_with (first | refine wpList_load_blk rfl 23 _ rfl _ rfl 64 23 _ (b3) 5 Try.underlying23 Try.size23 ?_ | refine wpList_store_blk rfl 23 _ _ rfl _ 64 (_) rfl rfl 23 _ (b2) Try.size23 ?_)
              refine bodyPost_ret (results_bt rfl _ _ _ 64 23 5 _ rfl (b2.row _) Try.underlying23 Try.size23) rfl ⟨?_, below_setRow hb (by omega) _⟩
              rw [HV.out, bcells_congr (fun k _ => (prd_rows (by omega) (by omega) HFZ.out k).symm)]
              rfl
    · have hlim2 : 63 < deg f + deg g := by omega
      have HV := Lib.hid (show tmV p f g = (fun _ => 0, false) from if_neg hlim)
      clear hlim
      have hf0 : 0 ≤ deg f := by omega
      have hg0 : 0 ≤ deg g := by omega
      go_wp2_with (first | refine wpList_load_blk rfl 23 _ rfl _ rfl 64 23 _ (hb5) 5 Try.underlying23 Try.size23 ?_ | refine wpList_store_blk rfl 23 _ _ rfl _ 64 (_) rfl rfl 23 _ (b2) Try.size23 ?_)
      refine bodyPost_ret (results_bt rfl _ _ _ 64 23 5 _ rfl (b2.row _) Try.underlying23 Try.size23) rfl ⟨by rw [HV.out]; rfl, below_setRow hb (by omega) _⟩
end Go.Proofs.Ytbjpkmbhbpcbgaa
