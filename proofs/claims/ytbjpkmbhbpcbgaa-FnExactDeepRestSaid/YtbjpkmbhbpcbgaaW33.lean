/-
  Walks: the model's powers modulo a polynomial.
-/
import Derived.Test.YtbjpkmbhbpcbgaaW30
namespace Go.Proofs.Ytbjpkmbhbpcbgaa
open Go.RowKit
set_option linter.unusedVariables false
set_option linter.unusedSimpArgs false
attribute [local irreducible] deg invN dS qS stp stpr quoP resP oneP upP upF hmR mmP shA addK
/-- squares and products, at most f more rounds -/
def pmR (p : Nat) (m : Nat → Nat) : Nat → Nat → (Nat → Nat) → (Nat → Nat) → (Nat → Nat)
  | 0, _, o, _ => o
  | f + 1, k, o, s => if k = 0 then o else pmR p m f (k / 2) (if k % 2 = 1 then mmP p o s m else o) (mmP p s s m)
theorem pmR_z {p f : Nat} {m o s : Nat → Nat} : pmR p m f 0 o s = o := by cases f <;> simp [pmR]
theorem pmR_odd {p f k : Nat} {m o s : Nat → Nat} (h0 : k ≠ 0) (h : k % 2 = 1) : pmR p m (f + 1) k o s = pmR p m f (k / 2) (mmP p o s m) (mmP p s s m) := by rw [pmR, if_neg h0, if_pos h]
theorem pmR_even {p f k : Nat} {m o s : Nat → Nat} (h0 : k ≠ 0) (h : ¬ k % 2 = 1) : pmR p m (f + 1) k o s = pmR p m f (k / 2) o (mmP p s s m) := by rw [pmR, if_neg h0, if_neg h]
/-- the model's power -/
def pmP (p : Nat) (a : Nat → Nat) (k : Nat) (m : Nat → Nat) : Nat → Nat := pmR p m 64 k (resP p oneP m) (resP p a m)
theorem pmR_spec {p : Nat} {m : Nat → Nat} (hp : p = 2 ∨ p = 3 ∨ p = 5 ∨ p = 7) (hm : ∀ k, k < 64 → m k < p) (h0 : 0 ≤ deg m) : ∀ (f k : Nat) (o s : Nat → Nat), k < 2 ^ f → (∀ i, i < 64 → o i < p) → (∀ i, i < 64 → s i < p) → deg o < deg m →
    (∀ i, i < 64 → pmR p m f k o s i < p) ∧ deg (pmR p m f k o s) < deg m ∧ rm p (lz m) (lz (pmR p m f k o s)) (mz (lz o) (pwz (lz s) k))
  | 0, k, o, s, hk, ho, hs, hd => by
    rw [Nat.pow_zero] at hk
    obtain rfl : k = 0 := by omega
    refine ⟨ho, hd, ?_⟩
    have : mz (lz o) (pwz (lz s) 0) = lz o := by rw [mz_comm]; exact mz_one _
    rw [this]; exact rm_refl _ _ _
  | f + 1, k, o, s, hk, ho, hs, hd => by
    have hp0 : 0 < p := by omega
    by_cases hz : k = 0
    · subst hz
      rw [pmR_z]
      refine ⟨ho, hd, ?_⟩
      have : mz (lz o) (pwz (lz s) 0) = lz o := by rw [mz_comm]; exact mz_one _
      rw [this]; exact rm_refl _ _ _
    · have hk2 : k / 2 < 2 ^ f := by rw [Nat.pow_succ] at hk; omega
      have hss : ∀ i, i < 64 → mmP p s s m i < p := fun i hi => mmP_lt hp0 i (by omega)
      have sq : rm p (lz m) (pwz (lz (mmP p s s m)) (k / 2)) (pwz (lz s) (2 * (k / 2))) := by
        rw [pwz_two]
        exact rm_symm (rm_pwz (fin_mz (fin_lz s) (fin_lz s)) (fin_lz _) (mmP_rm hp hm h0) _)
      by_cases ho2 : k % 2 = 1
      · rw [pmR_odd hz ho2]
        obtain ⟨a1, a2, a3⟩ := pmR_spec hp hm h0 f (k / 2) (mmP p o s m) (mmP p s s m) hk2 (fun i hi => mmP_lt hp0 i (by omega)) hss (mmP_deg hp hm h0)
        refine ⟨a1, a2, rm_trans a3 ?_⟩
        have e : mz (lz o) (pwz (lz s) k) = mz (mz (lz o) (lz s)) (pwz (lz s) (2 * (k / 2))) := by
          have : k = 2 * (k / 2) + 1 := by omega
          conv => lhs; rw [this]
          show mz (lz o) (mz (pwz (lz s) (2 * (k / 2))) (lz s)) = _
          rw [mz_comm (pwz (lz s) (2 * (k / 2))), ← mz_assoc]
        rw [e]
        exact rm_mz2 (fin_pwz (fin_lz _) _) (fin_mz (fin_lz o) (fin_lz s)) (rm_symm (mmP_rm hp hm h0)) sq
      · rw [pmR_even hz ho2]
        obtain ⟨a1, a2, a3⟩ := pmR_spec hp hm h0 f (k / 2) o (mmP p s s m) hk2 ho hss hd
        refine ⟨a1, a2, rm_trans a3 ?_⟩
        have e : k = 2 * (k / 2) := by omega
        conv => rhs; rw [e]
        exact rm_mz2 (fin_pwz (fin_lz _) _) (fin_lz o) (rm_refl _ _ _) sq
/-- the power's residue -/
theorem pmP_spec {p k : Nat} {a m : Nat → Nat} (hp : p = 2 ∨ p = 3 ∨ p = 5 ∨ p = 7) (ha : ∀ i, i < 64 → a i < p) (hm : ∀ k, k < 64 → m k < p) (h0 : 0 ≤ deg m) (hk : k < 2 ^ 64) :
    (∀ i, i < 64 → pmP p a k m i < p) ∧ deg (pmP p a k m) < deg m ∧ rm p (lz m) (lz (pmP p a k m)) (pwz (lz a) k) := by
  have hp0 : 0 < p := by omega
  have h1 : ∀ i, i < 64 → oneP i < p := fun i _ => by unfold oneP; split <;> omega
  obtain ⟨r1, r2, r3⟩ := pmR_spec hp hm h0 64 k (resP p oneP m) (resP p a m) hk (resP_lt hp0 h1) (resP_lt hp0 ha) (resP_deg hp h1 hm h0).1
  refine ⟨r1, r2, rm_trans r3 ?_⟩
  have e1 := res_rm hp h1 hm h0
  rw [one_lz] at e1
  have e2 := rm_pwz (fin_lz a) (fin_lz (resP p a m)) (res_rm hp ha hm h0) k
  have := rm_mz2 (fin_pwz (fin_lz (resP p a m)) k) fin_oneS (rm_symm e1) (rm_symm e2)
  have e3 : mz oneS (pwz (lz a) k) = pwz (lz a) k := mz_one _
  rwa [e3] at this
set_option maxRecDepth 100000 in
set_option maxHeartbeats 1600000 in
theorem l01PowMod_any (p : Nat) (f : Nat → Nat) (k0 : Nat) (m : Nat → Nat) (w : World) (hpr : p = 2 ∨ p = 3 ∨ p = 5 ∨ p = 7) (lf : ∀ k, k < 64 → f k < p) (lm : ∀ k, k < 64 → m k < p) (h0 : 0 ≤ deg m) (hk0 : (k0 : Int) ≤ 1000000000000) :
    Calls Try.prog 153 #[.int .i64 (p : Int), .agg (bcells 64 f), .int .i64 (k0 : Int), .agg (bcells 64 m)] w fun e w' => e = .returned (.agg (bcells 64 (pmP p f k0 m))) ∧ Below w.heap.size w w' := by
  have p0 : 0 < p := by omega
  have l1 : ∀ i, i < 64 → oneP i < p := fun i _ => by unfold oneP; split <;> omega
  have HM1 := Lib.hid (fun W => l01Mod_any p oneP m W hpr l1 lm h0)
  have HM2 := Lib.hid (fun W => l01Mod_any p f m W hpr lf lm h0)
  have HMO := Lib.hid (show ∀ (x : Nat → Nat), (∀ k, k < 64 → x k < p) → ∀ W, Calls Try.prog 115 #[.int .i64 (p : Int), .agg (bcells 64 x), .agg (bcells 64 m)] W fun e w' => e = .returned (.agg (bcells 64 (resP p x m))) ∧ Below W.heap.size W w' from fun x hx W => l01Mod_any p x m W hpr hx lm h0)
  have HL1 := Lib.hid l1; have HLF := Lib.hid lf
  have HMM := Lib.hid (fun (x y : Nat → Nat) (hx : ∀ k, k < 64 → x k < p) (hy : ∀ k, k < 64 → y k < p) W => l01MulMod_any p x y m W hpr hx hy lm h0)
  go_enter Try.func153, Try.ntmps153
  go_upto_region 1 with (fail)
  rw [← zero64]
  obtain ⟨W1, hwo⟩ : ∃ v : World, v = (((w.alloc (.cells (bcells 64 (f)) 23)).alloc (.cells (bcells 64 (m)) 23)).alloc (.cells (bcells 64 fun _ => 0) 23)) := ⟨_, rfl⟩
  have B0 : Blk W1 (w.heap.size) 64 23 (f) := by subst hwo; have := (((Blk.new w 64 23 (f)).alloc (.cells (bcells 64 (m)) 23)).alloc (.cells (bcells 64 fun _ => 0) 23)); simpa using this
  have B1 : Blk W1 (w.heap.size + 1) 64 23 (m) := by subst hwo; have := ((Blk.new (w.alloc (.cells (bcells 64 (f)) 23)) 64 23 (m)).alloc (.cells (bcells 64 fun _ => 0) 23)); simpa using this
  have B2 : Blk W1 (w.heap.size + 1 + 1) 64 23 (fun _ => 0) := by subst hwo; have := (Blk.new ((w.alloc (.cells (bcells 64 (f)) 23)).alloc (.cells (bcells 64 (m)) 23)) 64 23 (fun _ => 0)); simpa using this
  have hb : Below w.heap.size w W1 := by subst hwo; exact ((((Below.refl _ _).alloc (Nat.le_refl _) _).alloc (by simp) _).alloc (by simp; omega) _)
  rw [← hwo]
  clear hwo
  have lt_B0 : (w.heap.size) < W1.heap.size := B0.lt
  have lt_B1 : (w.heap.size + 1) < W1.heap.size := B1.lt
  have lt_B2 : (w.heap.size + 1 + 1) < W1.heap.size := B2.lt
  have hbase : w.heap.size ≤ W1.heap.size := hb.size
  refine wp_region_steps0 Try.mixed (by kernel_rfl) (by kernel_rfl) (fun v => by (simp only [frL, Act.put, List.setIfInBounds_toArray, List.set_cons_zero, List.set_cons_succ, Nat.reduceAdd, Nat.zero_add]; exact rfl))
    (fun L v W2 => Below w.heap.size w W2 ∧ W1.heap.size ≤ W2.heap.size ∧ Blk W2 (w.heap.size) 64 23 (f) ∧ Blk W2 (w.heap.size + 1) 64 23 (m) ∧ Blk W2 (w.heap.size + 1 + 1) 64 23 (fun _ => 0) ∧ (L 0 = true → v 0 = (.int .i64 (p : Int))) ∧ (L 1 = true → v 1 = (.agg (bcells 64 (oneP)))) ∧ (L 2 = true → v 2 = (.agg (bcells 64 (m)))) ∧ (L 3 = true → v 3 = (.agg (bcells 64 (resP p oneP m)))) ∧ (L 4 = true → v 4 = (.int .i64 (p : Int))) ∧ (L 5 = true → v 5 = (.agg (bcells 64 (f)))) ∧ (L 6 = true → v 6 = (.agg (bcells 64 (m)))) ∧ (L 7 = true → v 7 = (.agg (bcells 64 (resP p f m)))) ∧ (L 8 = true → AF (v 8) W2 W1.heap.size 64 23) ∧ (L 9 = true → AF (v 9) W2 W1.heap.size 64 23) ∧ (L 10 = true → PF (v 8) W2 W1.heap.size 64 23 (resP p oneP m)) ∧ (L 11 = true → PF (v 9) W2 W1.heap.size 64 23 (resP p f m)) ∧ (L 8 = true → L 9 = true → v 8 ≠ v 9)) ?_ ?_ ?_
  · intro v hv0
    exact ⟨hb.drew, Nat.le_refl _, B0.drew, B1.drew, B2.drew, (fun h => by cases h), (fun h => by cases h), (fun h => by cases h), (fun h => by cases h), (fun h => by cases h), (fun h => by cases h), (fun h => by cases h), (fun h => by cases h), (fun h => by cases h), (fun h => by cases h), (fun h => by cases h), (fun h => by cases h), (fun h => by cases h)⟩
  · refine (.cons rfl ?_ (.cons rfl ?_ (.cons rfl ?_ (.cons rfl ?_ (.cons rfl ?_ (.cons rfl ?_ (.cons rfl ?_ (.cons rfl ?_ (.cons rfl ?_ (.cons rfl ?_ (.cons rfl ?_ (.cons rfl ?_ (.nil _)))))))))))))
    · intro L v W2 hd hn ⟨hB, hz, s0, s1, s2, h0, h1, h2, h3, h4, h5, h6, h7, h8, h9, h10, h11, d8_9⟩ K hK
      go_wp2_with fail
      exact hK _ (.int .i64 (p : Int)) _ (by simp only [Act.put, List.setIfInBounds_toArray, List.set_cons_zero, List.set_cons_succ ]) ⟨hB, hz, s0, s1, s2, (fun _ => rfl), h1, h2, h3, h4, h5, h6, h7, h8, h9, h10, h11, d8_9⟩
    · intro L v W2 hd hn ⟨hB, hz, s0, s1, s2, h0, h1, h2, h3, h4, h5, h6, h7, h8, h9, h10, h11, d8_9⟩ K hK
      go_wp2_with (go_at_call 75; refine (l01One_any _).mono ?_; rintro e wy ⟨rfl, hy⟩)
      exact hK _ (.agg (bcells 64 (oneP))) _ (by simp only [Act.put, List.setIfInBounds_toArray, List.set_cons_zero, List.set_cons_succ ]) ⟨hB.trans (hy.mono hB.size), (Nat.le_trans hz hy.size), (s0).below hy (s0).lt, (s1).below hy (s1).lt, (s2).below hy (s2).lt, h0, (fun _ => rfl), h2, h3, h4, h5, h6, h7, (fun h => (h8 h).below hy), (fun h => (h9 h).below hy), (fun h => (h10 h).below hy), (fun h => (h11 h).below hy), d8_9⟩
    · intro L v W2 hd hn ⟨hB, hz, s0, s1, s2, h0, h1, h2, h3, h4, h5, h6, h7, h8, h9, h10, h11, d8_9⟩ K hK
      refine wp_load_any 23 _ rfl _ rfl 64 23 _ s1 _ Try.underlying23 rfl Try.size23 ?_
      exact hK _ _ _ rfl ⟨hB, hz, s0, s1, s2, h0, h1, (fun _ => rfl), h3, h4, h5, h6, h7, h8, h9, h10, h11, d8_9⟩
    · intro L v W2 hd hn ⟨hB, hz, s0, s1, s2, h0, h1, h2, h3, h4, h5, h6, h7, h8, h9, h10, h11, d8_9⟩ K hK
      have e0 := h0 (hd ⟨0, .data⟩ (by simp) rfl)
      have e1 := h1 (hd ⟨1, .data⟩ (by simp) rfl)
      have e2 := h2 (hd ⟨2, .data⟩ (by simp) rfl)
      go_wp2_with (go_at_call 115; refine (HMO.out oneP HL1.out _).mono ?_; rintro e wy ⟨rfl, hy⟩)
      exact hK _ (.agg (bcells 64 (resP p oneP m))) _ (by simp only [Act.put, List.setIfInBounds_toArray, List.set_cons_zero, List.set_cons_succ, e0, e1, e2]) ⟨hB.trans (hy.mono hB.size), (Nat.le_trans hz hy.size), (s0).below hy (s0).lt, (s1).below hy (s1).lt, (s2).below hy (s2).lt, h0, h1, h2, (fun _ => rfl), h4, h5, h6, h7, (fun h => (h8 h).below hy), (fun h => (h9 h).below hy), (fun h => (h10 h).below hy), (fun h => (h11 h).below hy), d8_9⟩
    · intro L v W2 hd hn ⟨hB, hz, s0, s1, s2, h0, h1, h2, h3, h4, h5, h6, h7, h8, h9, h10, h11, d8_9⟩ K hK
      go_wp2_with fail
      exact hK _ (.int .i64 (p : Int)) _ (by simp only [Act.put, List.setIfInBounds_toArray, List.set_cons_zero, List.set_cons_succ ]) ⟨hB, hz, s0, s1, s2, h0, h1, h2, h3, (fun _ => rfl), h5, h6, h7, h8, h9, h10, h11, d8_9⟩
    · intro L v W2 hd hn ⟨hB, hz, s0, s1, s2, h0, h1, h2, h3, h4, h5, h6, h7, h8, h9, h10, h11, d8_9⟩ K hK
      refine wp_load_any 23 _ rfl _ rfl 64 23 _ s0 _ Try.underlying23 rfl Try.size23 ?_
      exact hK _ _ _ rfl ⟨hB, hz, s0, s1, s2, h0, h1, h2, h3, h4, (fun _ => rfl), h6, h7, h8, h9, h10, h11, d8_9⟩
    · intro L v W2 hd hn ⟨hB, hz, s0, s1, s2, h0, h1, h2, h3, h4, h5, h6, h7, h8, h9, h10, h11, d8_9⟩ K hK
      refine wp_load_any 23 _ rfl _ rfl 64 23 _ s1 _ Try.underlying23 rfl Try.size23 ?_
      exact hK _ _ _ rfl ⟨hB, hz, s0, s1, s2, h0, h1, h2, h3, h4, h5, (fun _ => rfl), h7, h8, h9, h10, h11, d8_9⟩
    · intro L v W2 hd hn ⟨hB, hz, s0, s1, s2, h0, h1, h2, h3, h4, h5, h6, h7, h8, h9, h10, h11, d8_9⟩ K hK
      have e4 := h4 (hd ⟨4, .data⟩ (by simp) rfl)
      have e5 := h5 (hd ⟨5, .data⟩ (by simp) rfl)
      have e6 := h6 (hd ⟨6, .data⟩ (by simp) rfl)
      go_wp2_with (go_at_call 115; refine (HMO.out f HLF.out _).mono ?_; rintro e wy ⟨rfl, hy⟩)
      exact hK _ (.agg (bcells 64 (resP p f m))) _ (by simp only [Act.put, List.setIfInBounds_toArray, List.set_cons_zero, List.set_cons_succ, e4, e5, e6]) ⟨hB.trans (hy.mono hB.size), (Nat.le_trans hz hy.size), (s0).below hy (s0).lt, (s1).below hy (s1).lt, (s2).below hy (s2).lt, h0, h1, h2, h3, h4, h5, h6, (fun _ => rfl), (fun h => (h8 h).below hy), (fun h => (h9 h).below hy), (fun h => (h10 h).below hy), (fun h => (h11 h).below hy), d8_9⟩
    · intro L v W2 hd hn ⟨hB, hz, s0, s1, s2, h0, h1, h2, h3, h4, h5, h6, h7, h8, h9, h10, h11, d8_9⟩ K hK
      go_wp2_with fail
      rw [← zero64]
      exact hK _ (.pointer (some ⟨W2.heap.size, 0, none⟩)) _ (by simp only [Act.put, List.setIfInBounds_toArray, List.set_cons_zero, List.set_cons_succ ]) ⟨hB.alloc hB.size _, (by simp; omega), (s0).alloc _, (s1).alloc _, (s2).alloc _, h0, h1, h2, h3, h4, h5, h6, h7, (fun _ => (PF.new W2 64 23 _ hz).af), (fun h => (h9 h).below (below_alloc' _ _)), (fun h => absurd rfl (hn 10 _ rfl h ⟨8, .data⟩ (by simp) rfl)), (fun h => (h11 h).below (below_alloc' _ _)), (fun h g1 => Ne.symm ((h9 g1).ne_new))⟩
    · intro L v W2 hd hn ⟨hB, hz, s0, s1, s2, h0, h1, h2, h3, h4, h5, h6, h7, h8, h9, h10, h11, d8_9⟩ K hK
      go_wp2_with fail
      rw [← zero64]
      exact hK _ (.pointer (some ⟨W2.heap.size, 0, none⟩)) _ (by simp only [Act.put, List.setIfInBounds_toArray, List.set_cons_zero, List.set_cons_succ ]) ⟨hB.alloc hB.size _, (by simp; omega), (s0).alloc _, (s1).alloc _, (s2).alloc _, h0, h1, h2, h3, h4, h5, h6, h7, (fun h => (h8 h).below (below_alloc' _ _)), (fun _ => (PF.new W2 64 23 _ hz).af), (fun h => (h10 h).below (below_alloc' _ _)), (fun h => absurd rfl (hn 11 _ rfl h ⟨9, .data⟩ (by simp) rfl)), (fun h g1 => (h8 h).ne_new)⟩
    · intro L v W2 hd hn ⟨hB, hz, s0, s1, s2, h0, h1, h2, h3, h4, h5, h6, h7, h8, h9, h10, h11, d8_9⟩ K hK
      have e3 := h3 (hd ⟨3, .data⟩ (by simp) rfl)
      obtain ⟨gz, b, ea, hN, hk⟩ := (h8 (hd ⟨8, .data⟩ (by simp) rfl)).out
      refine wp_store_blk 23 _ _ rfl b 64 (resP p oneP m) ea e3 23 gz hk Try.size23 ?_
      exact hK _ undef _ rfl ⟨below_row hB (Nat.le_trans hbase hN) _, (by simpa [World.setRow] using hz), (s0).rowOther (by omega), (s1).rowOther (by omega), (s2).rowOther (by omega), h0, h1, h2, h3, h4, h5, h6, h7, (fun h => (h8 h).row hk), (fun h => (h9 h).row hk), (fun _ => by rw [show updV v 10 undef 8 = v 8 from rfl, ea]; exact PF.row hk hN _), (fun h => (h11 h).rowOther (by rw [← ea]; exact (Ne.symm (d8_9 (hd ⟨8, .data⟩ (by simp) rfl) (hd ⟨9, .phase⟩ (by simp) rfl))))), d8_9⟩
    · intro L v W2 hd hn ⟨hB, hz, s0, s1, s2, h0, h1, h2, h3, h4, h5, h6, h7, h8, h9, h10, h11, d8_9⟩ K hK
      have e7 := h7 (hd ⟨7, .data⟩ (by simp) rfl)
      obtain ⟨gz, b, ea, hN, hk⟩ := (h9 (hd ⟨9, .data⟩ (by simp) rfl)).out
      refine wp_store_blk 23 _ _ rfl b 64 (resP p f m) ea e7 23 gz hk Try.size23 ?_
      exact hK _ undef _ rfl ⟨below_row hB (Nat.le_trans hbase hN) _, (by simpa [World.setRow] using hz), (s0).rowOther (by omega), (s1).rowOther (by omega), (s2).rowOther (by omega), h0, h1, h2, h3, h4, h5, h6, h7, (fun h => (h8 h).row hk), (fun h => (h9 h).row hk), (fun h => (h10 h).rowOther (by rw [← ea]; exact (d8_9 (hd ⟨8, .phase⟩ (by simp) rfl) (hd ⟨9, .data⟩ (by simp) rfl)))), (fun _ => by rw [show updV v 11 undef 9 = v 9 from rfl, ea]; exact PF.row hk hN _), d8_9⟩
  · intro L v W2 hL ⟨hB, hz, s0, s1, s2, h0, h1, h2, h3, h4, h5, h6, h7, h8, h9, h10, h11, d8_9⟩
    have e0 := h0 (hL 0 (by decide))
    have e1 := h1 (hL 1 (by decide))
    have e2 := h2 (hL 2 (by decide))
    have e3 := h3 (hL 3 (by decide))
    have e4 := h4 (hL 4 (by decide))
    have e5 := h5 (hL 5 (by decide))
    have e6 := h6 (hL 6 (by decide))
    have e7 := h7 (hL 7 (by decide))
    obtain ⟨k1_8, e8, hNk1_8, hk1_8⟩ := (h10 (hL 10 (by decide))).out
    obtain ⟨k1_9, e9, hNk1_9, hk1_9⟩ := (h11 (hL 11 (by decide))).out
    have n8_9 := d8_9 (hL 8 (by decide)) (hL 9 (by decide))
    clear hL h0 h1 h2 h3 h4 h5 h6 h7 h8 h9 h10 h11 d8_9
    rw [e8, e9] at n8_9
    have mk1_8_9 : k1_8 ≠ k1_9 := fun h => n8_9 (by rw [h])
    clear n8_9
    simp only [Exit.then, e0, e1, e2, e3, e4, e5, e6, e7, e8, e9]
    clear e0 e1 e2 e3 e4 e5 e6 e7 e8 e9
    clear B0
    have B0 := s0
    clear s0
    clear B1
    have B1 := s1
    clear s1
    clear B2
    have B2 := s2
    clear s2
    clear hb
    have hb := hB
    clear hB
    have B3 := hk1_8
    clear hk1_8
    have zk1_8_0 : w.heap.size < k1_8 := by omega
    have zk1_8_1 : w.heap.size + 1 < k1_8 := by omega
    have zk1_8_2 : w.heap.size + 1 + 1 < k1_8 := by omega
    have B4 := hk1_9
    clear hk1_9
    have zk1_9_0 : w.heap.size < k1_9 := by omega
    have zk1_9_1 : w.heap.size + 1 < k1_9 := by omega
    have zk1_9_2 : w.heap.size + 1 + 1 < k1_9 := by omega
    clear hbase hz lt_B0 lt_B1 lt_B2
    go_wp2_with fail
    go_loopw [2] (fun i wr => ∃ (q k : Nat) (po ps : Nat → Nat), Hid (pmP p f k0 m = pmR p m q k po ps) ∧ k < 2 ^ q ∧ (k : Int) ≤ 1000000000000 ∧ Hid (∀ i, i < 64 → po i < p) ∧ Hid (∀ i, i < 64 → ps i < p) ∧ i = .int .i64 (k : Int) ∧ Below w.heap.size w wr ∧ Blk wr (w.heap.size + 1) 64 23 m ∧ Blk wr (w.heap.size + 1 + 1) 64 23 (fun _ => 0) ∧ Blk wr k1_8 64 23 po ∧ Blk wr k1_9 64 23 ps) (fun i _ => (intOf i).toNat)
    case atStart => exact ⟨64, k0, _, _, Lib.hid rfl, (by have h6 : (1000000000000 : Nat) < 2 ^ 64 := (by decide); omega), hk0, Lib.hid (resP_lt p0 l1), Lib.hid (resP_lt p0 lf), rfl, hb, B1, B2, B3, B4⟩
    case round =>
      clear hb B0 B1 B2 B3 B4
      obtain ⟨q, k, po, ps, hP, hkq, hk, ho, hs, rfl, hb, B1, B2, B3, B4⟩ := hrel
      have HKQ := Lib.hid hkq
      clear hkq hk0
      by_cases hz : k = 0
      · subst hz
        have HV := Lib.hid (hP.out.trans pmR_z)
        go_upto_region 7 with (fail)
        have lt_B1 := B1.lt
        have lt_B2 := B2.lt
        have lt_B3 := B3.lt
        have lt_B4 := B4.lt
        go_wp2_with (first | rw [← zero64] | (refine wpList_load_any rfl 23 (.tmp 9) rfl _ rfl 64 23 _ (B3) _ Try.underlying23 rfl Try.size23 ?_) | (refine wpList_store_blk rfl 23 (.tmp 8) (.tmp 36) rfl _ 64 (po) rfl rfl 23 _ (B2) Try.size23 ?_; try simp only [Act.put]))
        have qB1 : Blk (wr.setRow (w.heap.size + 1 + 1) (bcells 64 (po))) (w.heap.size + 1) 64 23 (m) := (B1.rowOther (by omega))
        have qB2 : Blk (wr.setRow (w.heap.size + 1 + 1) (bcells 64 (po))) (w.heap.size + 1 + 1) 64 23 (po) := (B2.row (po))
        have qB3 : Blk (wr.setRow (w.heap.size + 1 + 1) (bcells 64 (po))) (k1_8) 64 23 (po) := (B3.rowOther (by omega))
        have qB4 : Blk (wr.setRow (w.heap.size + 1 + 1) (bcells 64 (po))) (k1_9) 64 23 (ps) := (B4.rowOther (by omega))
        have qhb : Below w.heap.size w (wr.setRow (w.heap.size + 1 + 1) (bcells 64 (po))) := (below_row hb (by omega) _)
        obtain ⟨W3, hwo⟩ : ∃ v : World, v = (wr.setRow (w.heap.size + 1 + 1) (bcells 64 (po))) := ⟨_, rfl⟩
        rw [← hwo] at qB1 qB2 qB3 qB4 qhb ⊢
        clear hwo
        clear B1 B2 B3 B4 hb
        have B1 := qB1
        have B2 := qB2
        have B3 := qB3
        have B4 := qB4
        have hb := qhb
        clear qB1 qB2 qB3 qB4 qhb
        try simp only [Act.put, List.setIfInBounds_toArray, List.set_cons_zero, List.set_cons_succ]
        refine bodyPost_ret (results_blk rfl _ _ _ 64 23 5 _ rfl B2 Try.underlying23 Try.size23) rfl ⟨by rw [HV.out], hb⟩
      · obtain ⟨q, rfl⟩ : ∃ t, q = t + 1 := ⟨q - 1, by have h1 := HKQ.out; have h2 : q ≠ 0 := (by intro h; rw [h, Nat.pow_zero] at h1; omega); omega⟩
        have hpos : (0 : Int) < (k : Int) := by omega
        by_cases hodd : k % 2 = 1
        · have hb1 : (((k : Int) % 2) == 1) = true := beq_iff_eq.2 (by omega)
          have hb2 : (((k : Int).tmod 2) == 1) = true := by rw [Int.tmod_eq_emod_of_nonneg (by omega)]; exact hb1
          have HV := Lib.hid (hP.out.trans (pmR_odd hz hodd))
          have HD := Lib.hid (show k / 2 < 2 ^ q by have := HKQ.out; rw [Nat.pow_succ] at this; omega)
          clear hodd hz hP
          go_upto_region 5 with (fail)
          clear hb1 hb2
          have lt_B1 := B1.lt
          have lt_B2 := B2.lt
          have lt_B3 := B3.lt
          have lt_B4 := B4.lt
          go_upto_region 6 with (first | rw [← zero64] | (refine wpList_load_any rfl 23 (.tmp 9) rfl _ rfl 64 23 _ (B3) _ Try.underlying23 rfl Try.size23 ?_) | (refine wpList_load_any rfl 23 (.tmp 10) rfl _ rfl 64 23 _ (B4) _ Try.underlying23 rfl Try.size23 ?_) | (refine wpList_load_any rfl 23 (.tmp 7) rfl _ rfl 64 23 _ (B1) _ Try.underlying23 rfl Try.size23 ?_) | (go_at_call 163; refine (HMM.out po ps ho.out hs.out _).mono ?_; rintro e W3 ⟨rfl, hW3⟩; replace B1 := B1.below hW3 B1.lt; replace B2 := B2.below hW3 B2.lt; replace B3 := B3.below hW3 B3.lt; replace B4 := B4.below hW3 B4.lt; replace hb := (hb).trans (hW3.mono (hb).size)) | (refine wpList_store_blk rfl 23 (.tmp 9) (.tmp 30) rfl _ 64 (mmP p po ps m) rfl rfl 23 _ (B3) Try.size23 ?_; try simp only [Act.put]))
          have qB1 : Blk (W3.setRow (k1_8) (bcells 64 (mmP p po ps m))) (w.heap.size + 1) 64 23 (m) := (B1.rowOther (by omega))
          have qB2 : Blk (W3.setRow (k1_8) (bcells 64 (mmP p po ps m))) (w.heap.size + 1 + 1) 64 23 (fun _ => 0) := (B2.rowOther (by omega))
          have qB3 : Blk (W3.setRow (k1_8) (bcells 64 (mmP p po ps m))) (k1_8) 64 23 (mmP p po ps m) := (B3.row (mmP p po ps m))
          have qB4 : Blk (W3.setRow (k1_8) (bcells 64 (mmP p po ps m))) (k1_9) 64 23 (ps) := (B4.rowOther (by omega))
          have qhb : Below w.heap.size w (W3.setRow (k1_8) (bcells 64 (mmP p po ps m))) := (below_row hb (by omega) _)
          obtain ⟨W4, hwo⟩ : ∃ v : World, v = (W3.setRow (k1_8) (bcells 64 (mmP p po ps m))) := ⟨_, rfl⟩
          rw [← hwo] at qB1 qB2 qB3 qB4 qhb ⊢
          clear hwo
          clear B1 B2 B3 B4 hb
          have B1 := qB1
          have B2 := qB2
          have B3 := qB3
          have B4 := qB4
          have hb := qhb
          clear qB1 qB2 qB3 qB4 qhb
          try simp only [Act.put, List.setIfInBounds_toArray, List.set_cons_zero, List.set_cons_succ]
          have lt_B1 := B1.lt
          have lt_B2 := B2.lt
          have lt_B3 := B3.lt
          have lt_B4 := B4.lt
          go_wp2_with (first | rw [← zero64] | (refine wpList_load_any rfl 23 (.tmp 10) rfl _ rfl 64 23 _ (B4) _ Try.underlying23 rfl Try.size23 ?_) | (refine wpList_load_any rfl 23 (.tmp 10) rfl _ rfl 64 23 _ (B4) _ Try.underlying23 rfl Try.size23 ?_) | (refine wpList_load_any rfl 23 (.tmp 7) rfl _ rfl 64 23 _ (B1) _ Try.underlying23 rfl Try.size23 ?_) | (go_at_call 163; refine (HMM.out ps ps hs.out hs.out _).mono ?_; rintro e W5 ⟨rfl, hW5⟩; replace B1 := B1.below hW5 B1.lt; replace B2 := B2.below hW5 B2.lt; replace B3 := B3.below hW5 B3.lt; replace B4 := B4.below hW5 B4.lt; replace hb := (hb).trans (hW5.mono (hb).size)) | (refine wpList_store_blk rfl 23 (.tmp 10) (.tmp 35) rfl _ 64 (mmP p ps ps m) rfl rfl 23 _ (B4) Try.size23 ?_; try simp only [Act.put]))
          have qB1 : Blk (W5.setRow (k1_9) (bcells 64 (mmP p ps ps m))) (w.heap.size + 1) 64 23 (m) := (B1.rowOther (by omega))
          have qB2 : Blk (W5.setRow (k1_9) (bcells 64 (mmP p ps ps m))) (w.heap.size + 1 + 1) 64 23 (fun _ => 0) := (B2.rowOther (by omega))
          have qB3 : Blk (W5.setRow (k1_9) (bcells 64 (mmP p ps ps m))) (k1_8) 64 23 (mmP p po ps m) := (B3.rowOther (by omega))
          have qB4 : Blk (W5.setRow (k1_9) (bcells 64 (mmP p ps ps m))) (k1_9) 64 23 (mmP p ps ps m) := (B4.row (mmP p ps ps m))
          have qhb : Below w.heap.size w (W5.setRow (k1_9) (bcells 64 (mmP p ps ps m))) := (below_row hb (by omega) _)
          obtain ⟨W6, hwo⟩ : ∃ v : World, v = (W5.setRow (k1_9) (bcells 64 (mmP p ps ps m))) := ⟨_, rfl⟩
          rw [← hwo] at qB1 qB2 qB3 qB4 qhb ⊢
          clear hwo
          clear B1 B2 B3 B4 hb
          have B1 := qB1
          have B2 := qB2
          have B3 := qB3
          have B4 := qB4
          have hb := qhb
          clear qB1 qB2 qB3 qB4 qhb
          try simp only [Act.put, List.setIfInBounds_toArray, List.set_cons_zero, List.set_cons_succ]
          go_roundw
          case rel => exact ⟨q, k / 2, mmP p po ps m, mmP p ps ps m, HV, HD.out, by omega, Lib.hid (fun i hi => mmP_lt p0 i (by omega)), Lib.hid (fun i hi => mmP_lt p0 i (by omega)), by rw [show ((k / 2 : Nat) : Int) = (k : Int) / 2 by push_cast; rfl], hb, B1, B2, B3, B4⟩
          case measure => simp [intOf] <;> omega
        · have hb1 : (((k : Int) % 2) == 1) = false := beq_eq_false_iff_ne.2 (by omega)
          have hb2 : (((k : Int).tmod 2) == 1) = false := by rw [Int.tmod_eq_emod_of_nonneg (by omega)]; exact hb1
          have HV := Lib.hid (hP.out.trans (pmR_even hz hodd))
          have HD := Lib.hid (show k / 2 < 2 ^ q by have := HKQ.out; rw [Nat.pow_succ] at this; omega)
          clear hodd hz hP
          go_upto_region 6 with (fail)
          clear hb1 hb2
          have lt_B1 := B1.lt
          have lt_B2 := B2.lt
          have lt_B3 := B3.lt
          have lt_B4 := B4.lt
          go_wp2_with (first | rw [← zero64] | (refine wpList_load_any rfl 23 (.tmp 10) rfl _ rfl 64 23 _ (B4) _ Try.underlying23 rfl Try.size23 ?_) | (refine wpList_load_any rfl 23 (.tmp 10) rfl _ rfl 64 23 _ (B4) _ Try.underlying23 rfl Try.size23 ?_) | (refine wpList_load_any rfl 23 (.tmp 7) rfl _ rfl 64 23 _ (B1) _ Try.underlying23 rfl Try.size23 ?_) | (go_at_call 163; refine (HMM.out ps ps hs.out hs.out _).mono ?_; rintro e W3 ⟨rfl, hW3⟩; replace B1 := B1.below hW3 B1.lt; replace B2 := B2.below hW3 B2.lt; replace B3 := B3.below hW3 B3.lt; replace B4 := B4.below hW3 B4.lt; replace hb := (hb).trans (hW3.mono (hb).size)) | (refine wpList_store_blk rfl 23 (.tmp 10) (.tmp 35) rfl _ 64 (mmP p ps ps m) rfl rfl 23 _ (B4) Try.size23 ?_; try simp only [Act.put]))
          have qB1 : Blk (W3.setRow (k1_9) (bcells 64 (mmP p ps ps m))) (w.heap.size + 1) 64 23 (m) := (B1.rowOther (by omega))
          have qB2 : Blk (W3.setRow (k1_9) (bcells 64 (mmP p ps ps m))) (w.heap.size + 1 + 1) 64 23 (fun _ => 0) := (B2.rowOther (by omega))
          have qB3 : Blk (W3.setRow (k1_9) (bcells 64 (mmP p ps ps m))) (k1_8) 64 23 (po) := (B3.rowOther (by omega))
          have qB4 : Blk (W3.setRow (k1_9) (bcells 64 (mmP p ps ps m))) (k1_9) 64 23 (mmP p ps ps m) := (B4.row (mmP p ps ps m))
          have qhb : Below w.heap.size w (W3.setRow (k1_9) (bcells 64 (mmP p ps ps m))) := (below_row hb (by omega) _)
          obtain ⟨W4, hwo⟩ : ∃ v : World, v = (W3.setRow (k1_9) (bcells 64 (mmP p ps ps m))) := ⟨_, rfl⟩
          rw [← hwo] at qB1 qB2 qB3 qB4 qhb ⊢
          clear hwo
          clear B1 B2 B3 B4 hb
          have B1 := qB1
          have B2 := qB2
          have B3 := qB3
          have B4 := qB4
          have hb := qhb
          clear qB1 qB2 qB3 qB4 qhb
          try simp only [Act.put, List.setIfInBounds_toArray, List.set_cons_zero, List.set_cons_succ]
          go_roundw
          case rel => exact ⟨q, k / 2, po, mmP p ps ps m, HV, HD.out, by omega, ho, Lib.hid (fun i hi => mmP_lt p0 i (by omega)), by rw [show ((k / 2 : Nat) : Int) = (k : Int) / 2 by push_cast; rfl], hb, B1, B2, B3, B4⟩
          case measure => simp [intOf] <;> omega
end Go.Proofs.Ytbjpkmbhbpcbgaa
