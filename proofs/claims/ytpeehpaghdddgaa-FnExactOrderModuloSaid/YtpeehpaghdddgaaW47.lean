/-
  Walks: orders of residues.
-/
import Derived.Test.YtpeehpaghdddgaaW46
namespace Go.Proofs.Ytpeehpaghdddgaa
open Go Go.RowKit
set_option linter.unusedVariables false
set_option linter.unusedSimpArgs false
attribute [local irreducible] deg facRows run pmP euG bzD
/-- one prime number taken out, as often as it divides -/
def odI (T : Nat → Bool) : Nat → Nat → Nat → Nat → Nat × Nat
  | 0, _, l, o => (l, o)
  | f + 1, q, l, o => if l % q = 0 then odI T f q (l / q) (if T (o / q) = true then o / q else o) else (l, o)
def odO (T : Nat → Bool) : Nat → Nat → Nat → Nat → Nat
  | 0, _, _, o => o
  | f + 1, q, l, o => if 1 < l then odO T f (q + 1) (odI T l q l o).1 (odI T l q l o).2 else o
theorem odI_stop {T : Nat → Bool} {f q l o : Nat} (h : ¬ l % q = 0) : odI T f q l o = (l, o) := by
  cases f with
  | zero => rfl
  | succ f => rw [odI, if_neg h]
theorem odI_yes {T : Nat → Bool} {f q l o : Nat} (h : l % q = 0) (ht : T (o / q) = true) : odI T (f + 1) q l o = odI T f q (l / q) (o / q) := by rw [odI, if_pos h, if_pos ht]
theorem odI_no {T : Nat → Bool} {f q l o : Nat} (h : l % q = 0) (ht : T (o / q) = false) : odI T (f + 1) q l o = odI T f q (l / q) o := by rw [odI, if_pos h, if_neg (by rw [ht]; simp)]
theorem odO_stop {T : Nat → Bool} {f q l o : Nat} (h : ¬ 1 < l) : odO T f q l o = o := by
  cases f with
  | zero => rfl
  | succ f => rw [odO, if_neg h]
theorem odO_step {T : Nat → Bool} {f q l o l2 o2 : Nat} (h : 1 < l) (h2 : odI T l q l o = (l2, o2)) : odO T (f + 1) q l o = odO T f (q + 1) l2 o2 := by rw [odO, if_pos h, h2]
/-- the Euler number is not great -/
theorem euG_le {p : Nat} (hp2 : 2 ≤ p) (hp7 : p ≤ 7) : ∀ (l : List (Nat × Nat)) (t s : Nat), (∀ x ∈ l, 1 ≤ x.2 ∧ 1 ≤ deg (ofN p x.1)) → 1 ≤ t → t ≤ p ^ s → s + wtS p l ≤ 12 → 1 ≤ euG p t l ∧ euG p t l ≤ 13841287201
  | [], t, s, _, h1, h2, h3 => by
    have e : euG p t [] = t := by unfold euG; rfl
    rw [e]
    exact ⟨h1, Nat.le_trans h2 (mon_bound hp7 (by have : wtS p [] = 0 := rfl; omega))⟩
  | x :: l, t, s, hx, h1, h2, h3 => by
    obtain ⟨a1, a2⟩ := hx x (by simp)
    obtain ⟨N, K⟩ := x
    dsimp only at a1 a2
    obtain ⟨k0, rfl⟩ : ∃ k, K = k + 1 := ⟨K - 1, by omega⟩
    obtain ⟨d, hd⟩ : ∃ d, d = (deg (ofN p N)).toNat := ⟨_, rfl⟩
    have hw : wtS p ((N, k0 + 1) :: l) = d * (k0 + 1) + wtS p l := by rw [hd]; rfl
    rw [hw] at h3
    have r := eu_round (d := d) (k0 := k0) hp2 hp7 h2 (by omega)
    have e : euG p t ((N, k0 + 1) :: l) = euG p (t * ((p ^ d - 1) * p ^ (d * k0))) l := by
      rw [hd, euG, euU, Nat.add_sub_cancel]
    rw [e]
    have hpd : 2 ≤ p ^ d := by
      have : p ^ 1 ≤ p ^ d := Nat.pow_le_pow_right (by omega) (by omega)
      rw [Nat.pow_one] at this; omega
    have h4 : 1 * (1 * 1) ≤ t * ((p ^ d - 1) * p ^ (d * k0)) := Nat.mul_le_mul h1 (Nat.mul_le_mul (by omega) (Nat.pow_pos (by omega)))
    exact euG_le hp2 hp7 l _ (s + d * (k0 + 1)) (fun y hy => hx y (by simp [hy])) (by omega) r.1 (by omega)
def euN (p : Nat) (m : Nat → Nat) : Nat := euG p 1 (run p 64 1 m)
theorem euN_le {p : Nat} {m : Nat → Nat} (hp : p = 2 ∨ p = 3 ∨ p = 5 ∨ p = 7) (lm : ∀ k, k < 64 → m k < p) (h0 : 0 ≤ deg m) (h12 : deg m ≤ 12) : 1 ≤ euN p m ∧ euN p m ≤ 13841287201 := by
  obtain ⟨_, h2, h3⟩ := run_ok hp lm h0 h12
  exact euG_le (by omega) (by omega) _ 1 0 h3 (Nat.le_refl _) (by rw [Nat.pow_zero]; exact Nat.le_refl _) (by omega)
/-- the power is 1 -/
def tsT (p : Nat) (f m : Nat → Nat) (k : Nat) : Bool := eqN 64 (pmP p f k m) oneP
/-- the order -/
def odN (p : Nat) (f m : Nat → Nat) : Nat := odO (tsT p f m) (euN p m + 2) 2 (euN p m) (euN p m)
attribute [local irreducible] odI odO euN tsT
set_option maxRecDepth 100000 in
set_option maxHeartbeats 3200000 in
theorem l02Order_any (p : Nat) (f m : Nat → Nat) (w : World) (hpr : p = 2 ∨ p = 3 ∨ p = 5 ∨ p = 7) (lf : ∀ k, k < 64 → f k < p) (lm : ∀ k, k < 64 → m k < p) (h0 : 0 ≤ deg m) (h12 : deg m ≤ 12) :
    Calls Try.prog 111 #[.int .i64 (p : Int), .agg (bcells 64 f), .agg (bcells 64 m)] w fun e w' => e = .returned (.int .i64 (odN p f m : Int)) ∧ Below w.heap.size w w' := by
  obtain ⟨E, hE⟩ : ∃ E, E = euN p m := ⟨_, rfl⟩
  have HEU := Lib.hid (show ∀ W, Calls Try.prog 107 #[.int .i64 (p : Int), .agg (bcells 64 m)] W fun e w' => e = .returned (.int .i64 (E : Int)) ∧ Below W.heap.size W w' by
    intro W; have := l02Euler_any p m W hpr lm h0 h12; rw [hE]; unfold euN; exact this)
  obtain ⟨E1, E2⟩ := euN_le hpr lm h0 h12
  rw [← hE] at E1 E2
  have HOD := Lib.hid (show odN p f m = odO (tsT p f m) (E + 2) 2 E E by unfold odN; rw [← hE])
  have HPM := Lib.hid (show ∀ k : Nat, k ≤ E → ∀ W, Calls Try.prog 88 #[.int .i64 (p : Int), .agg (bcells 64 f), .int .i64 (k : Int), .agg (bcells 64 m)] W fun e w' => e = .returned (.agg (bcells 64 (pmP p f k m))) ∧ Below W.heap.size W w' from
    fun k hk W => l01PowMod_any p f k m W hpr lf lm h0 (by omega))
  clear hE
  go_enter Try.func111, Try.ntmps111
  go_upto_region 1 with (fail)
  obtain ⟨W1, hwo⟩ : ∃ v : World, v = ((w.alloc (.cells (bcells 64 (f)) 26)).alloc (.cells (bcells 64 (m)) 26)) := ⟨_, rfl⟩
  have B0 : Blk W1 (w.heap.size) 64 26 (f) := by subst hwo; have := ((Blk.new w 64 26 (f)).alloc (.cells (bcells 64 (m)) 26)); simpa using this
  have B1 : Blk W1 (w.heap.size + 1) 64 26 (m) := by subst hwo; have := (Blk.new (w.alloc (.cells (bcells 64 (f)) 26)) 64 26 (m)); simpa using this
  have hb : Below w.heap.size w W1 := by subst hwo; exact (((Below.refl _ _).alloc (Nat.le_refl _) _).alloc (by simp) _)
  rw [← hwo]
  clear hwo
  go_upto_region 2 with (first | (refine wpList_load_any rfl 26 (.tmp 5) rfl _ rfl 64 26 _ (B1) _ Try.underlying26 rfl Try.size26 ?_) | (go_at_call 107; refine (HEU.out _).mono ?_; rintro e W2 ⟨rfl, hW2⟩; replace B0 := B0.below hW2 B0.lt; replace B1 := B1.below hW2 B1.lt; replace hb := (hb).trans (hW2.mono (hb).size)))
  clear HEU
  go_wp2_with fail
  go_loopw [7, 8, 9] (fun o l q wr => ∃ (fu O L Q : Nat), o = .int .i64 (O : Int) ∧ l = .int .i64 (L : Int) ∧ q = .int .i64 (Q : Int) ∧ Hid (odN p f m = odO (tsT p f m) fu Q L O) ∧ Q + fu = E + 4 ∧ 2 ≤ Q ∧ 1 ≤ L ∧ L ≤ E ∧ O ≤ E ∧ Hid (∀ d, 2 ≤ d → d < Q → ¬ d ∣ L) ∧ Below w.heap.size w wr ∧ Blk wr (w.heap.size) 64 26 f ∧ Blk wr (w.heap.size + 1) 64 26 m) (fun _ _ q _ => E + 5 - (intOf q).toNat)
  case atStart => exact ⟨E + 2, E, E, 2, rfl, rfl, rfl, HOD, by omega, by omega, E1, Nat.le_refl _, Nat.le_refl _, Lib.hid (fun d h1 h2 => by omega), hb, B0, B1⟩
  case round =>
    clear hb B0 B1 HOD
    obtain ⟨fu, O, L, Q, rfl, rfl, rfl, hO, hfu, hQ2, hL1, hLE, hOE, hdv, hb, B0, B1⟩ := hrel
    have HFU := Lib.hid hfu
    have hQE : Q ≤ E + 4 := by omega
    clear hfu
    by_cases hL : 1 < L
    · have hQL : Q ≤ L := by
        by_cases h : Q ≤ L
        · exact h
        · exact absurd (Nat.dvd_refl L) (hdv.out L (by omega) (by omega))
      obtain ⟨fu, rfl⟩ : ∃ g, fu = g + 1 := ⟨fu - 1, by have := HFU.out; omega⟩
      go_wp2_with fail
      go_loopw [7, 8] (fun o l wr => ∃ (fi O1 L1 : Nat), o = .int .i64 (O1 : Int) ∧ l = .int .i64 (L1 : Int) ∧ Hid (odI (tsT p f m) L Q L O = odI (tsT p f m) fi Q L1 O1) ∧ L1 ≤ fi ∧ 1 ≤ L1 ∧ L1 ≤ L ∧ Hid (L1 ∣ L) ∧ O1 ≤ E ∧ Below w.heap.size w wr ∧ Blk wr (w.heap.size) 64 26 f ∧ Blk wr (w.heap.size + 1) 64 26 m) (fun _ l _ => (intOf l).toNat)
      case atStart => exact ⟨L, O, L, rfl, rfl, Lib.hid rfl, Nat.le_refl _, hL1, Nat.le_refl _, Lib.hid (Nat.dvd_refl _), hOE, hb, B0, B1⟩
      case round =>
        clear hb B0 B1
        obtain ⟨fi, O1, L1, rfl, rfl, hI, hfi, hL11, hL1L, hLd, hO1, hb, B0, B1⟩ := hrel
        have tq1 : (L1 : Int).tmod (Q : Int) = ((L1 % Q : Nat) : Int) := by rw [Int.tmod_eq_emod_of_nonneg (by omega)]; rfl
        by_cases hd : L1 % Q = 0
        · obtain ⟨fi, rfl⟩ : ∃ g, fi = g + 1 := ⟨fi - 1, by omega⟩
          rw [hd] at tq1
          obtain ⟨L2, hL2⟩ : ∃ x, x = L1 / Q := ⟨_, rfl⟩
          obtain ⟨O2, hO2⟩ : ∃ x, x = O1 / Q := ⟨_, rfl⟩
          have tq2 : (L1 : Int).tdiv (Q : Int) = (L2 : Int) := by rw [Int.tdiv_eq_ediv_of_nonneg (by omega), hL2]; rfl
          have tq3 : (O1 : Int).tdiv (Q : Int) = (O2 : Int) := by rw [Int.tdiv_eq_ediv_of_nonneg (by omega), hO2]; rfl
          have hm2 : L2 * Q = L1 := by rw [hL2]; exact Nat.div_mul_cancel (Nat.dvd_of_mod_eq_zero hd)
          have hL21 : 1 ≤ L2 := by
            by_cases h : L2 = 0
            · rw [h] at hm2; omega
            · omega
          have hL22 : L2 * 2 ≤ L1 := by rw [← hm2]; exact Nat.mul_le_mul_left L2 hQ2
          have HLD := Lib.hid (show L2 ∣ L from Nat.dvd_trans ⟨Q, hm2.symm⟩ hLd.out)
          have hO2E : O2 ≤ E := by rw [hO2]; exact Nat.le_trans (Nat.div_le_self _ _) hO1
          have hO21 : O2 ≤ O1 := by rw [hO2]; exact Nat.div_le_self _ _
          have HPM2 := Lib.hid (HPM.out O2 hO2E)
          cases hT : eqN 64 (pmP p f O2 m) oneP with
          | true =>
            have HI2 := Lib.hid (show odI (tsT p f m) L Q L O = odI (tsT p f m) fi Q L2 O2 by rw [hI.out, odI_yes hd (by rw [← hO2]; unfold tsT; exact hT), ← hL2, ← hO2])
            have hgd := Try.noGuard26
            have heq := fun W => run_equalIn_bytes (P := Try.prog) W 9998 26 5 64 (pmP p f O2 m) oneP Try.underlying26 Try.underlying5 Try.size5
            rw [hT] at heq
            clear hT hI hL2 hO2 hm2 hd hLd
            go_upto_region 8 with (fail)
            have lt_B0 : (w.heap.size) < wr.heap.size := B0.lt
            have lt_B1 : (w.heap.size + 1) < wr.heap.size := B1.lt
            have hbase : w.heap.size ≤ wr.heap.size := hb.size
            refine wp_region_steps0 Try.mixed (by kernel_rfl) (by kernel_rfl) (fun v => by (simp only [frL, Act.put, List.setIfInBounds_toArray, List.set_cons_zero, List.set_cons_succ, Nat.reduceAdd, Nat.zero_add]; exact rfl))
              (fun L v W3 => Below w.heap.size w W3 ∧ wr.heap.size ≤ W3.heap.size ∧ Blk W3 (w.heap.size) 64 26 (f) ∧ Blk W3 (w.heap.size + 1) 64 26 (m) ∧ (L 0 = true → v 0 = (.int .i64 (p : Int))) ∧ (L 1 = true → v 1 = (.agg (bcells 64 (f)))) ∧ (L 2 = true → v 2 = (.int .i64 (O1 : Int))) ∧ (L 3 = true → v 3 = (.int .i64 (Q : Int))) ∧ (L 4 = true → v 4 = (.int .i64 (O2 : Int))) ∧ (L 5 = true → v 5 = (.agg (bcells 64 (m)))) ∧ (L 6 = true → v 6 = (.agg (bcells 64 (pmP p f O2 m)))) ∧ (L 7 = true → v 7 = (.agg (bcells 64 (oneP)))) ∧ (L 8 = true → v 8 = (.bool true))) ?_ ?_ ?_
            · intro v hv0
              exact ⟨hb.drew, Nat.le_refl _, B0.drew, B1.drew, (fun h => by cases h), (fun h => by cases h), (fun h => by cases h), (fun h => by cases h), (fun h => by cases h), (fun h => by cases h), (fun h => by cases h), (fun h => by cases h), (fun h => by cases h)⟩
            · refine (.cons rfl ?_ (.cons rfl ?_ (.cons rfl ?_ (.cons rfl ?_ (.cons rfl ?_ (.cons rfl ?_ (.cons rfl ?_ (.cons rfl ?_ (.cons rfl ?_ (.nil _))))))))))
              · intro L v W3 hd hn ⟨hB, hz, s0, s1, h0, h1, h2, h3, h4, h5, h6, h7, h8⟩ K hK
                go_wp2_with fail
                exact hK _ (.int .i64 (p : Int)) _ (by simp only [Act.put, List.setIfInBounds_toArray, List.set_cons_zero, List.set_cons_succ ]) ⟨hB, hz, s0, s1, (fun _ => rfl), h1, h2, h3, h4, h5, h6, h7, h8⟩
              · intro L v W3 hd hn ⟨hB, hz, s0, s1, h0, h1, h2, h3, h4, h5, h6, h7, h8⟩ K hK
                refine wp_load_any 26 _ rfl _ rfl 64 26 _ s0 _ Try.underlying26 rfl Try.size26 ?_
                exact hK _ _ _ rfl ⟨hB, hz, s0, s1, h0, (fun _ => rfl), h2, h3, h4, h5, h6, h7, h8⟩
              · intro L v W3 hd hn ⟨hB, hz, s0, s1, h0, h1, h2, h3, h4, h5, h6, h7, h8⟩ K hK
                go_wp2_with fail
                exact hK _ (.int .i64 (O1 : Int)) _ (by simp only [Act.put, List.setIfInBounds_toArray, List.set_cons_zero, List.set_cons_succ ]) ⟨hB, hz, s0, s1, h0, h1, (fun _ => rfl), h3, h4, h5, h6, h7, h8⟩
              · intro L v W3 hd hn ⟨hB, hz, s0, s1, h0, h1, h2, h3, h4, h5, h6, h7, h8⟩ K hK
                go_wp2_with fail
                exact hK _ (.int .i64 (Q : Int)) _ (by simp only [Act.put, List.setIfInBounds_toArray, List.set_cons_zero, List.set_cons_succ ]) ⟨hB, hz, s0, s1, h0, h1, h2, (fun _ => rfl), h4, h5, h6, h7, h8⟩
              · intro L v W3 hd hn ⟨hB, hz, s0, s1, h0, h1, h2, h3, h4, h5, h6, h7, h8⟩ K hK
                have e2 := h2 (hd ⟨2, .data⟩ (by simp) rfl)
                have e3 := h3 (hd ⟨3, .data⟩ (by simp) rfl)
                go_wp2_with fail
                exact hK _ (.int .i64 (O2 : Int)) _ (by simp only [Act.put, List.setIfInBounds_toArray, List.set_cons_zero, List.set_cons_succ, e2, e3]) ⟨hB, hz, s0, s1, h0, h1, h2, h3, (fun _ => rfl), h5, h6, h7, h8⟩
              · intro L v W3 hd hn ⟨hB, hz, s0, s1, h0, h1, h2, h3, h4, h5, h6, h7, h8⟩ K hK
                refine wp_load_any 26 _ rfl _ rfl 64 26 _ s1 _ Try.underlying26 rfl Try.size26 ?_
                exact hK _ _ _ rfl ⟨hB, hz, s0, s1, h0, h1, h2, h3, h4, (fun _ => rfl), h6, h7, h8⟩
              · intro L v W3 hd hn ⟨hB, hz, s0, s1, h0, h1, h2, h3, h4, h5, h6, h7, h8⟩ K hK
                have e0 := h0 (hd ⟨0, .data⟩ (by simp) rfl)
                have e1 := h1 (hd ⟨1, .data⟩ (by simp) rfl)
                have e4 := h4 (hd ⟨4, .data⟩ (by simp) rfl)
                have e5 := h5 (hd ⟨5, .data⟩ (by simp) rfl)
                go_wp2_with (go_at_call 88; refine (HPM2.out _).mono ?_; rintro e wy ⟨rfl, hy⟩)
                exact hK _ (.agg (bcells 64 (pmP p f O2 m))) _ (by simp only [Act.put, List.setIfInBounds_toArray, List.set_cons_zero, List.set_cons_succ, e0, e1, e4, e5]) ⟨hB.trans (hy.mono hB.size), (Nat.le_trans hz hy.size), (s0).below hy (s0).lt, (s1).below hy (s1).lt, h0, h1, h2, h3, h4, h5, (fun _ => rfl), h7, h8⟩
              · intro L v W3 hd hn ⟨hB, hz, s0, s1, h0, h1, h2, h3, h4, h5, h6, h7, h8⟩ K hK
                go_wp2_with (go_at_call 82; refine (l01One_any _).mono ?_; rintro e wy ⟨rfl, hy⟩)
                exact hK _ (.agg (bcells 64 (oneP))) _ (by simp only [Act.put, List.setIfInBounds_toArray, List.set_cons_zero, List.set_cons_succ ]) ⟨hB.trans (hy.mono hB.size), (Nat.le_trans hz hy.size), (s0).below hy (s0).lt, (s1).below hy (s1).lt, h0, h1, h2, h3, h4, h5, h6, (fun _ => rfl), h8⟩
              · intro L v W3 hd hn ⟨hB, hz, s0, s1, h0, h1, h2, h3, h4, h5, h6, h7, h8⟩ K hK
                have e6 := h6 (hd ⟨6, .data⟩ (by simp) rfl)
                have e7 := h7 (hd ⟨7, .data⟩ (by simp) rfl)
                go_wp2_with fail
                exact hK _ (.bool true) _ (by simp only [Act.put, List.setIfInBounds_toArray, List.set_cons_zero, List.set_cons_succ, e6, e7]) ⟨hB, hz, s0, s1, h0, h1, h2, h3, h4, h5, h6, h7, (fun _ => rfl)⟩
            · intro L v W3 hL ⟨hB, hz, s0, s1, h0, h1, h2, h3, h4, h5, h6, h7, h8⟩
              have e0 := h0 (hL 0 (by decide))
              have e1 := h1 (hL 1 (by decide))
              have e2 := h2 (hL 2 (by decide))
              have e3 := h3 (hL 3 (by decide))
              have e4 := h4 (hL 4 (by decide))
              have e5 := h5 (hL 5 (by decide))
              have e6 := h6 (hL 6 (by decide))
              have e7 := h7 (hL 7 (by decide))
              have e8 := h8 (hL 8 (by decide))
              clear hL h0 h1 h2 h3 h4 h5 h6 h7 h8
              simp only [Exit.then, e0, e1, e2, e3, e4, e5, e6, e7, e8]
              clear e0 e1 e2 e3 e4 e5 e6 e7 e8
              clear B0
              have B0 := s0
              clear s0
              clear B1
              have B1 := s1
              clear s1
              clear hb
              have hb := hB
              clear hB
              clear hbase hz lt_B0 lt_B1
              clear hgd heq HPM2
              go_wp2_with fail
              go_roundw
              case rel => exact ⟨fi, O2, L2, rfl, rfl, HI2, by omega, hL21, by omega, HLD, hO2E, hb, B0, B1⟩
              case measure => simp [intOf] <;> omega
          | false =>
            have HI2 := Lib.hid (show odI (tsT p f m) L Q L O = odI (tsT p f m) fi Q L2 O1 by rw [hI.out, odI_no hd (by rw [← hO2]; unfold tsT; exact hT), ← hL2])
            have hgd := Try.noGuard26
            have heq := fun W => run_equalIn_bytes (P := Try.prog) W 9998 26 5 64 (pmP p f O2 m) oneP Try.underlying26 Try.underlying5 Try.size5
            rw [hT] at heq
            clear hT hI hL2 hO2 hm2 hd hLd
            go_upto_region 8 with (fail)
            have lt_B0 : (w.heap.size) < wr.heap.size := B0.lt
            have lt_B1 : (w.heap.size + 1) < wr.heap.size := B1.lt
            have hbase : w.heap.size ≤ wr.heap.size := hb.size
            refine wp_region_steps0 Try.mixed (by kernel_rfl) (by kernel_rfl) (fun v => by (simp only [frL, Act.put, List.setIfInBounds_toArray, List.set_cons_zero, List.set_cons_succ, Nat.reduceAdd, Nat.zero_add]; exact rfl))
              (fun L v W3 => Below w.heap.size w W3 ∧ wr.heap.size ≤ W3.heap.size ∧ Blk W3 (w.heap.size) 64 26 (f) ∧ Blk W3 (w.heap.size + 1) 64 26 (m) ∧ (L 0 = true → v 0 = (.int .i64 (p : Int))) ∧ (L 1 = true → v 1 = (.agg (bcells 64 (f)))) ∧ (L 2 = true → v 2 = (.int .i64 (O1 : Int))) ∧ (L 3 = true → v 3 = (.int .i64 (Q : Int))) ∧ (L 4 = true → v 4 = (.int .i64 (O2 : Int))) ∧ (L 5 = true → v 5 = (.agg (bcells 64 (m)))) ∧ (L 6 = true → v 6 = (.agg (bcells 64 (pmP p f O2 m)))) ∧ (L 7 = true → v 7 = (.agg (bcells 64 (oneP)))) ∧ (L 8 = true → v 8 = (.bool false))) ?_ ?_ ?_
            · intro v hv0
              exact ⟨hb.drew, Nat.le_refl _, B0.drew, B1.drew, (fun h => by cases h), (fun h => by cases h), (fun h => by cases h), (fun h => by cases h), (fun h => by cases h), (fun h => by cases h), (fun h => by cases h), (fun h => by cases h), (fun h => by cases h)⟩
            · refine (.cons rfl ?_ (.cons rfl ?_ (.cons rfl ?_ (.cons rfl ?_ (.cons rfl ?_ (.cons rfl ?_ (.cons rfl ?_ (.cons rfl ?_ (.cons rfl ?_ (.nil _))))))))))
              · intro L v W3 hd hn ⟨hB, hz, s0, s1, h0, h1, h2, h3, h4, h5, h6, h7, h8⟩ K hK
                go_wp2_with fail
                exact hK _ (.int .i64 (p : Int)) _ (by simp only [Act.put, List.setIfInBounds_toArray, List.set_cons_zero, List.set_cons_succ ]) ⟨hB, hz, s0, s1, (fun _ => rfl), h1, h2, h3, h4, h5, h6, h7, h8⟩
              · intro L v W3 hd hn ⟨hB, hz, s0, s1, h0, h1, h2, h3, h4, h5, h6, h7, h8⟩ K hK
                refine wp_load_any 26 _ rfl _ rfl 64 26 _ s0 _ Try.underlying26 rfl Try.size26 ?_
                exact hK _ _ _ rfl ⟨hB, hz, s0, s1, h0, (fun _ => rfl), h2, h3, h4, h5, h6, h7, h8⟩
              · intro L v W3 hd hn ⟨hB, hz, s0, s1, h0, h1, h2, h3, h4, h5, h6, h7, h8⟩ K hK
                go_wp2_with fail
                exact hK _ (.int .i64 (O1 : Int)) _ (by simp only [Act.put, List.setIfInBounds_toArray, List.set_cons_zero, List.set_cons_succ ]) ⟨hB, hz, s0, s1, h0, h1, (fun _ => rfl), h3, h4, h5, h6, h7, h8⟩
              · intro L v W3 hd hn ⟨hB, hz, s0, s1, h0, h1, h2, h3, h4, h5, h6, h7, h8⟩ K hK
                go_wp2_with fail
                exact hK _ (.int .i64 (Q : Int)) _ (by simp only [Act.put, List.setIfInBounds_toArray, List.set_cons_zero, List.set_cons_succ ]) ⟨hB, hz, s0, s1, h0, h1, h2, (fun _ => rfl), h4, h5, h6, h7, h8⟩
              · intro L v W3 hd hn ⟨hB, hz, s0, s1, h0, h1, h2, h3, h4, h5, h6, h7, h8⟩ K hK
                have e2 := h2 (hd ⟨2, .data⟩ (by simp) rfl)
                have e3 := h3 (hd ⟨3, .data⟩ (by simp) rfl)
                go_wp2_with fail
                exact hK _ (.int .i64 (O2 : Int)) _ (by simp only [Act.put, List.setIfInBounds_toArray, List.set_cons_zero, List.set_cons_succ, e2, e3]) ⟨hB, hz, s0, s1, h0, h1, h2, h3, (fun _ => rfl), h5, h6, h7, h8⟩
              · intro L v W3 hd hn ⟨hB, hz, s0, s1, h0, h1, h2, h3, h4, h5, h6, h7, h8⟩ K hK
                refine wp_load_any 26 _ rfl _ rfl 64 26 _ s1 _ Try.underlying26 rfl Try.size26 ?_
                exact hK _ _ _ rfl ⟨hB, hz, s0, s1, h0, h1, h2, h3, h4, (fun _ => rfl), h6, h7, h8⟩
              · intro L v W3 hd hn ⟨hB, hz, s0, s1, h0, h1, h2, h3, h4, h5, h6, h7, h8⟩ K hK
                have e0 := h0 (hd ⟨0, .data⟩ (by simp) rfl)
                have e1 := h1 (hd ⟨1, .data⟩ (by simp) rfl)
                have e4 := h4 (hd ⟨4, .data⟩ (by simp) rfl)
                have e5 := h5 (hd ⟨5, .data⟩ (by simp) rfl)
                go_wp2_with (go_at_call 88; refine (HPM2.out _).mono ?_; rintro e wy ⟨rfl, hy⟩)
                exact hK _ (.agg (bcells 64 (pmP p f O2 m))) _ (by simp only [Act.put, List.setIfInBounds_toArray, List.set_cons_zero, List.set_cons_succ, e0, e1, e4, e5]) ⟨hB.trans (hy.mono hB.size), (Nat.le_trans hz hy.size), (s0).below hy (s0).lt, (s1).below hy (s1).lt, h0, h1, h2, h3, h4, h5, (fun _ => rfl), h7, h8⟩
              · intro L v W3 hd hn ⟨hB, hz, s0, s1, h0, h1, h2, h3, h4, h5, h6, h7, h8⟩ K hK
                go_wp2_with (go_at_call 82; refine (l01One_any _).mono ?_; rintro e wy ⟨rfl, hy⟩)
                exact hK _ (.agg (bcells 64 (oneP))) _ (by simp only [Act.put, List.setIfInBounds_toArray, List.set_cons_zero, List.set_cons_succ ]) ⟨hB.trans (hy.mono hB.size), (Nat.le_trans hz hy.size), (s0).below hy (s0).lt, (s1).below hy (s1).lt, h0, h1, h2, h3, h4, h5, h6, (fun _ => rfl), h8⟩
              · intro L v W3 hd hn ⟨hB, hz, s0, s1, h0, h1, h2, h3, h4, h5, h6, h7, h8⟩ K hK
                have e6 := h6 (hd ⟨6, .data⟩ (by simp) rfl)
                have e7 := h7 (hd ⟨7, .data⟩ (by simp) rfl)
                go_wp2_with fail
                exact hK _ (.bool false) _ (by simp only [Act.put, List.setIfInBounds_toArray, List.set_cons_zero, List.set_cons_succ, e6, e7]) ⟨hB, hz, s0, s1, h0, h1, h2, h3, h4, h5, h6, h7, (fun _ => rfl)⟩
            · intro L v W3 hL ⟨hB, hz, s0, s1, h0, h1, h2, h3, h4, h5, h6, h7, h8⟩
              have e0 := h0 (hL 0 (by decide))
              have e1 := h1 (hL 1 (by decide))
              have e2 := h2 (hL 2 (by decide))
              have e3 := h3 (hL 3 (by decide))
              have e4 := h4 (hL 4 (by decide))
              have e5 := h5 (hL 5 (by decide))
              have e6 := h6 (hL 6 (by decide))
              have e7 := h7 (hL 7 (by decide))
              have e8 := h8 (hL 8 (by decide))
              clear hL h0 h1 h2 h3 h4 h5 h6 h7 h8
              simp only [Exit.then, e0, e1, e2, e3, e4, e5, e6, e7, e8]
              clear e0 e1 e2 e3 e4 e5 e6 e7 e8
              clear B0
              have B0 := s0
              clear s0
              clear B1
              have B1 := s1
              clear s1
              clear hb
              have hb := hB
              clear hB
              clear hbase hz lt_B0 lt_B1
              clear hgd heq HPM2
              go_wp2_with fail
              go_roundw
              case rel => exact ⟨fi, O1, L2, rfl, rfl, HI2, by omega, hL21, by omega, HLD, hO1, hb, B0, B1⟩
              case measure => simp [intOf] <;> omega
        · have hne : ((L1 % Q : Nat) : Int) ≠ 0 := by omega
          have HN := Lib.hid (show odN p f m = odO (tsT p f m) fu (Q + 1) L1 O1 by rw [hO.out, odO_step hL (by rw [hI.out, odI_stop hd])])
          have HD := Lib.hid (show ∀ d, 2 ≤ d → d < Q + 1 → ¬ d ∣ L1 from fun d d1 d2 h => by
            by_cases e : d = Q
            · subst e; exact hd (Nat.mod_eq_zero_of_dvd h)
            · exact hdv.out d d1 (by omega) (Nat.dvd_trans h hLd.out))
          clear hO hI hdv hLd hd
          go_wp2_with fail
          go_roundw
          case rel => exact ⟨fu, O1, L1, Q + 1, rfl, rfl, by go_num, HN, by have := HFU.out; omega, by omega, hL11, by omega, hO1, HD, hb, B0, B1⟩
          case measure => simp [intOf] <;> omega
    · have hl1 : L = 1 := by omega
      subst hl1
      have HV := Lib.hid (show odN p f m = O by rw [hO.out, odO_stop (by omega)])
      clear hO hdv
      go_wp2_with fail
      go_ret
      exact ⟨by rw [HV.out]; rfl, hb⟩
set_option maxRecDepth 100000 in
set_option maxHeartbeats 3200000 in
theorem orderOf_any (p : Nat) (f m : Nat → Nat) (w : World) (hpr : p = 2 ∨ p = 3 ∨ p = 5 ∨ p = 7) (lf : ∀ k, k < 64 → f k < p) (lm : ∀ k, k < 64 → m k < p) (h0 : 0 ≤ deg m) (h12 : deg m ≤ 12) :
    Calls Try.prog 114 #[.int .i64 (p : Int), .agg (bcells 64 f), .agg (bcells 64 m)] w fun e w' => e = .returned (.int .i64 (odN p f m : Int)) ∧ Below w.heap.size w w' := by
  obtain ⟨E, hE⟩ : ∃ E, E = euN p m := ⟨_, rfl⟩
  have HEU := Lib.hid (show ∀ W, Calls Try.prog 108 #[.int .i64 (p : Int), .agg (bcells 64 m)] W fun e w' => e = .returned (.int .i64 (E : Int)) ∧ Below W.heap.size W w' by
    intro W; have := eulerOf_any p m W hpr lm h0 h12; rw [hE]; unfold euN; exact this)
  obtain ⟨E1, E2⟩ := euN_le hpr lm h0 h12
  rw [← hE] at E1 E2
  have HOD := Lib.hid (show odN p f m = odO (tsT p f m) (E + 2) 2 E E by unfold odN; rw [← hE])
  have HPM := Lib.hid (show ∀ k : Nat, k ≤ E → ∀ W, Calls Try.prog 89 #[.int .i64 (p : Int), .agg (bcells 64 f), .int .i64 (k : Int), .agg (bcells 64 m)] W fun e w' => e = .returned (.agg (bcells 64 (pmP p f k m))) ∧ Below W.heap.size W w' from
    fun k hk W => powerModulo_any p f k m W hpr lf lm h0 (by omega))
  clear hE
  go_enter Try.func114, Try.ntmps114
  go_upto_region 1 with (fail)
  obtain ⟨W1, hwo⟩ : ∃ v : World, v = ((w.alloc (.cells (bcells 64 (f)) 26)).alloc (.cells (bcells 64 (m)) 26)) := ⟨_, rfl⟩
  have B0 : Blk W1 (w.heap.size) 64 26 (f) := by subst hwo; have := ((Blk.new w 64 26 (f)).alloc (.cells (bcells 64 (m)) 26)); simpa using this
  have B1 : Blk W1 (w.heap.size + 1) 64 26 (m) := by subst hwo; have := (Blk.new (w.alloc (.cells (bcells 64 (f)) 26)) 64 26 (m)); simpa using this
  have hb : Below w.heap.size w W1 := by subst hwo; exact (((Below.refl _ _).alloc (Nat.le_refl _) _).alloc (by simp) _)
  rw [← hwo]
  clear hwo
  go_upto_region 2 with (first | (refine wpList_load_any rfl 26 (.tmp 5) rfl _ rfl 64 26 _ (B1) _ Try.underlying26 rfl Try.size26 ?_) | (go_at_call 108; refine (HEU.out _).mono ?_; rintro e W2 ⟨rfl, hW2⟩; replace B0 := B0.below hW2 B0.lt; replace B1 := B1.below hW2 B1.lt; replace hb := (hb).trans (hW2.mono (hb).size)))
  clear HEU
  go_wp2_with fail
  go_loopw [7, 8, 9] (fun o l q wr => ∃ (fu O L Q : Nat), o = .int .i64 (O : Int) ∧ l = .int .i64 (L : Int) ∧ q = .int .i64 (Q : Int) ∧ Hid (odN p f m = odO (tsT p f m) fu Q L O) ∧ Q + fu = E + 4 ∧ 2 ≤ Q ∧ 1 ≤ L ∧ L ≤ E ∧ O ≤ E ∧ Hid (∀ d, 2 ≤ d → d < Q → ¬ d ∣ L) ∧ Below w.heap.size w wr ∧ Blk wr (w.heap.size) 64 26 f ∧ Blk wr (w.heap.size + 1) 64 26 m) (fun _ _ q _ => E + 5 - (intOf q).toNat)
  case atStart => exact ⟨E + 2, E, E, 2, rfl, rfl, rfl, HOD, by omega, by omega, E1, Nat.le_refl _, Nat.le_refl _, Lib.hid (fun d h1 h2 => by omega), hb, B0, B1⟩
  case round =>
    clear hb B0 B1 HOD
    obtain ⟨fu, O, L, Q, rfl, rfl, rfl, hO, hfu, hQ2, hL1, hLE, hOE, hdv, hb, B0, B1⟩ := hrel
    have HFU := Lib.hid hfu
    have hQE : Q ≤ E + 4 := by omega
    clear hfu
    by_cases hL : 1 < L
    · have hQL : Q ≤ L := by
        by_cases h : Q ≤ L
        · exact h
        · exact absurd (Nat.dvd_refl L) (hdv.out L (by omega) (by omega))
      obtain ⟨fu, rfl⟩ : ∃ g, fu = g + 1 := ⟨fu - 1, by have := HFU.out; omega⟩
      go_wp2_with fail
      rw [show decide (1 < (L : Int)) = true by simp; omega]
      go_loopw [7, 8] (fun o l wr => ∃ (fi O1 L1 : Nat), o = .int .i64 (O1 : Int) ∧ l = .int .i64 (L1 : Int) ∧ Hid (odI (tsT p f m) L Q L O = odI (tsT p f m) fi Q L1 O1) ∧ L1 ≤ fi ∧ 1 ≤ L1 ∧ L1 ≤ L ∧ Hid (L1 ∣ L) ∧ O1 ≤ E ∧ Below w.heap.size w wr ∧ Blk wr (w.heap.size) 64 26 f ∧ Blk wr (w.heap.size + 1) 64 26 m) (fun _ l _ => (intOf l).toNat)
      case atStart => exact ⟨L, O, L, rfl, rfl, Lib.hid rfl, Nat.le_refl _, hL1, Nat.le_refl _, Lib.hid (Nat.dvd_refl _), hOE, hb, B0, B1⟩
      case round =>
        clear hb B0 B1
        obtain ⟨fi, O1, L1, rfl, rfl, hI, hfi, hL11, hL1L, hLd, hO1, hb, B0, B1⟩ := hrel
        have tq1 : (L1 : Int).tmod (Q : Int) = ((L1 % Q : Nat) : Int) := by rw [Int.tmod_eq_emod_of_nonneg (by omega)]; rfl
        by_cases hd : L1 % Q = 0
        · obtain ⟨fi, rfl⟩ : ∃ g, fi = g + 1 := ⟨fi - 1, by omega⟩
          rw [hd] at tq1
          obtain ⟨L2, hL2⟩ : ∃ x, x = L1 / Q := ⟨_, rfl⟩
          obtain ⟨O2, hO2⟩ : ∃ x, x = O1 / Q := ⟨_, rfl⟩
          have tq2 : (L1 : Int).tdiv (Q : Int) = (L2 : Int) := by rw [Int.tdiv_eq_ediv_of_nonneg (by omega), hL2]; rfl
          have tq3 : (O1 : Int).tdiv (Q : Int) = (O2 : Int) := by rw [Int.tdiv_eq_ediv_of_nonneg (by omega), hO2]; rfl
          have hm2 : L2 * Q = L1 := by rw [hL2]; exact Nat.div_mul_cancel (Nat.dvd_of_mod_eq_zero hd)
          have hL21 : 1 ≤ L2 := by
            by_cases h : L2 = 0
            · rw [h] at hm2; omega
            · omega
          have hL22 : L2 * 2 ≤ L1 := by rw [← hm2]; exact Nat.mul_le_mul_left L2 hQ2
          have HLD := Lib.hid (show L2 ∣ L from Nat.dvd_trans ⟨Q, hm2.symm⟩ hLd.out)
          have hO2E : O2 ≤ E := by rw [hO2]; exact Nat.le_trans (Nat.div_le_self _ _) hO1
          have hO21 : O2 ≤ O1 := by rw [hO2]; exact Nat.div_le_self _ _
          have HPM2 := Lib.hid (HPM.out O2 hO2E)
          cases hT : eqN 64 (pmP p f O2 m) oneP with
          | true =>
            have HI2 := Lib.hid (show odI (tsT p f m) L Q L O = odI (tsT p f m) fi Q L2 O2 by rw [hI.out, odI_yes hd (by rw [← hO2]; unfold tsT; exact hT), ← hL2, ← hO2])
            have hgd := Try.noGuard26
            have heq := fun W => run_equalIn_bytes (P := Try.prog) W 9998 26 5 64 (pmP p f O2 m) oneP Try.underlying26 Try.underlying5 Try.size5
            rw [hT] at heq
            clear hT hI hL2 hO2 hm2 hd hLd
            go_upto_region 8 with (fail)
            have lt_B0 : (w.heap.size) < wr.heap.size := B0.lt
            have lt_B1 : (w.heap.size + 1) < wr.heap.size := B1.lt
            have hbase : w.heap.size ≤ wr.heap.size := hb.size
            refine wp_region_steps0 Try.mixed (by kernel_rfl) (by kernel_rfl) (fun v => by (simp only [frL, Act.put, List.setIfInBounds_toArray, List.set_cons_zero, List.set_cons_succ, Nat.reduceAdd, Nat.zero_add]; exact rfl))
              (fun L v W3 => Below w.heap.size w W3 ∧ wr.heap.size ≤ W3.heap.size ∧ Blk W3 (w.heap.size) 64 26 (f) ∧ Blk W3 (w.heap.size + 1) 64 26 (m) ∧ (L 0 = true → v 0 = (.int .i64 (p : Int))) ∧ (L 1 = true → v 1 = (.agg (bcells 64 (f)))) ∧ (L 2 = true → v 2 = (.int .i64 (O1 : Int))) ∧ (L 3 = true → v 3 = (.int .i64 (Q : Int))) ∧ (L 4 = true → v 4 = (.int .i64 (O2 : Int))) ∧ (L 5 = true → v 5 = (.agg (bcells 64 (m)))) ∧ (L 6 = true → v 6 = (.agg (bcells 64 (pmP p f O2 m)))) ∧ (L 7 = true → v 7 = (.agg (bcells 64 (oneP)))) ∧ (L 8 = true → v 8 = (.bool true))) ?_ ?_ ?_
            · intro v hv0
              exact ⟨hb.drew, Nat.le_refl _, B0.drew, B1.drew, (fun h => by cases h), (fun h => by cases h), (fun h => by cases h), (fun h => by cases h), (fun h => by cases h), (fun h => by cases h), (fun h => by cases h), (fun h => by cases h), (fun h => by cases h)⟩
            · refine (.cons rfl ?_ (.cons rfl ?_ (.cons rfl ?_ (.cons rfl ?_ (.cons rfl ?_ (.cons rfl ?_ (.cons rfl ?_ (.cons rfl ?_ (.cons rfl ?_ (.nil _))))))))))
              · intro L v W3 hd hn ⟨hB, hz, s0, s1, h0, h1, h2, h3, h4, h5, h6, h7, h8⟩ K hK
                go_wp2_with fail
                exact hK _ (.int .i64 (p : Int)) _ (by simp only [Act.put, List.setIfInBounds_toArray, List.set_cons_zero, List.set_cons_succ ]) ⟨hB, hz, s0, s1, (fun _ => rfl), h1, h2, h3, h4, h5, h6, h7, h8⟩
              · intro L v W3 hd hn ⟨hB, hz, s0, s1, h0, h1, h2, h3, h4, h5, h6, h7, h8⟩ K hK
                refine wp_load_any 26 _ rfl _ rfl 64 26 _ s0 _ Try.underlying26 rfl Try.size26 ?_
                exact hK _ _ _ rfl ⟨hB, hz, s0, s1, h0, (fun _ => rfl), h2, h3, h4, h5, h6, h7, h8⟩
              · intro L v W3 hd hn ⟨hB, hz, s0, s1, h0, h1, h2, h3, h4, h5, h6, h7, h8⟩ K hK
                go_wp2_with fail
                exact hK _ (.int .i64 (O1 : Int)) _ (by simp only [Act.put, List.setIfInBounds_toArray, List.set_cons_zero, List.set_cons_succ ]) ⟨hB, hz, s0, s1, h0, h1, (fun _ => rfl), h3, h4, h5, h6, h7, h8⟩
              · intro L v W3 hd hn ⟨hB, hz, s0, s1, h0, h1, h2, h3, h4, h5, h6, h7, h8⟩ K hK
                go_wp2_with fail
                exact hK _ (.int .i64 (Q : Int)) _ (by simp only [Act.put, List.setIfInBounds_toArray, List.set_cons_zero, List.set_cons_succ ]) ⟨hB, hz, s0, s1, h0, h1, h2, (fun _ => rfl), h4, h5, h6, h7, h8⟩
              · intro L v W3 hd hn ⟨hB, hz, s0, s1, h0, h1, h2, h3, h4, h5, h6, h7, h8⟩ K hK
                have e2 := h2 (hd ⟨2, .data⟩ (by simp) rfl)
                have e3 := h3 (hd ⟨3, .data⟩ (by simp) rfl)
                go_wp2_with fail
                exact hK _ (.int .i64 (O2 : Int)) _ (by simp only [Act.put, List.setIfInBounds_toArray, List.set_cons_zero, List.set_cons_succ, e2, e3]) ⟨hB, hz, s0, s1, h0, h1, h2, h3, (fun _ => rfl), h5, h6, h7, h8⟩
              · intro L v W3 hd hn ⟨hB, hz, s0, s1, h0, h1, h2, h3, h4, h5, h6, h7, h8⟩ K hK
                refine wp_load_any 26 _ rfl _ rfl 64 26 _ s1 _ Try.underlying26 rfl Try.size26 ?_
                exact hK _ _ _ rfl ⟨hB, hz, s0, s1, h0, h1, h2, h3, h4, (fun _ => rfl), h6, h7, h8⟩
              · intro L v W3 hd hn ⟨hB, hz, s0, s1, h0, h1, h2, h3, h4, h5, h6, h7, h8⟩ K hK
                have e0 := h0 (hd ⟨0, .data⟩ (by simp) rfl)
                have e1 := h1 (hd ⟨1, .data⟩ (by simp) rfl)
                have e4 := h4 (hd ⟨4, .data⟩ (by simp) rfl)
                have e5 := h5 (hd ⟨5, .data⟩ (by simp) rfl)
                go_wp2_with (go_at_call 89; refine (HPM2.out _).mono ?_; rintro e wy ⟨rfl, hy⟩)
                exact hK _ (.agg (bcells 64 (pmP p f O2 m))) _ (by simp only [Act.put, List.setIfInBounds_toArray, List.set_cons_zero, List.set_cons_succ, e0, e1, e4, e5]) ⟨hB.trans (hy.mono hB.size), (Nat.le_trans hz hy.size), (s0).below hy (s0).lt, (s1).below hy (s1).lt, h0, h1, h2, h3, h4, h5, (fun _ => rfl), h7, h8⟩
              · intro L v W3 hd hn ⟨hB, hz, s0, s1, h0, h1, h2, h3, h4, h5, h6, h7, h8⟩ K hK
                refine wp_build_of 26 _ rfl (bcells 64 oneP) (by rw [Array.toList_map]; show Try.prog.built 26 [(0, .int .u8 1)] = some (bcells 64 oneP); exact built_one) ?_
                exact hK _ _ _ rfl ⟨hB, hz, s0, s1, h0, h1, h2, h3, h4, h5, h6, (fun _ => rfl), h8⟩
              · intro L v W3 hd hn ⟨hB, hz, s0, s1, h0, h1, h2, h3, h4, h5, h6, h7, h8⟩ K hK
                have e6 := h6 (hd ⟨6, .data⟩ (by simp) rfl)
                have e7 := h7 (hd ⟨7, .data⟩ (by simp) rfl)
                go_wp2_with fail
                exact hK _ (.bool true) _ (by simp only [Act.put, List.setIfInBounds_toArray, List.set_cons_zero, List.set_cons_succ, e6, e7]) ⟨hB, hz, s0, s1, h0, h1, h2, h3, h4, h5, h6, h7, (fun _ => rfl)⟩
            · intro L v W3 hL ⟨hB, hz, s0, s1, h0, h1, h2, h3, h4, h5, h6, h7, h8⟩
              have e0 := h0 (hL 0 (by decide))
              have e1 := h1 (hL 1 (by decide))
              have e2 := h2 (hL 2 (by decide))
              have e3 := h3 (hL 3 (by decide))
              have e4 := h4 (hL 4 (by decide))
              have e5 := h5 (hL 5 (by decide))
              have e6 := h6 (hL 6 (by decide))
              have e7 := h7 (hL 7 (by decide))
              have e8 := h8 (hL 8 (by decide))
              clear hL h0 h1 h2 h3 h4 h5 h6 h7 h8
              simp only [Exit.then, e0, e1, e2, e3, e4, e5, e6, e7, e8]
              clear e0 e1 e2 e3 e4 e5 e6 e7 e8
              clear B0
              have B0 := s0
              clear s0
              clear B1
              have B1 := s1
              clear s1
              clear hb
              have hb := hB
              clear hB
              clear hbase hz lt_B0 lt_B1
              clear hgd heq HPM2
              go_wp2_with fail
              go_roundw
              case rel => exact ⟨fi, O2, L2, rfl, rfl, HI2, by omega, hL21, by omega, HLD, hO2E, hb, B0, B1⟩
              case measure => simp [intOf] <;> omega
          | false =>
            have HI2 := Lib.hid (show odI (tsT p f m) L Q L O = odI (tsT p f m) fi Q L2 O1 by rw [hI.out, odI_no hd (by rw [← hO2]; unfold tsT; exact hT), ← hL2])
            have hgd := Try.noGuard26
            have heq := fun W => run_equalIn_bytes (P := Try.prog) W 9998 26 5 64 (pmP p f O2 m) oneP Try.underlying26 Try.underlying5 Try.size5
            rw [hT] at heq
            clear hT hI hL2 hO2 hm2 hd hLd
            go_upto_region 8 with (fail)
            have lt_B0 : (w.heap.size) < wr.heap.size := B0.lt
            have lt_B1 : (w.heap.size + 1) < wr.heap.size := B1.lt
            have hbase : w.heap.size ≤ wr.heap.size := hb.size
            refine wp_region_steps0 Try.mixed (by kernel_rfl) (by kernel_rfl) (fun v => by (simp only [frL, Act.put, List.setIfInBounds_toArray, List.set_cons_zero, List.set_cons_succ, Nat.reduceAdd, Nat.zero_add]; exact rfl))
              (fun L v W3 => Below w.heap.size w W3 ∧ wr.heap.size ≤ W3.heap.size ∧ Blk W3 (w.heap.size) 64 26 (f) ∧ Blk W3 (w.heap.size + 1) 64 26 (m) ∧ (L 0 = true → v 0 = (.int .i64 (p : Int))) ∧ (L 1 = true → v 1 = (.agg (bcells 64 (f)))) ∧ (L 2 = true → v 2 = (.int .i64 (O1 : Int))) ∧ (L 3 = true → v 3 = (.int .i64 (Q : Int))) ∧ (L 4 = true → v 4 = (.int .i64 (O2 : Int))) ∧ (L 5 = true → v 5 = (.agg (bcells 64 (m)))) ∧ (L 6 = true → v 6 = (.agg (bcells 64 (pmP p f O2 m)))) ∧ (L 7 = true → v 7 = (.agg (bcells 64 (oneP)))) ∧ (L 8 = true → v 8 = (.bool false))) ?_ ?_ ?_
            · intro v hv0
              exact ⟨hb.drew, Nat.le_refl _, B0.drew, B1.drew, (fun h => by cases h), (fun h => by cases h), (fun h => by cases h), (fun h => by cases h), (fun h => by cases h), (fun h => by cases h), (fun h => by cases h), (fun h => by cases h), (fun h => by cases h)⟩
            · refine (.cons rfl ?_ (.cons rfl ?_ (.cons rfl ?_ (.cons rfl ?_ (.cons rfl ?_ (.cons rfl ?_ (.cons rfl ?_ (.cons rfl ?_ (.cons rfl ?_ (.nil _))))))))))
              · intro L v W3 hd hn ⟨hB, hz, s0, s1, h0, h1, h2, h3, h4, h5, h6, h7, h8⟩ K hK
                go_wp2_with fail
                exact hK _ (.int .i64 (p : Int)) _ (by simp only [Act.put, List.setIfInBounds_toArray, List.set_cons_zero, List.set_cons_succ ]) ⟨hB, hz, s0, s1, (fun _ => rfl), h1, h2, h3, h4, h5, h6, h7, h8⟩
              · intro L v W3 hd hn ⟨hB, hz, s0, s1, h0, h1, h2, h3, h4, h5, h6, h7, h8⟩ K hK
                refine wp_load_any 26 _ rfl _ rfl 64 26 _ s0 _ Try.underlying26 rfl Try.size26 ?_
                exact hK _ _ _ rfl ⟨hB, hz, s0, s1, h0, (fun _ => rfl), h2, h3, h4, h5, h6, h7, h8⟩
              · intro L v W3 hd hn ⟨hB, hz, s0, s1, h0, h1, h2, h3, h4, h5, h6, h7, h8⟩ K hK
                go_wp2_with fail
                exact hK _ (.int .i64 (O1 : Int)) _ (by simp only [Act.put, List.setIfInBounds_toArray, List.set_cons_zero, List.set_cons_succ ]) ⟨hB, hz, s0, s1, h0, h1, (fun _ => rfl), h3, h4, h5, h6, h7, h8⟩
              · intro L v W3 hd hn ⟨hB, hz, s0, s1, h0, h1, h2, h3, h4, h5, h6, h7, h8⟩ K hK
                go_wp2_with fail
                exact hK _ (.int .i64 (Q : Int)) _ (by simp only [Act.put, List.setIfInBounds_toArray, List.set_cons_zero, List.set_cons_succ ]) ⟨hB, hz, s0, s1, h0, h1, h2, (fun _ => rfl), h4, h5, h6, h7, h8⟩
              · intro L v W3 hd hn ⟨hB, hz, s0, s1, h0, h1, h2, h3, h4, h5, h6, h7, h8⟩ K hK
                have e2 := h2 (hd ⟨2, .data⟩ (by simp) rfl)
                have e3 := h3 (hd ⟨3, .data⟩ (by simp) rfl)
                go_wp2_with fail
                exact hK _ (.int .i64 (O2 : Int)) _ (by simp only [Act.put, List.setIfInBounds_toArray, List.set_cons_zero, List.set_cons_succ, e2, e3]) ⟨hB, hz, s0, s1, h0, h1, h2, h3, (fun _ => rfl), h5, h6, h7, h8⟩
              · intro L v W3 hd hn ⟨hB, hz, s0, s1, h0, h1, h2, h3, h4, h5, h6, h7, h8⟩ K hK
                refine wp_load_any 26 _ rfl _ rfl 64 26 _ s1 _ Try.underlying26 rfl Try.size26 ?_
                exact hK _ _ _ rfl ⟨hB, hz, s0, s1, h0, h1, h2, h3, h4, (fun _ => rfl), h6, h7, h8⟩
              · intro L v W3 hd hn ⟨hB, hz, s0, s1, h0, h1, h2, h3, h4, h5, h6, h7, h8⟩ K hK
                have e0 := h0 (hd ⟨0, .data⟩ (by simp) rfl)
                have e1 := h1 (hd ⟨1, .data⟩ (by simp) rfl)
                have e4 := h4 (hd ⟨4, .data⟩ (by simp) rfl)
                have e5 := h5 (hd ⟨5, .data⟩ (by simp) rfl)
                go_wp2_with (go_at_call 89; refine (HPM2.out _).mono ?_; rintro e wy ⟨rfl, hy⟩)
                exact hK _ (.agg (bcells 64 (pmP p f O2 m))) _ (by simp only [Act.put, List.setIfInBounds_toArray, List.set_cons_zero, List.set_cons_succ, e0, e1, e4, e5]) ⟨hB.trans (hy.mono hB.size), (Nat.le_trans hz hy.size), (s0).below hy (s0).lt, (s1).below hy (s1).lt, h0, h1, h2, h3, h4, h5, (fun _ => rfl), h7, h8⟩
              · intro L v W3 hd hn ⟨hB, hz, s0, s1, h0, h1, h2, h3, h4, h5, h6, h7, h8⟩ K hK
                refine wp_build_of 26 _ rfl (bcells 64 oneP) (by rw [Array.toList_map]; show Try.prog.built 26 [(0, .int .u8 1)] = some (bcells 64 oneP); exact built_one) ?_
                exact hK _ _ _ rfl ⟨hB, hz, s0, s1, h0, h1, h2, h3, h4, h5, h6, (fun _ => rfl), h8⟩
              · intro L v W3 hd hn ⟨hB, hz, s0, s1, h0, h1, h2, h3, h4, h5, h6, h7, h8⟩ K hK
                have e6 := h6 (hd ⟨6, .data⟩ (by simp) rfl)
                have e7 := h7 (hd ⟨7, .data⟩ (by simp) rfl)
                go_wp2_with fail
                exact hK _ (.bool false) _ (by simp only [Act.put, List.setIfInBounds_toArray, List.set_cons_zero, List.set_cons_succ, e6, e7]) ⟨hB, hz, s0, s1, h0, h1, h2, h3, h4, h5, h6, h7, (fun _ => rfl)⟩
            · intro L v W3 hL ⟨hB, hz, s0, s1, h0, h1, h2, h3, h4, h5, h6, h7, h8⟩
              have e0 := h0 (hL 0 (by decide))
              have e1 := h1 (hL 1 (by decide))
              have e2 := h2 (hL 2 (by decide))
              have e3 := h3 (hL 3 (by decide))
              have e4 := h4 (hL 4 (by decide))
              have e5 := h5 (hL 5 (by decide))
              have e6 := h6 (hL 6 (by decide))
              have e7 := h7 (hL 7 (by decide))
              have e8 := h8 (hL 8 (by decide))
              clear hL h0 h1 h2 h3 h4 h5 h6 h7 h8
              simp only [Exit.then, e0, e1, e2, e3, e4, e5, e6, e7, e8]
              clear e0 e1 e2 e3 e4 e5 e6 e7 e8
              clear B0
              have B0 := s0
              clear s0
              clear B1
              have B1 := s1
              clear s1
              clear hb
              have hb := hB
              clear hB
              clear hbase hz lt_B0 lt_B1
              clear hgd heq HPM2
              go_wp2_with fail
              go_roundw
              case rel => exact ⟨fi, O1, L2, rfl, rfl, HI2, by omega, hL21, by omega, HLD, hO1, hb, B0, B1⟩
              case measure => simp [intOf] <;> omega
        · have hne : ((L1 % Q : Nat) : Int) ≠ 0 := by omega
          have HN := Lib.hid (show odN p f m = odO (tsT p f m) fu (Q + 1) L1 O1 by rw [hO.out, odO_step hL (by rw [hI.out, odI_stop hd])])
          have HD := Lib.hid (show ∀ d, 2 ≤ d → d < Q + 1 → ¬ d ∣ L1 from fun d d1 d2 h => by
            by_cases e : d = Q
            · subst e; exact hd (Nat.mod_eq_zero_of_dvd h)
            · exact hdv.out d d1 (by omega) (Nat.dvd_trans h hLd.out))
          clear hO hI hdv hLd hd
          go_wp2_with fail
          go_roundw
          case rel => exact ⟨fu, O1, L1, Q + 1, rfl, rfl, by go_num, HN, by have := HFU.out; omega, by omega, hL11, by omega, hO1, HD, hb, B0, B1⟩
          case measure => simp [intOf] <;> omega
    · have hl1 : L = 1 := by omega
      subst hl1
      have HV := Lib.hid (show odN p f m = O by rw [hO.out, odO_stop (by omega)])
      clear hO hdv
      go_wp2_with fail
      go_ret
      exact ⟨by rw [HV.out]; rfl, hb⟩
set_option maxRecDepth 100000 in
set_option maxHeartbeats 3200000 in
theorem isUnit_any (p : Nat) (f m : Nat → Nat) (w : World) (hpr : p = 2 ∨ p = 3 ∨ p = 5 ∨ p = 7) (lf : ∀ k, k < 64 → f k < p) (lm : ∀ k, k < 64 → m k < p) (h0 : 0 ≤ deg m) :
    Calls Try.prog 113 #[.int .i64 (p : Int), .agg (bcells 64 f), .agg (bcells 64 m)] w fun e w' => e = .returned (.bool (eqN 64 (bzD p f m) oneP)) ∧ Below w.heap.size w w' := by
  have HB := Lib.hid (fun W => bezout_any p f m W hpr lf lm (.inr h0))
  go_enter Try.func113, Try.ntmps113
  go_upto_region 1 with (fail)
  obtain ⟨W1, hwo⟩ : ∃ v : World, v = ((w.alloc (.cells (bcells 64 (f)) 26)).alloc (.cells (bcells 64 (m)) 26)) := ⟨_, rfl⟩
  have B0 : Blk W1 (w.heap.size) 64 26 (f) := by subst hwo; have := ((Blk.new w 64 26 (f)).alloc (.cells (bcells 64 (m)) 26)); simpa using this
  have B1 : Blk W1 (w.heap.size + 1) 64 26 (m) := by subst hwo; have := (Blk.new (w.alloc (.cells (bcells 64 (f)) 26)) 64 26 (m)); simpa using this
  have hb : Below w.heap.size w W1 := by subst hwo; exact (((Below.refl _ _).alloc (Nat.le_refl _) _).alloc (by simp) _)
  rw [← hwo]
  clear hwo
  have hgd := Try.noGuard26
  have heq := fun W => run_equalIn_bytes (P := Try.prog) W 9998 26 5 64 (bzD p f m) oneP Try.underlying26 Try.underlying5 Try.size5
  simp only [one64] at heq
  have lt_B0 := B0.lt
  have lt_B1 := B1.lt
  go_upto_region 2 with (first | rw [← zero64] | (refine wpList_load_any rfl 26 (.tmp 4) rfl _ rfl 64 26 _ (B0) _ Try.underlying26 rfl Try.size26 ?_) | (refine wpList_load_any rfl 26 (.tmp 5) rfl _ rfl 64 26 _ (B1) _ Try.underlying26 rfl Try.size26 ?_) | (go_at_call 144; refine (HB.out _).mono ?_; rintro e W2 ⟨rfl, hW2⟩; replace B0 := B0.below hW2 B0.lt; replace B1 := B1.below hW2 B1.lt; replace hb := (hb).trans (hW2.mono (hb).size)) | (refine wpList_store_blk rfl 26 (.tmp 7) (.tmp 15) rfl _ 64 (bzD p f m) rfl rfl 26 _ ((((Blk.new W2 64 26 (fun _ => 0)).alloc (.cells (bcells 64 fun _ => 0) 26)).alloc (.cells (bcells 64 fun _ => 0) 26))) Try.size26 ?_; try simp only [Act.put]) | (refine wpList_store_blk rfl 26 (.tmp 8) (.tmp 16) rfl _ 64 (bzU p f m) rfl rfl 26 _ ((((show Blk ((W2.alloc (.cells (bcells 64 fun _ => 0) 26)).alloc (.cells (bcells 64 fun _ => 0) 26)) (W2.heap.size + 1) 64 26 (fun _ => 0) by have := Blk.new (W2.alloc (.cells (bcells 64 fun _ => 0) 26)) 64 26 (fun _ => 0); simpa using this).alloc (.cells (bcells 64 fun _ => 0) 26)).rowOther (by omega))) Try.size26 ?_; try simp only [Act.put]) | (refine wpList_store_blk rfl 26 (.tmp 9) (.tmp 17) rfl _ 64 (bzW p f m) rfl rfl 26 _ ((((show Blk (((W2.alloc (.cells (bcells 64 fun _ => 0) 26)).alloc (.cells (bcells 64 fun _ => 0) 26)).alloc (.cells (bcells 64 fun _ => 0) 26)) (W2.heap.size + 1 + 1) 64 26 (fun _ => 0) by have := Blk.new ((W2.alloc (.cells (bcells 64 fun _ => 0) 26)).alloc (.cells (bcells 64 fun _ => 0) 26)) 64 26 (fun _ => 0); simpa using this).rowOther (by omega)).rowOther (by omega))) Try.size26 ?_; try simp only [Act.put]))
  have lt_B0 := B0.lt
  have lt_B1 := B1.lt
  have lhb := hb.size
  have qB0 : Blk ((((((W2.alloc (.cells (bcells 64 fun _ => 0) 26)).alloc (.cells (bcells 64 fun _ => 0) 26)).alloc (.cells (bcells 64 fun _ => 0) 26)).setRow (W2.heap.size) (bcells 64 (bzD p f m))).setRow (W2.heap.size + 1) (bcells 64 (bzU p f m))).setRow (W2.heap.size + 1 + 1) (bcells 64 (bzW p f m))) (w.heap.size) 64 26 (f) := ((((((B0.alloc (.cells (bcells 64 fun _ => 0) 26)).alloc (.cells (bcells 64 fun _ => 0) 26)).alloc (.cells (bcells 64 fun _ => 0) 26)).rowOther (by omega)).rowOther (by omega)).rowOther (by omega))
  have qB1 : Blk ((((((W2.alloc (.cells (bcells 64 fun _ => 0) 26)).alloc (.cells (bcells 64 fun _ => 0) 26)).alloc (.cells (bcells 64 fun _ => 0) 26)).setRow (W2.heap.size) (bcells 64 (bzD p f m))).setRow (W2.heap.size + 1) (bcells 64 (bzU p f m))).setRow (W2.heap.size + 1 + 1) (bcells 64 (bzW p f m))) (w.heap.size + 1) 64 26 (m) := ((((((B1.alloc (.cells (bcells 64 fun _ => 0) 26)).alloc (.cells (bcells 64 fun _ => 0) 26)).alloc (.cells (bcells 64 fun _ => 0) 26)).rowOther (by omega)).rowOther (by omega)).rowOther (by omega))
  have qB2 : Blk ((((((W2.alloc (.cells (bcells 64 fun _ => 0) 26)).alloc (.cells (bcells 64 fun _ => 0) 26)).alloc (.cells (bcells 64 fun _ => 0) 26)).setRow (W2.heap.size) (bcells 64 (bzD p f m))).setRow (W2.heap.size + 1) (bcells 64 (bzU p f m))).setRow (W2.heap.size + 1 + 1) (bcells 64 (bzW p f m))) (W2.heap.size) 64 26 (bzD p f m) := ((((((Blk.new W2 64 26 (fun _ => 0)).alloc (.cells (bcells 64 fun _ => 0) 26)).alloc (.cells (bcells 64 fun _ => 0) 26)).row (bzD p f m)).rowOther (by omega)).rowOther (by omega))
  have qB3 : Blk ((((((W2.alloc (.cells (bcells 64 fun _ => 0) 26)).alloc (.cells (bcells 64 fun _ => 0) 26)).alloc (.cells (bcells 64 fun _ => 0) 26)).setRow (W2.heap.size) (bcells 64 (bzD p f m))).setRow (W2.heap.size + 1) (bcells 64 (bzU p f m))).setRow (W2.heap.size + 1 + 1) (bcells 64 (bzW p f m))) (W2.heap.size + 1) 64 26 (bzU p f m) := (((((show Blk ((W2.alloc (.cells (bcells 64 fun _ => 0) 26)).alloc (.cells (bcells 64 fun _ => 0) 26)) (W2.heap.size + 1) 64 26 (fun _ => 0) by have := Blk.new (W2.alloc (.cells (bcells 64 fun _ => 0) 26)) 64 26 (fun _ => 0); simpa using this).alloc (.cells (bcells 64 fun _ => 0) 26)).rowOther (by omega)).row (bzU p f m)).rowOther (by omega))
  have qB4 : Blk ((((((W2.alloc (.cells (bcells 64 fun _ => 0) 26)).alloc (.cells (bcells 64 fun _ => 0) 26)).alloc (.cells (bcells 64 fun _ => 0) 26)).setRow (W2.heap.size) (bcells 64 (bzD p f m))).setRow (W2.heap.size + 1) (bcells 64 (bzU p f m))).setRow (W2.heap.size + 1 + 1) (bcells 64 (bzW p f m))) (W2.heap.size + 1 + 1) 64 26 (bzW p f m) := ((((show Blk (((W2.alloc (.cells (bcells 64 fun _ => 0) 26)).alloc (.cells (bcells 64 fun _ => 0) 26)).alloc (.cells (bcells 64 fun _ => 0) 26)) (W2.heap.size + 1 + 1) 64 26 (fun _ => 0) by have := Blk.new ((W2.alloc (.cells (bcells 64 fun _ => 0) 26)).alloc (.cells (bcells 64 fun _ => 0) 26)) 64 26 (fun _ => 0); simpa using this).rowOther (by omega)).rowOther (by omega)).row (bzW p f m))
  have qhb : Below w.heap.size w ((((((W2.alloc (.cells (bcells 64 fun _ => 0) 26)).alloc (.cells (bcells 64 fun _ => 0) 26)).alloc (.cells (bcells 64 fun _ => 0) 26)).setRow (W2.heap.size) (bcells 64 (bzD p f m))).setRow (W2.heap.size + 1) (bcells 64 (bzU p f m))).setRow (W2.heap.size + 1 + 1) (bcells 64 (bzW p f m))) := (below_row (below_row (below_row (((hb.alloc (by have := hb.size; simp; omega) (.cells (bcells 64 fun _ => 0) 26)).alloc (by have := hb.size; simp; omega) (.cells (bcells 64 fun _ => 0) 26)).alloc (by have := hb.size; simp; omega) (.cells (bcells 64 fun _ => 0) 26)) (by omega) _) (by omega) _) (by omega) _)
  obtain ⟨W3, hwo⟩ : ∃ v : World, v = ((((((W2.alloc (.cells (bcells 64 fun _ => 0) 26)).alloc (.cells (bcells 64 fun _ => 0) 26)).alloc (.cells (bcells 64 fun _ => 0) 26)).setRow (W2.heap.size) (bcells 64 (bzD p f m))).setRow (W2.heap.size + 1) (bcells 64 (bzU p f m))).setRow (W2.heap.size + 1 + 1) (bcells 64 (bzW p f m))) := ⟨_, rfl⟩
  rw [← hwo] at qB0 qB1 qB2 qB3 qB4 qhb ⊢
  clear hwo
  clear B0 B1 hb
  have B0 := qB0
  have B1 := qB1
  have B2 := qB2
  have B3 := qB3
  have B4 := qB4
  have hb := qhb
  clear qB0 qB1 qB2 qB3 qB4 qhb
  obtain ⟨N1, hNN⟩ : ∃ n : Nat, n = W2.heap.size := ⟨_, rfl⟩
  rw [← hNN] at lt_B0 lt_B1 lhb B2 B3 B4 ⊢
  clear hNN
  have zN1_0 := lt_B0
  have zN1_1 := lt_B1
  have zN1 := lhb
  clear lt_B0 lt_B1 lhb
  try simp only [Act.put, List.setIfInBounds_toArray, List.set_cons_zero, List.set_cons_succ]
  go_wp2_with (first | (refine wpList_load_any rfl 26 (.tmp 7) rfl _ rfl 64 26 _ (B2) _ Try.underlying26 rfl Try.size26 ?_))
  go_ret
  exact ⟨rfl, hb⟩
/-- both answers -/
def orV (p : Int) (f m : Nat → Nat) : Int × Int := if modV p m [f] = 0 then (if eqN 64 (bzD p.toNat f m) oneP = true then ((odN p.toNat f m : Nat), 0) else (0, 4)) else (0, modV p m [f])
theorem orV_code {p c : Int} {f m : Nat → Nat} (h : modV p m [f] = c) (h2 : c ≠ 0) : orV p f m = (0, c) := by unfold orV; rw [h, if_neg h2]
theorem orV_no {n : Nat} {f m : Nat → Nat} (h : modV (n : Int) m [f] = 0) (h2 : eqN 64 (bzD n f m) oneP = false) : orV (n : Int) f m = (0, 4) := by
  unfold orV; rw [if_pos h, Int.toNat_natCast, if_neg (by rw [h2]; simp)]
theorem orV_ok {n : Nat} {f m : Nat → Nat} (h : modV (n : Int) m [f] = 0) (h2 : eqN 64 (bzD n f m) oneP = true) : orV (n : Int) f m = (((odN n f m : Nat) : Int), 0) := by
  unfold orV; rw [if_pos h, Int.toNat_natCast, if_pos h2]
set_option maxRecDepth 100000 in
set_option maxHeartbeats 3200000 in
theorem spec_OrderModulo_any (p : Int) (f m : Nat → Nat) (hf : byte f) (hm : byte m) (w : World) :
    Calls Try.prog 56 #[.int .i64 p, .agg (bcells 64 f), .agg (bcells 64 m)] w fun e w' => e = .returned (.tuple #[.int .i64 (orV p f m).1, .int .i64 (orV p f m).2]) ∧ Below w.heap.size w w' := by
  go_enter Try.func56, Try.ntmps56
  go_upto_region 1 with (fail)
  obtain ⟨W1, hwo⟩ : ∃ v : World, v = ((w.alloc (.cells (bcells 64 (f)) 26)).alloc (.cells (bcells 64 (m)) 26)) := ⟨_, rfl⟩
  have B0 : Blk W1 (w.heap.size) 64 26 (f) := by subst hwo; have := ((Blk.new w 64 26 (f)).alloc (.cells (bcells 64 (m)) 26)); simpa using this
  have B1 : Blk W1 (w.heap.size + 1) 64 26 (m) := by subst hwo; have := (Blk.new (w.alloc (.cells (bcells 64 (f)) 26)) 64 26 (m)); simpa using this
  have hb : Below w.heap.size w W1 := by subst hwo; exact (((Below.refl _ _).alloc (Nat.le_refl _) _).alloc (by simp) _)
  rw [← hwo]
  clear hwo
  go_upto_region 2 with (first | (refine wpList_load_any rfl 26 (.tmp 5) rfl _ rfl 64 26 _ B1 _ Try.underlying26 rfl Try.size26 ?_) | (refine wpList_load_any rfl 26 (.tmp 4) rfl _ rfl 64 26 _ B0 _ Try.underlying26 rfl Try.size26 ?_) | (refine wpList_build_polys rfl 37 _ [f] rfl 26 rfl Try.underlying37 Try.elem26 (by simp) (by simp) rfl ?_; intro wa hwa hps hba; clear hwa) | (go_at_call 109; refine (l02Modulus_any p m hm [f] (by simp [hf]) _ _ hps (by simp)).mono ?_; rintro e W2 ⟨rfl, hbb⟩))
  have hBB : Below W1.heap.size W1 W2 := hba.trans (hbb.mono hba.size)
  replace B0 := B0.below hBB B0.lt
  replace B1 := B1.below hBB B1.lt
  replace hb := hb.trans (hBB.mono hb.size)
  clear hBB hba hbb hps
  rcases modV_cases (p := p) (m := m) (fs := [f]) with ⟨c, hc, hc0, hc12⟩ | ⟨hc, hcm, hcf, hm5⟩
  · have HV := Lib.hid (orV_code hc hc0)
    rw [hc]
    clear hc
    have hb1 : ((c : Int) != 0) = true := by simp [hc0]
    go_wp2_with fail
    go_ret2
    exact ⟨by rw [HV.out]; rfl, hb⟩
  · obtain ⟨n, hn, n2, n7⟩ := okP_nat (codeL_zero hcf).1
    subst hn
    have lf := lt_of_code hcf (f := f) (by simp)
    have lm := lt_of_code hcm (f := m) (by simp)
    have hpr := prime_of hcf
    obtain ⟨d, hmon, hd1, hd5⟩ := mon_up hm5
    have h0 : 0 ≤ deg m := by rw [hmon.1]; omega
    have h12 : deg m ≤ 12 := by rw [hmon.1]; omega
    cases hu : eqN 64 (bzD n f m) oneP with
    | false =>
      have HV := Lib.hid (orV_no hc hu)
      have HU := Lib.hid (fun W => l02Unit_any n f m W hpr lf lm h0)
      rw [hu] at HU
      have HO := Lib.hid (fun W => l02Order_any n f m W hpr lf lm h0 h12)
      obtain ⟨od, hod⟩ : ∃ x, x = odN n f m := ⟨_, rfl⟩
      rw [← hod] at HO
      rw [hc]
      clear hod hc hmon hd1 hd5 hm5 hcm hcf hu
      go_upto_region 4 with (fail)
      go_upto_region 5 with (first | (refine wpList_load_any rfl 26 (.tmp 4) rfl _ rfl 64 26 _ (B0) _ Try.underlying26 rfl Try.size26 ?_) | (refine wpList_load_any rfl 26 (.tmp 5) rfl _ rfl 64 26 _ (B1) _ Try.underlying26 rfl Try.size26 ?_) | (go_at_call 110; refine (HU.out _).mono ?_; rintro e W11 ⟨rfl, hW11⟩; replace B0 := B0.below hW11 B0.lt; replace B1 := B1.below hW11 B1.lt; replace hb := (hb).trans (hW11.mono (hb).size)))
      go_wp2_with fail
      go_ret2
      exact ⟨by rw [HV.out]; rfl, hb⟩
    | true =>
      have HV := Lib.hid (orV_ok hc hu)
      have HU := Lib.hid (fun W => l02Unit_any n f m W hpr lf lm h0)
      rw [hu] at HU
      have HO := Lib.hid (fun W => l02Order_any n f m W hpr lf lm h0 h12)
      obtain ⟨od, hod⟩ : ∃ x, x = odN n f m := ⟨_, rfl⟩
      rw [← hod] at HO HV
      rw [hc]
      clear hod hc hmon hd1 hd5 hm5 hcm hcf hu
      go_upto_region 4 with (fail)
      go_upto_region 6 with (first | (refine wpList_load_any rfl 26 (.tmp 4) rfl _ rfl 64 26 _ (B0) _ Try.underlying26 rfl Try.size26 ?_) | (refine wpList_load_any rfl 26 (.tmp 5) rfl _ rfl 64 26 _ (B1) _ Try.underlying26 rfl Try.size26 ?_) | (go_at_call 110; refine (HU.out _).mono ?_; rintro e W11 ⟨rfl, hW11⟩; replace B0 := B0.below hW11 B0.lt; replace B1 := B1.below hW11 B1.lt; replace hb := (hb).trans (hW11.mono (hb).size)))
      go_wp2_with (first | (refine wpList_load_any rfl 26 (.tmp 4) rfl _ rfl 64 26 _ (B0) _ Try.underlying26 rfl Try.size26 ?_) | (refine wpList_load_any rfl 26 (.tmp 5) rfl _ rfl 64 26 _ (B1) _ Try.underlying26 rfl Try.size26 ?_) | (go_at_call 111; refine (HO.out _).mono ?_; rintro e W12 ⟨rfl, hW12⟩; replace B0 := B0.below hW12 B0.lt; replace B1 := B1.below hW12 B1.lt; replace hb := (hb).trans (hW12.mono (hb).size)))
      go_ret2
      exact ⟨by rw [HV.out]; rfl, hb⟩
set_option maxRecDepth 100000 in
set_option maxHeartbeats 3200000 in
theorem impl_OrderModulo_any (p : Int) (f m : Nat → Nat) (hf : byte f) (hm : byte m) (w : World) :
    Calls Try.prog 57 #[.int .i64 p, .agg (bcells 64 f), .agg (bcells 64 m)] w fun e w' => e = .returned (.tuple #[.int .i64 (orV p f m).1, .int .i64 (orV p f m).2]) ∧ Below w.heap.size w w' := by
  go_enter Try.func57, Try.ntmps57
  go_upto_region 1 with (fail)
  obtain ⟨W1, hwo⟩ : ∃ v : World, v = ((w.alloc (.cells (bcells 64 (f)) 26)).alloc (.cells (bcells 64 (m)) 26)) := ⟨_, rfl⟩
  have B0 : Blk W1 (w.heap.size) 64 26 (f) := by subst hwo; have := ((Blk.new w 64 26 (f)).alloc (.cells (bcells 64 (m)) 26)); simpa using this
  have B1 : Blk W1 (w.heap.size + 1) 64 26 (m) := by subst hwo; have := (Blk.new (w.alloc (.cells (bcells 64 (f)) 26)) 64 26 (m)); simpa using this
  have hb : Below w.heap.size w W1 := by subst hwo; exact (((Below.refl _ _).alloc (Nat.le_refl _) _).alloc (by simp) _)
  rw [← hwo]
  clear hwo
  go_upto_region 2 with (first | (refine wpList_load_any rfl 26 (.tmp 5) rfl _ rfl 64 26 _ B1 _ Try.underlying26 rfl Try.size26 ?_) | (refine wpList_load_any rfl 26 (.tmp 4) rfl _ rfl 64 26 _ B0 _ Try.underlying26 rfl Try.size26 ?_) | (refine wpList_build_polys rfl 37 _ [f] rfl 26 rfl Try.underlying37 Try.elem26 (by simp) (by simp) rfl ?_; intro wa hwa hps hba; clear hwa) | (go_at_call 112; refine (checkModulus_any p m hm [f] (by simp [hf]) _ _ hps (by simp)).mono ?_; rintro e W2 ⟨rfl, hbb⟩))
  have hBB : Below W1.heap.size W1 W2 := hba.trans (hbb.mono hba.size)
  replace B0 := B0.below hBB B0.lt
  replace B1 := B1.below hBB B1.lt
  replace hb := hb.trans (hBB.mono hb.size)
  clear hBB hba hbb hps
  rcases modV_cases (p := p) (m := m) (fs := [f]) with ⟨c, hc, hc0, hc12⟩ | ⟨hc, hcm, hcf, hm5⟩
  · have HV := Lib.hid (orV_code hc hc0)
    rw [hc]
    clear hc
    have hb1 : ((c : Int) != 0) = true := by simp [hc0]
    go_wp2_with fail
    go_ret2
    exact ⟨by rw [HV.out]; rfl, hb⟩
  · obtain ⟨n, hn, n2, n7⟩ := okP_nat (codeL_zero hcf).1
    subst hn
    have lf := lt_of_code hcf (f := f) (by simp)
    have lm := lt_of_code hcm (f := m) (by simp)
    have hpr := prime_of hcf
    obtain ⟨d, hmon, hd1, hd5⟩ := mon_up hm5
    have h0 : 0 ≤ deg m := by rw [hmon.1]; omega
    have h12 : deg m ≤ 12 := by rw [hmon.1]; omega
    cases hu : eqN 64 (bzD n f m) oneP with
    | false =>
      have HV := Lib.hid (orV_no hc hu)
      have HU := Lib.hid (fun W => isUnit_any n f m W hpr lf lm h0)
      rw [hu] at HU
      have HO := Lib.hid (fun W => orderOf_any n f m W hpr lf lm h0 h12)
      obtain ⟨od, hod⟩ : ∃ x, x = odN n f m := ⟨_, rfl⟩
      rw [← hod] at HO
      rw [hc]
      clear hod hc hmon hd1 hd5 hm5 hcm hcf hu
      go_upto_region 4 with (fail)
      go_upto_region 5 with (first | (refine wpList_load_any rfl 26 (.tmp 4) rfl _ rfl 64 26 _ (B0) _ Try.underlying26 rfl Try.size26 ?_) | (refine wpList_load_any rfl 26 (.tmp 5) rfl _ rfl 64 26 _ (B1) _ Try.underlying26 rfl Try.size26 ?_) | (go_at_call 113; refine (HU.out _).mono ?_; rintro e W11 ⟨rfl, hW11⟩; replace B0 := B0.below hW11 B0.lt; replace B1 := B1.below hW11 B1.lt; replace hb := (hb).trans (hW11.mono (hb).size)))
      go_wp2_with fail
      go_ret2
      exact ⟨by rw [HV.out]; rfl, hb⟩
    | true =>
      have HV := Lib.hid (orV_ok hc hu)
      have HU := Lib.hid (fun W => isUnit_any n f m W hpr lf lm h0)
      rw [hu] at HU
      have HO := Lib.hid (fun W => orderOf_any n f m W hpr lf lm h0 h12)
      obtain ⟨od, hod⟩ : ∃ x, x = odN n f m := ⟨_, rfl⟩
      rw [← hod] at HO HV
      rw [hc]
      clear hod hc hmon hd1 hd5 hm5 hcm hcf hu
      go_upto_region 4 with (fail)
      go_upto_region 6 with (first | (refine wpList_load_any rfl 26 (.tmp 4) rfl _ rfl 64 26 _ (B0) _ Try.underlying26 rfl Try.size26 ?_) | (refine wpList_load_any rfl 26 (.tmp 5) rfl _ rfl 64 26 _ (B1) _ Try.underlying26 rfl Try.size26 ?_) | (go_at_call 113; refine (HU.out _).mono ?_; rintro e W11 ⟨rfl, hW11⟩; replace B0 := B0.below hW11 B0.lt; replace B1 := B1.below hW11 B1.lt; replace hb := (hb).trans (hW11.mono (hb).size)))
      go_wp2_with (first | (refine wpList_load_any rfl 26 (.tmp 4) rfl _ rfl 64 26 _ (B0) _ Try.underlying26 rfl Try.size26 ?_) | (refine wpList_load_any rfl 26 (.tmp 5) rfl _ rfl 64 26 _ (B1) _ Try.underlying26 rfl Try.size26 ?_) | (go_at_call 114; refine (HO.out _).mono ?_; rintro e W12 ⟨rfl, hW12⟩; replace B0 := B0.below hW12 B0.lt; replace B1 := B1.below hW12 B1.lt; replace hb := (hb).trans (hW12.mono (hb).size)))
      go_ret2
      exact ⟨by rw [HV.out]; rfl, hb⟩
end Go.Proofs.Ytpeehpaghdddgaa
