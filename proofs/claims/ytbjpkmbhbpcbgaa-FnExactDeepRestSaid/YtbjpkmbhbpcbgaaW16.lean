/-
  Walks: the model's division.
-/
import Derived.Test.YtbjpkmbhbpcbgaaBz
import Derived.Test.YtbjpkmbhbpcbgaaW13
import Derived.Test.YtbjpkmbhbpcbgaaInv2
namespace Go.Proofs.Ytbjpkmbhbpcbgaa
open Go.RowKit
set_option linter.unusedVariables false
set_option linter.unusedSimpArgs false
attribute [local irreducible] deg invN dS qS stp stpr
set_option maxRecDepth 100000 in
set_option maxHeartbeats 3200000 in
theorem l01Divide_any (p : Nat) (a b : Nat → Nat) (w : World) (hp : p = 2 ∨ p = 3 ∨ p = 5 ∨ p = 7) (ha : ∀ k, k < 64 → a k < p) (hbp : ∀ k, k < 64 → b k < p) (hd : 0 ≤ deg b) :
    Calls Try.prog 122 #[.int .i64 (p : Int), .agg (bcells 64 a), .agg (bcells 64 b)] w fun e w' => e = .returned (.tuple #[.agg (bcells 64 (quoP p a b)), .agg (bcells 64 (resP p a b))]) ∧ Below w.heap.size w w' := by
  obtain ⟨m, hm⟩ : ∃ m : Nat, deg b = (m : Int) := ⟨(deg b).toNat, by omega⟩
  obtain ⟨hm6, hbm, _⟩ := deg_top hm
  rw [quoP_at hm, resP_at hm]
  obtain ⟨inv, hinv⟩ : ∃ v, v = invN p (b m) := ⟨_, rfl⟩
  have hi7 : inv < p := by have := (invF hp hbm (hbp m hm6)).2.1; omega
  have p2 : 2 ≤ p := by omega
  have p7 : p ≤ 7 := by omega
  have p0 : 0 < p := by omega
  rw [← hinv]
  obtain ⟨N, hN⟩ : ∃ N : Nat, deg a + 1 = (N : Int) := ⟨(deg a + 1).toNat, by have := deg_bounds a; omega⟩
  have hN64 : N ≤ 64 := by have := deg_bounds a; omega
  have hNa : deg a = (N : Int) - 1 := by omega
  have HZ := Lib.hid (cut_stop (a := a) (N := N) (by omega))
  have HA := Lib.hid ha
  have HC := Lib.hid (fun k (_ : k < 128) => cut_all p0 ha k)
  have HB := Lib.hid hbp; clear hbp
  have HI := Lib.hid hinv; clear hinv
  have HM := Lib.hid hm; clear hm
  have HNA := Lib.hid hNa
  clear hN hNa ha hd
  go_enter Try.func122, Try.ntmps122
  go_upto_region 1 with (fail)
  rw [← zero64]
  obtain ⟨wo, hwo⟩ : ∃ wo : World, wo = ((((w.alloc (.cells (bcells 64 a) 23)).alloc (.cells (bcells 64 b) 23)).alloc (.cells (bcells 64 fun _ => 0) 23)).alloc (.cells (bcells 64 fun _ => 0) 23)) := ⟨_, rfl⟩
  have b0 : Blk wo (w.heap.size) 64 23 a := by subst hwo; have := ((((Blk.new w 64 23 a).alloc (.cells (bcells 64 b) 23)).alloc (.cells (bcells 64 fun _ => 0) 23)).alloc (.cells (bcells 64 fun _ => 0) 23)); simpa using this
  have b1 : Blk wo (w.heap.size + 1) 64 23 b := by subst hwo; have := (((Blk.new (w.alloc (.cells (bcells 64 a) 23)) 64 23 b).alloc (.cells (bcells 64 fun _ => 0) 23)).alloc (.cells (bcells 64 fun _ => 0) 23)); simpa using this
  have b2 : Blk wo (w.heap.size + 1 + 1) 64 23 (fun _ => 0) := by subst hwo; have := ((Blk.new ((w.alloc (.cells (bcells 64 a) 23)).alloc (.cells (bcells 64 b) 23)) 64 23 (fun _ => 0)).alloc (.cells (bcells 64 fun _ => 0) 23)); simpa using this
  have b3 : Blk wo (w.heap.size + 1 + 1 + 1) 64 23 (fun _ => 0) := by subst hwo; have := (Blk.new (((w.alloc (.cells (bcells 64 a) 23)).alloc (.cells (bcells 64 b) 23)).alloc (.cells (bcells 64 fun _ => 0) 23)) 64 23 (fun _ => 0)); simpa using this
  have hb : Below w.heap.size w wo := by subst hwo; exact (((((Below.refl _ _).alloc (Nat.le_refl _) _).alloc (by simp) _).alloc (by simp; omega) _).alloc (by simp; omega) _)
  rw [← hwo]
  clear hwo
  have ha : Below wo.heap.size wo wo := Below.refl _ _
  go_upto_region 2 with (first | refine wpList_load_blk rfl 23 _ rfl _ rfl 64 23 _ (b1.below (by assumption) b1.lt) 5 Try.underlying23 Try.size23 ?_ | (go_at_call 73; refine (acc (l01Deg_any _ _) (by assumption)).mono ?_; rintro e w1 ⟨rfl, h1, ha⟩; rw [HM.out]) | refine wpList_store_new rfl 23 _ _ rfl _ 23 64 (fun _ => 0) rfl (by exact congrArg Value.agg zero64.symm) rfl Try.size23 ?_)
  replace hb := hb.trans (ha.mono hb.size)
  replace b0 := b0.below ha b0.lt
  replace b1 := b1.below ha b1.lt
  replace b2 := b2.below ha b2.lt
  replace b3 := b3.below ha b3.lt
  have hlt3 := b3.lt
  have b8 := Blk.new w1 64 23 (fun _ => 0)
  replace b0 := b0.alloc (.cells (bcells 64 fun _ => 0) 23)
  replace b1 := b1.alloc (.cells (bcells 64 fun _ => 0) 23)
  replace b2 := b2.alloc (.cells (bcells 64 fun _ => 0) 23)
  replace b3 := b3.alloc (.cells (bcells 64 fun _ => 0) 23)
  replace hb := hb.alloc hb.size (.cells (bcells 64 fun _ => 0) 23)
  clear ha h1
  obtain ⟨w2, hw2⟩ : ∃ w2 : World, w2 = w1.alloc (.cells (bcells 64 fun _ => 0) 23) := ⟨_, rfl⟩
  obtain ⟨n8, hn8⟩ : ∃ n8, n8 = w1.heap.size := ⟨_, rfl⟩
  rw [← hw2] at b0 b1 b2 b3 b8 hb ⊢
  rw [← hn8] at b8 hlt3 ⊢
  clear hw2 hn8
  have ha : Below w2.heap.size w2 w2 := Below.refl _ _
  have c1 := b1.cell (i := m) hm6
  go_upto_region 4 with (first | refine wpList_load_blk rfl 23 _ rfl _ rfl 64 23 _ (b0.below (by assumption) b0.lt) 5 Try.underlying23 Try.size23 ?_ | (go_at_call 171; refine (l01Inverse_any p (b m) _ hp hbm (HB.out m hm6)).mono ?_; rintro e w1 ⟨rfl, rfl⟩; rw [← HI.out]) | (go_at_call 73; refine (acc (l01Deg_any _ _) (by assumption)).mono ?_; rintro e w1 ⟨rfl, h1, ha⟩; rw [HNA.out]))
  replace hb := hb.trans (ha.mono hb.size)
  replace b0 := b0.below ha b0.lt
  replace b1 := b1.below ha b1.lt
  replace b2 := b2.below ha b2.lt
  replace b3 := b3.below ha b3.lt
  replace b8 := b8.below ha b8.lt
  clear ha h1 c1
  rw [← zero64]
  go_loopw [11] (fun c wr => ∃ t s : Nat, c = .int .i64 ((t : Int) - 1) ∧ m ≤ s ∧ (s = t ∨ (t < m ∧ s = m)) ∧ t ≤ 64 ∧ s ≤ 64 ∧ Below w.heap.size w wr ∧ Blk wr w.heap.size 64 23 (dS p inv m b (cut a) (128 - s)) ∧ Blk wr (w.heap.size + 1) 64 23 b ∧ Blk wr (w.heap.size + 1 + 1) 64 23 (fun _ => 0) ∧ Blk wr (w.heap.size + 1 + 1 + 1) 64 23 (fun _ => 0) ∧ Blk wr n8 64 23 (qS p inv m b (cut a) (128 - s))) (fun c _ => (intOf c + 1).toNat)
  case atStart =>
    have hs : ∃ s : Nat, m ≤ s ∧ (s = N ∨ (N < m ∧ s = m)) ∧ N ≤ s ∧ s ≤ 64 := by
      by_cases h : N < m
      · exact ⟨m, by omega, Or.inr ⟨h, rfl⟩, by omega, by omega⟩
      · exact ⟨N, by omega, Or.inl rfl, by omega, by omega⟩
    obtain ⟨s, s1, s2, s3, s4⟩ := hs
    exact ⟨N, s, rfl, s1, s2, hN64, s4, hb, b0.congr (fun k hk => by rw [dS_stay (N := N) HC.out HZ.out _ (by omega) k (by omega), cut_in a hk]), b1, b2, b3, b8.congr (fun k _ => (qS_start HC.out HZ.out s3 k).symm)⟩
  case round =>
    clear hb b0 b1 b2 b3 b8
    obtain ⟨t, s, rfl, s1, s2, s3, s4, hb, b0, b1, b2, b3, b8⟩ := hrel
    by_cases hlt : m < t
    · obtain rfl : s = t := by omega
      obtain ⟨j, rfl⟩ : ∃ j, s = j + 1 := ⟨s - 1, by omega⟩
      rw [show ((j + 1 : Nat) : Int) - 1 = (j : Int) by omega]
      obtain ⟨A, hA⟩ : ∃ A : Nat → Nat, A = dS p inv m b (cut a) (127 - j) := ⟨_, rfl⟩
      have hAp : ∀ k, k < 128 → A k < p := by rw [hA]; exact dS_lt p0 HC.out _
      have HN := Lib.hid (show ∀ k, stp p inv m b j A k = dS p inv m b (cut a) (128 - j) k by
        intro k; rw [show 128 - j = 127 - j + 1 by omega, dS_succ, show 127 - (127 - j) = j by omega, hA])
      have HQ := Lib.hid (show ∀ k, upd (qS p inv m b (cut a) (127 - j)) (j - m) (A j * inv % p) k = qS p inv m b (cut a) (128 - j) k by
        intro k
        have := qS_next (p := p) (inv := inv) b (cut a) (i := 127 - j) (m := m) (by omega) k
        rw [show 127 - (127 - j) = j by omega, ← hA] at this
        rw [show 128 - j = 127 - j + 1 by omega]
        exact this)
      rw [show 128 - (j + 1) = 127 - j by omega] at b0 b8
      rw [← hA] at b0
      have HAP := Lib.hid hAp
      have hjA : A j < p := hAp j (by omega)
      have c0 := b0.cell (i := j) (by omega)
      obtain ⟨m1, m2⟩ := small_nat_mul p7 hjA hi7
      obtain ⟨τ, hτ⟩ : ∃ τ : Nat, τ = A j * inv % p := ⟨_, rfl⟩
      have hτp : τ < p := by rw [hτ]; exact Nat.mod_lt _ p0
      have hτe : ((A j : Int) * (inv : Int)).tmod (p : Int) = (τ : Int) := by rw [hτ, Int.tmod_eq_emod_of_nonneg m2]; push_cast; rfl
      have hτf : (A j : Int) * (inv : Int) % (p : Int) = (τ : Int) := by rw [hτ]; push_cast; rfl
      have HT := Lib.hid hτ
      have hjm : ((j : Int) - (m : Int)).toNat = j - m := by omega
      have z8 := b8.frozen (j - m)
      have c8 := b8.cell (i := j - m) (by omega)
      clear hA hAp hτ
      go_wp2_with fail
      try simp only [show decide ((m : Int) ≤ (j : Int)) = true by simp <;> omega]
      have b8q : Blk (wr.setCell ⟨n8, j - m, none⟩ (.int .u8 (τ : Int))) n8 64 23 (qS p inv m b (cut a) (128 - j)) := (b8.set rfl).congr (fun k _ => by rw [← HQ.out k, HT.out])
      have hbq : Below w.heap.size w (wr.setCell ⟨n8, j - m, none⟩ (.int .u8 (τ : Int))) := hb.setCell (by simp; omega) _
      have b0q := (b0.congr (fun k _ => (stpr_zero p inv m b j A k).symm)).setOther (a := ⟨n8, j - m, none⟩) (v := .int .u8 (τ : Int)) (by simp <;> omega)
      have b1q := b1.setOther (a := ⟨n8, j - m, none⟩) (v := .int .u8 (τ : Int)) (by simp <;> omega)
      have b2q := b2.setOther (a := ⟨n8, j - m, none⟩) (v := .int .u8 (τ : Int)) (by simp <;> omega)
      have b3q := b3.setOther (a := ⟨n8, j - m, none⟩) (v := .int .u8 (τ : Int)) (by simp <;> omega)
      obtain ⟨w5, hw5⟩ : ∃ w5, w5 = wr.setCell ⟨n8, j - m, none⟩ (.int .u8 (τ : Int)) := ⟨_, rfl⟩
      rw [← hw5] at b8q hbq b0q b1q b2q b3q ⊢
      clear hw5 hb b0 b1 b2 b3 b8 c0 c8 z8 hτe hτf m1 m2 hjm
      go_loopw [13] (fun c wr => ∃ i : Nat, i ≤ m + 1 ∧ (τ = 0 → i = 0) ∧ c = .int .i64 (i : Int) ∧ Below w.heap.size w wr ∧ Blk wr w.heap.size 64 23 (stpr p inv m b j A i) ∧ Blk wr (w.heap.size + 1) 64 23 b ∧ Blk wr (w.heap.size + 1 + 1) 64 23 (fun _ => 0) ∧ Blk wr (w.heap.size + 1 + 1 + 1) 64 23 (fun _ => 0) ∧ Blk wr n8 64 23 (qS p inv m b (cut a) (128 - j))) (fun c _ => m + 1 - (intOf c).toNat)
      case atStart => exact ⟨0, by omega, fun _ => rfl, rfl, hbq, b0q, b1q, b2q, b3q, b8q⟩
      case round =>
        clear hbq b0q b1q b2q b3q b8q
        obtain ⟨i, hi, hi0, rfl, hb, b0, b1, b2, b3, b8⟩ := hrel
        by_cases hz : τ = 0
        · obtain rfl : i = 0 := hi0 hz
          have b0f := b0.congr (g := dS p inv m b (cut a) (128 - j)) (fun k hk => by rw [stpr_zero, ← HN.out k]; exact (stp_none (N := 128) HAP.out (by rw [← HT.out, hz]) (by omega)).symm)
          have hτ0 : (τ : Int) = 0 := by omega
          clear hz
          go_wp2_with fail
          go_roundw
          case rel => exact ⟨j, j, by go_num, by omega, Or.inl rfl, by omega, by omega, hb, b0f, b1, b2, b3, b8⟩
          case measure => simp [intOf] <;> omega
        · have hτ0 : (τ : Int) ≠ 0 := by omega
          by_cases hlti : i < m + 1
          · have v1 := HAP.out (j - m + i) (by omega)
            have v2 := HB.out i (by omega)
            have hji : ((j : Int) - (m : Int) + (i : Int)).toNat = j - m + i := by omega
            obtain ⟨m3, m4⟩ := small_nat_mul p7 hτp v2
            obtain ⟨V, hV⟩ : ∃ V, V = (A (j - m + i) + (p - A j * inv % p) * b i) % p := ⟨_, rfl⟩
            have hVp : V < p := by rw [hV]; exact Nat.mod_lt _ p0
            have hE : ((A (j - m + i) : Int) - (τ : Int) * (b i : Int)) % (p : Int) = (V : Int) := by rw [hV, ← HT.out]; exact take_off (by omega)
            obtain ⟨r1, hr1⟩ : ∃ r1, r1 = ((A (j - m + i) : Int) - (τ : Int) * (b i : Int)).tmod (p : Int) := ⟨_, rfl⟩
            have hr2 : (r1 + (p : Int)).tmod (p : Int) = (V : Int) := by rw [hr1, tmod_twice _ p p0]; exact hE
            have t1 : -(p : Int) < r1 := by
              have := Int.tmod_lt_of_pos (-((A (j - m + i) : Int) - (τ : Int) * (b i : Int))) (b := (p : Int)) (by omega)
              rw [Int.neg_tmod] at this; omega
            have t2 : r1 < (p : Int) := by rw [hr1]; exact Int.tmod_lt_of_pos _ (by omega)
            have hr3 := hr1.symm
            have HV := Lib.hid hV
            clear hE hV hr1 hi0
            go_wp2_with fail
            try simp only [show decide ((i : Int) ≤ (m : Int)) = true by simp <;> omega]
            try simp only [show ((τ : Int) != 0) = true by simp <;> omega]
            try simp only [Bool.true_and, Bool.and_true]
            have lt_b0 : (w.heap.size) < wr.heap.size := b0.lt
            have lt_b1 : (w.heap.size + 1) < wr.heap.size := b1.lt
            have lt_b2 : (w.heap.size + 1 + 1) < wr.heap.size := b2.lt
            have lt_b3 : (w.heap.size + 1 + 1 + 1) < wr.heap.size := b3.lt
            have lt_b8 : (n8) < wr.heap.size := b8.lt
            have hbase : w.heap.size ≤ wr.heap.size := hb.size
            refine wp_region_steps0 Try.mixed (by kernel_rfl) (by kernel_rfl) (fun v => by (simp only [frL, Act.put, List.setIfInBounds_toArray, List.set_cons_zero, List.set_cons_succ, Nat.reduceAdd, Nat.zero_add]; exact rfl))
              (fun L v wx => Below w.heap.size w wx ∧ wr.heap.size ≤ wx.heap.size ∧ (∃ g, Blk wx (w.heap.size) 64 23 (g)) ∧ (L 28 = false → Blk wx (w.heap.size) 64 23 (stpr p inv m b j A i)) ∧ (L 28 = true → Blk wx (w.heap.size) 64 23 (stpr p inv m b j A (i + 1))) ∧ Blk wx (w.heap.size + 1) 64 23 (b) ∧ Blk wx (w.heap.size + 1 + 1) 64 23 (fun _ => 0) ∧ Blk wx (w.heap.size + 1 + 1 + 1) 64 23 (fun _ => 0) ∧ Blk wx (n8) 64 23 (qS p inv m b (cut a) (128 - j)) ∧ (L 0 = true → v 0 = (.int .i64 (j : Int))) ∧ (L 1 = true → v 1 = (.int .i64 (m : Int))) ∧ (L 2 = true → v 2 = (.int .i64 ((j : Int) - (m : Int)))) ∧ (L 3 = true → v 3 = (.int .i64 (i : Int))) ∧ (L 4 = true → v 4 = (.int .i64 ((j : Int) - (m : Int) + (i : Int)))) ∧ (L 5 = true → v 5 = (.int .i64 (j : Int))) ∧ (L 6 = true → v 6 = (.int .i64 (m : Int))) ∧ (L 7 = true → v 7 = (.int .i64 ((j : Int) - (m : Int)))) ∧ (L 8 = true → v 8 = (.int .i64 (i : Int))) ∧ (L 9 = true → v 9 = (.int .i64 ((j : Int) - (m : Int) + (i : Int)))) ∧ (L 10 = true → v 10 = (.pointer (some ⟨w.heap.size, j - m + i, none⟩))) ∧ (L 11 = true → v 11 = (.int .u8 (A (j - m + i) : Int))) ∧ (L 12 = true → v 12 = (.int .i64 (A (j - m + i) : Int))) ∧ (L 13 = true → v 13 = (.int .i64 (τ : Int))) ∧ (L 14 = true → v 14 = (.int .i64 (i : Int))) ∧ (L 15 = true → v 15 = (.pointer (some ⟨w.heap.size + 1, i, none⟩))) ∧ (L 16 = true → v 16 = (.int .u8 (b i : Int))) ∧ (L 17 = true → v 17 = (.int .i64 (b i : Int))) ∧ (L 18 = true → v 18 = (.int .i64 ((τ : Int) * (b i : Int)))) ∧ (L 19 = true → v 19 = (.int .i64 ((A (j - m + i) : Int) - ((τ : Int) * (b i : Int))))) ∧ (L 20 = true → v 20 = (.int .i64 (p : Int))) ∧ (L 21 = true → v 21 = (.int .i64 r1)) ∧ (L 22 = true → v 22 = (.int .i64 (p : Int))) ∧ (L 23 = true → v 23 = (.int .i64 (r1 + (p : Int)))) ∧ (L 24 = true → v 24 = (.int .i64 (p : Int))) ∧ (L 25 = true → v 25 = (.int .i64 (V : Int))) ∧ (L 26 = true → v 26 = (.int .u8 (V : Int))) ∧ (L 27 = true → v 27 = (.pointer (some ⟨w.heap.size, j - m + i, none⟩)))) ?_ ?_ ?_
            · intro v hv0
              exact ⟨hb.drew, Nat.le_refl _, ⟨_, b0.drew⟩, (fun _ => b0.drew), (fun h => by cases h), b1.drew, b2.drew, b3.drew, b8.drew, (fun h => by cases h), (fun h => by cases h), (fun h => by cases h), (fun h => by cases h), (fun h => by cases h), (fun h => by cases h), (fun h => by cases h), (fun h => by cases h), (fun h => by cases h), (fun h => by cases h), (fun h => by cases h), (fun h => by cases h), (fun h => by cases h), (fun h => by cases h), (fun h => by cases h), (fun h => by cases h), (fun h => by cases h), (fun h => by cases h), (fun h => by cases h), (fun h => by cases h), (fun h => by cases h), (fun h => by cases h), (fun h => by cases h), (fun h => by cases h), (fun h => by cases h), (fun h => by cases h), (fun h => by cases h), (fun h => by cases h)⟩
            · refine (.cons rfl ?_ (.cons rfl ?_ (.cons rfl ?_ (.cons rfl ?_ (.cons rfl ?_ (.cons rfl ?_ (.cons rfl ?_ (.cons rfl ?_ (.cons rfl ?_ (.cons rfl ?_ (.cons rfl ?_ (.cons rfl ?_ (.cons rfl ?_ (.cons rfl ?_ (.cons rfl ?_ (.cons rfl ?_ (.cons rfl ?_ (.cons rfl ?_ (.cons rfl ?_ (.cons rfl ?_ (.cons rfl ?_ (.cons rfl ?_ (.cons rfl ?_ (.cons rfl ?_ (.cons rfl ?_ (.cons rfl ?_ (.cons rfl ?_ (.cons rfl ?_ (.cons rfl ?_ (.nil _))))))))))))))))))))))))))))))
              · intro L v wx hd hn ⟨hB, hz, x0, q0, n0, s1, s2, s3, s4, h0, h1, h2, h3, h4, h5, h6, h7, h8, h9, h10, h11, h12, h13, h14, h15, h16, h17, h18, h19, h20, h21, h22, h23, h24, h25, h26, h27⟩ K hK
                go_wp2_with fail
                exact hK _ (.int .i64 (j : Int)) _ (by simp only [Act.put, List.setIfInBounds_toArray, List.set_cons_zero, List.set_cons_succ ]) ⟨hB, hz, x0, q0, n0, s1, s2, s3, s4, (fun _ => rfl), h1, h2, h3, h4, h5, h6, h7, h8, h9, h10, h11, h12, h13, h14, h15, h16, h17, h18, h19, h20, h21, h22, h23, h24, h25, h26, h27⟩
              · intro L v wx hd hn ⟨hB, hz, x0, q0, n0, s1, s2, s3, s4, h0, h1, h2, h3, h4, h5, h6, h7, h8, h9, h10, h11, h12, h13, h14, h15, h16, h17, h18, h19, h20, h21, h22, h23, h24, h25, h26, h27⟩ K hK
                go_wp2_with fail
                exact hK _ (.int .i64 (m : Int)) _ (by simp only [Act.put, List.setIfInBounds_toArray, List.set_cons_zero, List.set_cons_succ ]) ⟨hB, hz, x0, q0, n0, s1, s2, s3, s4, h0, (fun _ => rfl), h2, h3, h4, h5, h6, h7, h8, h9, h10, h11, h12, h13, h14, h15, h16, h17, h18, h19, h20, h21, h22, h23, h24, h25, h26, h27⟩
              · intro L v wx hd hn ⟨hB, hz, x0, q0, n0, s1, s2, s3, s4, h0, h1, h2, h3, h4, h5, h6, h7, h8, h9, h10, h11, h12, h13, h14, h15, h16, h17, h18, h19, h20, h21, h22, h23, h24, h25, h26, h27⟩ K hK
                have e0 := h0 (hd ⟨0, .data⟩ (by simp) rfl)
                have e1 := h1 (hd ⟨1, .data⟩ (by simp) rfl)
                go_wp2_with fail
                exact hK _ (.int .i64 ((j : Int) - (m : Int))) _ (by simp only [Act.put, List.setIfInBounds_toArray, List.set_cons_zero, List.set_cons_succ, e0, e1]) ⟨hB, hz, x0, q0, n0, s1, s2, s3, s4, h0, h1, (fun _ => rfl), h3, h4, h5, h6, h7, h8, h9, h10, h11, h12, h13, h14, h15, h16, h17, h18, h19, h20, h21, h22, h23, h24, h25, h26, h27⟩
              · intro L v wx hd hn ⟨hB, hz, x0, q0, n0, s1, s2, s3, s4, h0, h1, h2, h3, h4, h5, h6, h7, h8, h9, h10, h11, h12, h13, h14, h15, h16, h17, h18, h19, h20, h21, h22, h23, h24, h25, h26, h27⟩ K hK
                go_wp2_with fail
                exact hK _ (.int .i64 (i : Int)) _ (by simp only [Act.put, List.setIfInBounds_toArray, List.set_cons_zero, List.set_cons_succ ]) ⟨hB, hz, x0, q0, n0, s1, s2, s3, s4, h0, h1, h2, (fun _ => rfl), h4, h5, h6, h7, h8, h9, h10, h11, h12, h13, h14, h15, h16, h17, h18, h19, h20, h21, h22, h23, h24, h25, h26, h27⟩
              · intro L v wx hd hn ⟨hB, hz, x0, q0, n0, s1, s2, s3, s4, h0, h1, h2, h3, h4, h5, h6, h7, h8, h9, h10, h11, h12, h13, h14, h15, h16, h17, h18, h19, h20, h21, h22, h23, h24, h25, h26, h27⟩ K hK
                have e2 := h2 (hd ⟨2, .data⟩ (by simp) rfl)
                have e3 := h3 (hd ⟨3, .data⟩ (by simp) rfl)
                go_wp2_with fail
                exact hK _ (.int .i64 ((j : Int) - (m : Int) + (i : Int))) _ (by simp only [Act.put, List.setIfInBounds_toArray, List.set_cons_zero, List.set_cons_succ, e2, e3]) ⟨hB, hz, x0, q0, n0, s1, s2, s3, s4, h0, h1, h2, h3, (fun _ => rfl), h5, h6, h7, h8, h9, h10, h11, h12, h13, h14, h15, h16, h17, h18, h19, h20, h21, h22, h23, h24, h25, h26, h27⟩
              · intro L v wx hd hn ⟨hB, hz, x0, q0, n0, s1, s2, s3, s4, h0, h1, h2, h3, h4, h5, h6, h7, h8, h9, h10, h11, h12, h13, h14, h15, h16, h17, h18, h19, h20, h21, h22, h23, h24, h25, h26, h27⟩ K hK
                go_wp2_with fail
                exact hK _ (.int .i64 (j : Int)) _ (by simp only [Act.put, List.setIfInBounds_toArray, List.set_cons_zero, List.set_cons_succ ]) ⟨hB, hz, x0, q0, n0, s1, s2, s3, s4, h0, h1, h2, h3, h4, (fun _ => rfl), h6, h7, h8, h9, h10, h11, h12, h13, h14, h15, h16, h17, h18, h19, h20, h21, h22, h23, h24, h25, h26, h27⟩
              · intro L v wx hd hn ⟨hB, hz, x0, q0, n0, s1, s2, s3, s4, h0, h1, h2, h3, h4, h5, h6, h7, h8, h9, h10, h11, h12, h13, h14, h15, h16, h17, h18, h19, h20, h21, h22, h23, h24, h25, h26, h27⟩ K hK
                go_wp2_with fail
                exact hK _ (.int .i64 (m : Int)) _ (by simp only [Act.put, List.setIfInBounds_toArray, List.set_cons_zero, List.set_cons_succ ]) ⟨hB, hz, x0, q0, n0, s1, s2, s3, s4, h0, h1, h2, h3, h4, h5, (fun _ => rfl), h7, h8, h9, h10, h11, h12, h13, h14, h15, h16, h17, h18, h19, h20, h21, h22, h23, h24, h25, h26, h27⟩
              · intro L v wx hd hn ⟨hB, hz, x0, q0, n0, s1, s2, s3, s4, h0, h1, h2, h3, h4, h5, h6, h7, h8, h9, h10, h11, h12, h13, h14, h15, h16, h17, h18, h19, h20, h21, h22, h23, h24, h25, h26, h27⟩ K hK
                have e5 := h5 (hd ⟨5, .data⟩ (by simp) rfl)
                have e6 := h6 (hd ⟨6, .data⟩ (by simp) rfl)
                go_wp2_with fail
                exact hK _ (.int .i64 ((j : Int) - (m : Int))) _ (by simp only [Act.put, List.setIfInBounds_toArray, List.set_cons_zero, List.set_cons_succ, e5, e6]) ⟨hB, hz, x0, q0, n0, s1, s2, s3, s4, h0, h1, h2, h3, h4, h5, h6, (fun _ => rfl), h8, h9, h10, h11, h12, h13, h14, h15, h16, h17, h18, h19, h20, h21, h22, h23, h24, h25, h26, h27⟩
              · intro L v wx hd hn ⟨hB, hz, x0, q0, n0, s1, s2, s3, s4, h0, h1, h2, h3, h4, h5, h6, h7, h8, h9, h10, h11, h12, h13, h14, h15, h16, h17, h18, h19, h20, h21, h22, h23, h24, h25, h26, h27⟩ K hK
                go_wp2_with fail
                exact hK _ (.int .i64 (i : Int)) _ (by simp only [Act.put, List.setIfInBounds_toArray, List.set_cons_zero, List.set_cons_succ ]) ⟨hB, hz, x0, q0, n0, s1, s2, s3, s4, h0, h1, h2, h3, h4, h5, h6, h7, (fun _ => rfl), h9, h10, h11, h12, h13, h14, h15, h16, h17, h18, h19, h20, h21, h22, h23, h24, h25, h26, h27⟩
              · intro L v wx hd hn ⟨hB, hz, x0, q0, n0, s1, s2, s3, s4, h0, h1, h2, h3, h4, h5, h6, h7, h8, h9, h10, h11, h12, h13, h14, h15, h16, h17, h18, h19, h20, h21, h22, h23, h24, h25, h26, h27⟩ K hK
                have e7 := h7 (hd ⟨7, .data⟩ (by simp) rfl)
                have e8 := h8 (hd ⟨8, .data⟩ (by simp) rfl)
                go_wp2_with fail
                exact hK _ (.int .i64 ((j : Int) - (m : Int) + (i : Int))) _ (by simp only [Act.put, List.setIfInBounds_toArray, List.set_cons_zero, List.set_cons_succ, e7, e8]) ⟨hB, hz, x0, q0, n0, s1, s2, s3, s4, h0, h1, h2, h3, h4, h5, h6, h7, h8, (fun _ => rfl), h10, h11, h12, h13, h14, h15, h16, h17, h18, h19, h20, h21, h22, h23, h24, h25, h26, h27⟩
              · intro L v wx hd hn ⟨hB, hz, x0, q0, n0, s1, s2, s3, s4, h0, h1, h2, h3, h4, h5, h6, h7, h8, h9, h10, h11, h12, h13, h14, h15, h16, h17, h18, h19, h20, h21, h22, h23, h24, h25, h26, h27⟩ K hK
                have e9 := h9 (hd ⟨9, .data⟩ (by simp) rfl)
                go_wp2_with fail
                exact hK _ (.pointer (some ⟨w.heap.size, j - m + i, none⟩)) _ (by simp only [Act.put, List.setIfInBounds_toArray, List.set_cons_zero, List.set_cons_succ, e9]) ⟨hB, hz, x0, q0, n0, s1, s2, s3, s4, h0, h1, h2, h3, h4, h5, h6, h7, h8, h9, (fun _ => rfl), h11, h12, h13, h14, h15, h16, h17, h18, h19, h20, h21, h22, h23, h24, h25, h26, h27⟩
              · intro L v wx hd hn ⟨hB, hz, x0, q0, n0, s1, s2, s3, s4, h0, h1, h2, h3, h4, h5, h6, h7, h8, h9, h10, h11, h12, h13, h14, h15, h16, h17, h18, h19, h20, h21, h22, h23, h24, h25, h26, h27⟩ K hK
                have e10 := h10 (hd ⟨10, .data⟩ (by simp) rfl)
                have s0 := q0 (by
                  cases hL : L 28 with
                  | false => rfl
                  | true => exact absurd rfl (hn 28 _ rfl hL ⟨11, .phase⟩ (by simp) rfl))
                have cc := s0.cell (i := j - m + i) (by omega)
                rw [stpr_at] at cc
                go_wp2_with fail
                exact hK _ (.int .u8 (A (j - m + i) : Int)) _ (by simp only [Act.put, List.setIfInBounds_toArray, List.set_cons_zero, List.set_cons_succ, e10]) ⟨hB, hz, x0, q0, n0, s1, s2, s3, s4, h0, h1, h2, h3, h4, h5, h6, h7, h8, h9, h10, (fun _ => rfl), h12, h13, h14, h15, h16, h17, h18, h19, h20, h21, h22, h23, h24, h25, h26, h27⟩
              · intro L v wx hd hn ⟨hB, hz, x0, q0, n0, s1, s2, s3, s4, h0, h1, h2, h3, h4, h5, h6, h7, h8, h9, h10, h11, h12, h13, h14, h15, h16, h17, h18, h19, h20, h21, h22, h23, h24, h25, h26, h27⟩ K hK
                have e11 := h11 (hd ⟨11, .data⟩ (by simp) rfl)
                go_wp2_with fail
                exact hK _ (.int .i64 (A (j - m + i) : Int)) _ (by simp only [Act.put, List.setIfInBounds_toArray, List.set_cons_zero, List.set_cons_succ, e11]) ⟨hB, hz, x0, q0, n0, s1, s2, s3, s4, h0, h1, h2, h3, h4, h5, h6, h7, h8, h9, h10, h11, (fun _ => rfl), h13, h14, h15, h16, h17, h18, h19, h20, h21, h22, h23, h24, h25, h26, h27⟩
              · intro L v wx hd hn ⟨hB, hz, x0, q0, n0, s1, s2, s3, s4, h0, h1, h2, h3, h4, h5, h6, h7, h8, h9, h10, h11, h12, h13, h14, h15, h16, h17, h18, h19, h20, h21, h22, h23, h24, h25, h26, h27⟩ K hK
                go_wp2_with fail
                exact hK _ (.int .i64 (τ : Int)) _ (by simp only [Act.put, List.setIfInBounds_toArray, List.set_cons_zero, List.set_cons_succ ]) ⟨hB, hz, x0, q0, n0, s1, s2, s3, s4, h0, h1, h2, h3, h4, h5, h6, h7, h8, h9, h10, h11, h12, (fun _ => rfl), h14, h15, h16, h17, h18, h19, h20, h21, h22, h23, h24, h25, h26, h27⟩
              · intro L v wx hd hn ⟨hB, hz, x0, q0, n0, s1, s2, s3, s4, h0, h1, h2, h3, h4, h5, h6, h7, h8, h9, h10, h11, h12, h13, h14, h15, h16, h17, h18, h19, h20, h21, h22, h23, h24, h25, h26, h27⟩ K hK
                go_wp2_with fail
                exact hK _ (.int .i64 (i : Int)) _ (by simp only [Act.put, List.setIfInBounds_toArray, List.set_cons_zero, List.set_cons_succ ]) ⟨hB, hz, x0, q0, n0, s1, s2, s3, s4, h0, h1, h2, h3, h4, h5, h6, h7, h8, h9, h10, h11, h12, h13, (fun _ => rfl), h15, h16, h17, h18, h19, h20, h21, h22, h23, h24, h25, h26, h27⟩
              · intro L v wx hd hn ⟨hB, hz, x0, q0, n0, s1, s2, s3, s4, h0, h1, h2, h3, h4, h5, h6, h7, h8, h9, h10, h11, h12, h13, h14, h15, h16, h17, h18, h19, h20, h21, h22, h23, h24, h25, h26, h27⟩ K hK
                have e14 := h14 (hd ⟨14, .data⟩ (by simp) rfl)
                go_wp2_with fail
                exact hK _ (.pointer (some ⟨w.heap.size + 1, i, none⟩)) _ (by simp only [Act.put, List.setIfInBounds_toArray, List.set_cons_zero, List.set_cons_succ, e14]) ⟨hB, hz, x0, q0, n0, s1, s2, s3, s4, h0, h1, h2, h3, h4, h5, h6, h7, h8, h9, h10, h11, h12, h13, h14, (fun _ => rfl), h16, h17, h18, h19, h20, h21, h22, h23, h24, h25, h26, h27⟩
              · intro L v wx hd hn ⟨hB, hz, x0, q0, n0, s1, s2, s3, s4, h0, h1, h2, h3, h4, h5, h6, h7, h8, h9, h10, h11, h12, h13, h14, h15, h16, h17, h18, h19, h20, h21, h22, h23, h24, h25, h26, h27⟩ K hK
                have e15 := h15 (hd ⟨15, .data⟩ (by simp) rfl)
                have cc := s1.cell (i := i) (by omega)
                go_wp2_with fail
                exact hK _ (.int .u8 (b i : Int)) _ (by simp only [Act.put, List.setIfInBounds_toArray, List.set_cons_zero, List.set_cons_succ, e15]) ⟨hB, hz, x0, q0, n0, s1, s2, s3, s4, h0, h1, h2, h3, h4, h5, h6, h7, h8, h9, h10, h11, h12, h13, h14, h15, (fun _ => rfl), h17, h18, h19, h20, h21, h22, h23, h24, h25, h26, h27⟩
              · intro L v wx hd hn ⟨hB, hz, x0, q0, n0, s1, s2, s3, s4, h0, h1, h2, h3, h4, h5, h6, h7, h8, h9, h10, h11, h12, h13, h14, h15, h16, h17, h18, h19, h20, h21, h22, h23, h24, h25, h26, h27⟩ K hK
                have e16 := h16 (hd ⟨16, .data⟩ (by simp) rfl)
                go_wp2_with fail
                exact hK _ (.int .i64 (b i : Int)) _ (by simp only [Act.put, List.setIfInBounds_toArray, List.set_cons_zero, List.set_cons_succ, e16]) ⟨hB, hz, x0, q0, n0, s1, s2, s3, s4, h0, h1, h2, h3, h4, h5, h6, h7, h8, h9, h10, h11, h12, h13, h14, h15, h16, (fun _ => rfl), h18, h19, h20, h21, h22, h23, h24, h25, h26, h27⟩
              · intro L v wx hd hn ⟨hB, hz, x0, q0, n0, s1, s2, s3, s4, h0, h1, h2, h3, h4, h5, h6, h7, h8, h9, h10, h11, h12, h13, h14, h15, h16, h17, h18, h19, h20, h21, h22, h23, h24, h25, h26, h27⟩ K hK
                have e13 := h13 (hd ⟨13, .data⟩ (by simp) rfl)
                have e17 := h17 (hd ⟨17, .data⟩ (by simp) rfl)
                go_wp2_with fail
                exact hK _ (.int .i64 ((τ : Int) * (b i : Int))) _ (by simp only [Act.put, List.setIfInBounds_toArray, List.set_cons_zero, List.set_cons_succ, e13, e17]) ⟨hB, hz, x0, q0, n0, s1, s2, s3, s4, h0, h1, h2, h3, h4, h5, h6, h7, h8, h9, h10, h11, h12, h13, h14, h15, h16, h17, (fun _ => rfl), h19, h20, h21, h22, h23, h24, h25, h26, h27⟩
              · intro L v wx hd hn ⟨hB, hz, x0, q0, n0, s1, s2, s3, s4, h0, h1, h2, h3, h4, h5, h6, h7, h8, h9, h10, h11, h12, h13, h14, h15, h16, h17, h18, h19, h20, h21, h22, h23, h24, h25, h26, h27⟩ K hK
                have e12 := h12 (hd ⟨12, .data⟩ (by simp) rfl)
                have e18 := h18 (hd ⟨18, .data⟩ (by simp) rfl)
                go_wp2_with fail
                exact hK _ (.int .i64 ((A (j - m + i) : Int) - ((τ : Int) * (b i : Int)))) _ (by simp only [Act.put, List.setIfInBounds_toArray, List.set_cons_zero, List.set_cons_succ, e12, e18]) ⟨hB, hz, x0, q0, n0, s1, s2, s3, s4, h0, h1, h2, h3, h4, h5, h6, h7, h8, h9, h10, h11, h12, h13, h14, h15, h16, h17, h18, (fun _ => rfl), h20, h21, h22, h23, h24, h25, h26, h27⟩
              · intro L v wx hd hn ⟨hB, hz, x0, q0, n0, s1, s2, s3, s4, h0, h1, h2, h3, h4, h5, h6, h7, h8, h9, h10, h11, h12, h13, h14, h15, h16, h17, h18, h19, h20, h21, h22, h23, h24, h25, h26, h27⟩ K hK
                go_wp2_with fail
                exact hK _ (.int .i64 (p : Int)) _ (by simp only [Act.put, List.setIfInBounds_toArray, List.set_cons_zero, List.set_cons_succ ]) ⟨hB, hz, x0, q0, n0, s1, s2, s3, s4, h0, h1, h2, h3, h4, h5, h6, h7, h8, h9, h10, h11, h12, h13, h14, h15, h16, h17, h18, h19, (fun _ => rfl), h21, h22, h23, h24, h25, h26, h27⟩
              · intro L v wx hd hn ⟨hB, hz, x0, q0, n0, s1, s2, s3, s4, h0, h1, h2, h3, h4, h5, h6, h7, h8, h9, h10, h11, h12, h13, h14, h15, h16, h17, h18, h19, h20, h21, h22, h23, h24, h25, h26, h27⟩ K hK
                have e19 := h19 (hd ⟨19, .data⟩ (by simp) rfl)
                have e20 := h20 (hd ⟨20, .data⟩ (by simp) rfl)
                go_wp2_with fail
                exact hK _ (.int .i64 r1) _ (by simp only [Act.put, List.setIfInBounds_toArray, List.set_cons_zero, List.set_cons_succ, e19, e20]) ⟨hB, hz, x0, q0, n0, s1, s2, s3, s4, h0, h1, h2, h3, h4, h5, h6, h7, h8, h9, h10, h11, h12, h13, h14, h15, h16, h17, h18, h19, h20, (fun _ => rfl), h22, h23, h24, h25, h26, h27⟩
              · intro L v wx hd hn ⟨hB, hz, x0, q0, n0, s1, s2, s3, s4, h0, h1, h2, h3, h4, h5, h6, h7, h8, h9, h10, h11, h12, h13, h14, h15, h16, h17, h18, h19, h20, h21, h22, h23, h24, h25, h26, h27⟩ K hK
                go_wp2_with fail
                exact hK _ (.int .i64 (p : Int)) _ (by simp only [Act.put, List.setIfInBounds_toArray, List.set_cons_zero, List.set_cons_succ ]) ⟨hB, hz, x0, q0, n0, s1, s2, s3, s4, h0, h1, h2, h3, h4, h5, h6, h7, h8, h9, h10, h11, h12, h13, h14, h15, h16, h17, h18, h19, h20, h21, (fun _ => rfl), h23, h24, h25, h26, h27⟩
              · intro L v wx hd hn ⟨hB, hz, x0, q0, n0, s1, s2, s3, s4, h0, h1, h2, h3, h4, h5, h6, h7, h8, h9, h10, h11, h12, h13, h14, h15, h16, h17, h18, h19, h20, h21, h22, h23, h24, h25, h26, h27⟩ K hK
                have e21 := h21 (hd ⟨21, .data⟩ (by simp) rfl)
                have e22 := h22 (hd ⟨22, .data⟩ (by simp) rfl)
                go_wp2_with fail
                exact hK _ (.int .i64 (r1 + (p : Int))) _ (by simp only [Act.put, List.setIfInBounds_toArray, List.set_cons_zero, List.set_cons_succ, e21, e22]) ⟨hB, hz, x0, q0, n0, s1, s2, s3, s4, h0, h1, h2, h3, h4, h5, h6, h7, h8, h9, h10, h11, h12, h13, h14, h15, h16, h17, h18, h19, h20, h21, h22, (fun _ => rfl), h24, h25, h26, h27⟩
              · intro L v wx hd hn ⟨hB, hz, x0, q0, n0, s1, s2, s3, s4, h0, h1, h2, h3, h4, h5, h6, h7, h8, h9, h10, h11, h12, h13, h14, h15, h16, h17, h18, h19, h20, h21, h22, h23, h24, h25, h26, h27⟩ K hK
                go_wp2_with fail
                exact hK _ (.int .i64 (p : Int)) _ (by simp only [Act.put, List.setIfInBounds_toArray, List.set_cons_zero, List.set_cons_succ ]) ⟨hB, hz, x0, q0, n0, s1, s2, s3, s4, h0, h1, h2, h3, h4, h5, h6, h7, h8, h9, h10, h11, h12, h13, h14, h15, h16, h17, h18, h19, h20, h21, h22, h23, (fun _ => rfl), h25, h26, h27⟩
              · intro L v wx hd hn ⟨hB, hz, x0, q0, n0, s1, s2, s3, s4, h0, h1, h2, h3, h4, h5, h6, h7, h8, h9, h10, h11, h12, h13, h14, h15, h16, h17, h18, h19, h20, h21, h22, h23, h24, h25, h26, h27⟩ K hK
                have e23 := h23 (hd ⟨23, .data⟩ (by simp) rfl)
                have e24 := h24 (hd ⟨24, .data⟩ (by simp) rfl)
                go_wp2_with fail
                exact hK _ (.int .i64 (V : Int)) _ (by simp only [Act.put, List.setIfInBounds_toArray, List.set_cons_zero, List.set_cons_succ, e23, e24]) ⟨hB, hz, x0, q0, n0, s1, s2, s3, s4, h0, h1, h2, h3, h4, h5, h6, h7, h8, h9, h10, h11, h12, h13, h14, h15, h16, h17, h18, h19, h20, h21, h22, h23, h24, (fun _ => rfl), h26, h27⟩
              · intro L v wx hd hn ⟨hB, hz, x0, q0, n0, s1, s2, s3, s4, h0, h1, h2, h3, h4, h5, h6, h7, h8, h9, h10, h11, h12, h13, h14, h15, h16, h17, h18, h19, h20, h21, h22, h23, h24, h25, h26, h27⟩ K hK
                have e25 := h25 (hd ⟨25, .data⟩ (by simp) rfl)
                go_wp2_with fail
                exact hK _ (.int .u8 (V : Int)) _ (by simp only [Act.put, List.setIfInBounds_toArray, List.set_cons_zero, List.set_cons_succ, e25]) ⟨hB, hz, x0, q0, n0, s1, s2, s3, s4, h0, h1, h2, h3, h4, h5, h6, h7, h8, h9, h10, h11, h12, h13, h14, h15, h16, h17, h18, h19, h20, h21, h22, h23, h24, h25, (fun _ => rfl), h27⟩
              · intro L v wx hd hn ⟨hB, hz, x0, q0, n0, s1, s2, s3, s4, h0, h1, h2, h3, h4, h5, h6, h7, h8, h9, h10, h11, h12, h13, h14, h15, h16, h17, h18, h19, h20, h21, h22, h23, h24, h25, h26, h27⟩ K hK
                have e4 := h4 (hd ⟨4, .data⟩ (by simp) rfl)
                go_wp2_with fail
                exact hK _ (.pointer (some ⟨w.heap.size, j - m + i, none⟩)) _ (by simp only [Act.put, List.setIfInBounds_toArray, List.set_cons_zero, List.set_cons_succ, e4]) ⟨hB, hz, x0, q0, n0, s1, s2, s3, s4, h0, h1, h2, h3, h4, h5, h6, h7, h8, h9, h10, h11, h12, h13, h14, h15, h16, h17, h18, h19, h20, h21, h22, h23, h24, h25, h26, (fun _ => rfl)⟩
              · intro L v wx hd hn ⟨hB, hz, x0, q0, n0, s1, s2, s3, s4, h0, h1, h2, h3, h4, h5, h6, h7, h8, h9, h10, h11, h12, h13, h14, h15, h16, h17, h18, h19, h20, h21, h22, h23, h24, h25, h26, h27⟩ K hK
                have e27 := h27 (hd ⟨27, .data⟩ (by simp) rfl)
                have e26 := h26 (hd ⟨26, .data⟩ (by simp) rfl)
                obtain ⟨gz, hk⟩ := x0
                have zz := hk.frozen (j - m + i)
                have cc := hk.cell (i := j - m + i) (by omega)
                go_wp2_with fail
                exact hK _ undef _ (by simp only [Act.put, List.setIfInBounds_toArray, List.set_cons_zero, List.set_cons_succ, e27, e26]) ⟨hB.setCell (by simp <;> omega) _, (by simpa using hz), ⟨_, hk.set (v := V) rfl⟩, (fun h => absurd h (by simp [setL])), (fun _ => by cases hL : L 28 with | false => exact ((q0 hL).set (v := V) rfl).congr (fun k _ => by rw [HV.out]; exact stpr_next p inv m b j A i k) | true => exact ((n0 hL).set (v := V) rfl).congr (fun k _ => upd_again (fun k => by rw [HV.out]; exact stpr_next p inv m b j A i k) k)), (s1).setOther (by simp <;> omega), (s2).setOther (by simp <;> omega), (s3).setOther (by simp <;> omega), (s4).setOther (by simp <;> omega), h0, h1, h2, h3, h4, h5, h6, h7, h8, h9, h10, h11, h12, h13, h14, h15, h16, h17, h18, h19, h20, h21, h22, h23, h24, h25, h26, h27⟩
            · intro L v wx hL ⟨hB, hz, x0, q0, n0, s1, s2, s3, s4, h0, h1, h2, h3, h4, h5, h6, h7, h8, h9, h10, h11, h12, h13, h14, h15, h16, h17, h18, h19, h20, h21, h22, h23, h24, h25, h26, h27⟩
              have r0 := n0 (hL 28 (by decide))
              have e0 := h0 (hL 0 (by decide))
              have e1 := h1 (hL 1 (by decide))
              have e2 := h2 (hL 2 (by decide))
              have e3 := h3 (hL 3 (by decide))
              have e4 := h4 (hL 4 (by decide))
              have e5 := h5 (hL 5 (by decide))
              have e6 := h6 (hL 6 (by decide))
              have e7 := h7 (hL 7 (by decide))
              have e8 := h8 (hL 8 (by decide))
              have e9 := h9 (hL 9 (by decide))
              have e10 := h10 (hL 10 (by decide))
              have e11 := h11 (hL 11 (by decide))
              have e12 := h12 (hL 12 (by decide))
              have e13 := h13 (hL 13 (by decide))
              have e14 := h14 (hL 14 (by decide))
              have e15 := h15 (hL 15 (by decide))
              have e16 := h16 (hL 16 (by decide))
              have e17 := h17 (hL 17 (by decide))
              have e18 := h18 (hL 18 (by decide))
              have e19 := h19 (hL 19 (by decide))
              have e20 := h20 (hL 20 (by decide))
              have e21 := h21 (hL 21 (by decide))
              have e22 := h22 (hL 22 (by decide))
              have e23 := h23 (hL 23 (by decide))
              have e24 := h24 (hL 24 (by decide))
              have e25 := h25 (hL 25 (by decide))
              have e26 := h26 (hL 26 (by decide))
              have e27 := h27 (hL 27 (by decide))
              clear hL x0 q0 n0 h0 h1 h2 h3 h4 h5 h6 h7 h8 h9 h10 h11 h12 h13 h14 h15 h16 h17 h18 h19 h20 h21 h22 h23 h24 h25 h26 h27
              simp only [Exit.then, e0, e1, e2, e3, e4, e5, e6, e7, e8, e9, e10, e11, e12, e13, e14, e15, e16, e17, e18, e19, e20, e21, e22, e23, e24, e25, e26, e27]
              clear e0 e1 e2 e3 e4 e5 e6 e7 e8 e9 e10 e11 e12 e13 e14 e15 e16 e17 e18 e19 e20 e21 e22 e23 e24 e25 e26 e27
              go_wp2_with fail
              go_roundw
              case rel => exact ⟨i + 1, by omega, fun h => by omega, by go_num, hB, r0, s1, s2, s3, s4⟩
              case measure => simp [intOf] <;> omega
          · obtain rfl : i = m + 1 := by omega
            have b0f := b0.congr (g := dS p inv m b (cut a) (128 - j)) (fun k _ => by rw [stpr_full p inv m b A (by omega) k]; exact HN.out k)
            go_wp2_with fail
            go_roundw
            case rel => exact ⟨j, j, by go_num, by omega, Or.inl rfl, by omega, by omega, hb, b0f, b1, b2, b3, b8⟩
            case measure => simp [intOf] <;> omega
    · obtain rfl : m = s := by omega
      go_wp2_with fail
      have lt_b0 : (w.heap.size) < wr.heap.size := b0.lt
      have lt_b8 : (n8) < wr.heap.size := b8.lt
      have lt_b2 : (w.heap.size + 1 + 1) < wr.heap.size := b2.lt
      have lt_b3 : (w.heap.size + 1 + 1 + 1) < wr.heap.size := b3.lt
      have hbase : w.heap.size ≤ wr.heap.size := hb.size
      refine wp_region_steps0 Try.mixed (by kernel_rfl) (by kernel_rfl) (fun v => by (simp only [frL, Act.put, List.setIfInBounds_toArray, List.set_cons_zero, List.set_cons_succ, Nat.reduceAdd, Nat.zero_add]; exact rfl))
        (fun L v wx => Below w.heap.size w wx ∧ wr.heap.size ≤ wx.heap.size ∧ Blk wx (w.heap.size) 64 23 (dS p inv m b (cut a) (128 - m)) ∧ Blk wx (n8) 64 23 (qS p inv m b (cut a) (128 - m)) ∧ (∃ g, Blk wx (w.heap.size + 1 + 1) 64 23 (g)) ∧ (L 2 = false → Blk wx (w.heap.size + 1 + 1) 64 23 (fun _ => 0)) ∧ (L 2 = true → Blk wx (w.heap.size + 1 + 1) 64 23 (quoW p inv m b (cut a))) ∧ (∃ g, Blk wx (w.heap.size + 1 + 1 + 1) 64 23 (g)) ∧ (L 3 = false → Blk wx (w.heap.size + 1 + 1 + 1) 64 23 (fun _ => 0)) ∧ (L 3 = true → Blk wx (w.heap.size + 1 + 1 + 1) 64 23 (resW p inv m b (cut a))) ∧ (L 0 = true → v 0 = (.agg (bcells 64 (qS p inv m b (cut a) (128 - m))))) ∧ (L 1 = true → v 1 = (.agg (bcells 64 (dS p inv m b (cut a) (128 - m)))))) ?_ ?_ ?_
      · intro v hv0
        exact ⟨hb.drew, Nat.le_refl _, b0.drew, b8.drew, ⟨_, b2.drew⟩, (fun _ => b2.drew), (fun h => by cases h), ⟨_, b3.drew⟩, (fun _ => b3.drew), (fun h => by cases h), (fun h => by cases h), (fun h => by cases h)⟩
      · refine (.cons rfl ?_ (.cons rfl ?_ (.cons rfl ?_ (.cons rfl ?_ (.nil _)))))
        · intro L v wx hd hn ⟨hB, hz, s0, s1, x2, q2, n2, x3, q3, n3, h0, h1⟩ K hK
          refine wp_load_blk 23 _ rfl _ rfl 64 23 _ s1 _ Try.underlying23 Try.size23 ?_
          exact hK _ _ _ rfl ⟨hB, hz, s0, s1, x2, q2, n2, x3, q3, n3, (fun _ => rfl), h1⟩
        · intro L v wx hd hn ⟨hB, hz, s0, s1, x2, q2, n2, x3, q3, n3, h0, h1⟩ K hK
          refine wp_load_blk 23 _ rfl _ rfl 64 23 _ s0 _ Try.underlying23 Try.size23 ?_
          exact hK _ _ _ rfl ⟨hB, hz, s0, s1, x2, q2, n2, x3, q3, n3, h0, (fun _ => rfl)⟩
        · intro L v wx hd hn ⟨hB, hz, s0, s1, x2, q2, n2, x3, q3, n3, h0, h1⟩ K hK
          have e0 := h0 (hd ⟨0, .data⟩ (by simp) rfl)
          obtain ⟨gz, hk⟩ := x2
          refine wp_store_blk 23 _ _ rfl _ 64 (qS p inv m b (cut a) (128 - m)) rfl e0 23 gz hk Try.size23 ?_
          exact hK _ undef _ rfl ⟨below_row hB (by omega) _, (by simpa [World.setRow] using hz), (s0).rowOther (by omega), (s1).rowOther (by omega), ⟨_, hk.row _⟩, (fun h => absurd h (by simp [setL])), (fun _ => hk.row _), (let ⟨g, h⟩ := x3; ⟨g, (h).rowOther (by omega)⟩), (fun h => (q3 h).rowOther (by omega)), (fun h => (n3 h).rowOther (by omega)), h0, h1⟩
        · intro L v wx hd hn ⟨hB, hz, s0, s1, x2, q2, n2, x3, q3, n3, h0, h1⟩ K hK
          have e1 := h1 (hd ⟨1, .data⟩ (by simp) rfl)
          obtain ⟨gz, hk⟩ := x3
          refine wp_store_blk 23 _ _ rfl _ 64 (dS p inv m b (cut a) (128 - m)) rfl e1 23 gz hk Try.size23 ?_
          exact hK _ undef _ rfl ⟨below_row hB (by omega) _, (by simpa [World.setRow] using hz), (s0).rowOther (by omega), (s1).rowOther (by omega), (let ⟨g, h⟩ := x2; ⟨g, (h).rowOther (by omega)⟩), (fun h => (q2 h).rowOther (by omega)), (fun h => (n2 h).rowOther (by omega)), ⟨_, hk.row _⟩, (fun h => absurd h (by simp [setL])), (fun _ => hk.row _), h0, h1⟩
      · intro L v wx hL ⟨hB, hz, s0, s1, x2, q2, n2, x3, q3, n3, h0, h1⟩
        have r2 := n2 (hL 2 (by decide))
        have r3 := n3 (hL 3 (by decide))
        have e0 := h0 (hL 0 (by decide))
        have e1 := h1 (hL 1 (by decide))
        clear hL x2 q2 n2 x3 q3 n3 h0 h1
        simp only [Exit.then, e0, e1]
        clear e0 e1
        go_wp2_with fail
        show bodyPost Try.prog Try.f122 _ .ret _ _
        refine bodyPost_ret (results_bb rfl _ _ _ 64 23 5 _ _ 64 23 5 _ rfl r2 Try.underlying23 Try.size23 rfl r3 Try.underlying23 Try.size23) rfl ⟨rfl, hB⟩
end Go.Proofs.Ytbjpkmbhbpcbgaa
