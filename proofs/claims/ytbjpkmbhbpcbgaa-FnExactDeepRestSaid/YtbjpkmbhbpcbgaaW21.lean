/-
  Walks: the search for a common divisor.
-/
import Derived.Test.YtbjpkmbhbpcbgaaW20
import Derived.Test.YtbjpkmbhbpcbgaaLda
namespace Go.Proofs.Ytbjpkmbhbpcbgaa
open Go.RowKit
set_option linter.unusedVariables false
set_option linter.unusedSimpArgs false
attribute [local irreducible] deg invN dS qS stp stpr quoP resP oneP c3
theorem zero192 : bcells 192 (fun _ => 0) = Try.zeroCells150 := by simp only [bcells, bl]; kernel_rfl
theorem differenceS_any (p : Nat) (f g : Nat → Nat) (w : World) (hp1 : 2 ≤ p) (hp2 : p ≤ 7) (hf : ∀ i, i < 64 → f i < p) (hg : ∀ i, i < 64 → g i < p) :
    Calls Try.prog 124 #[.int .i64 (p : Int), .agg (bcells 64 f), .agg (bcells 64 g)] w fun e w' => e = .returned (.agg (bcells 64 (subP p f g))) ∧ Below w.heap.size w w' := difference_any p f g w hp1 hp2 hf hg
set_option maxRecDepth 100000 in
set_option maxHeartbeats 3000000 in
theorem bezout_any (p : Nat) (A B : Nat → Nat) (w : World) (hp : p = 2 ∨ p = 3 ∨ p = 5 ∨ p = 7) (hA : ∀ k, k < 64 → A k < p) (hB : ∀ k, k < 64 → B k < p) (hd : 0 ≤ deg A ∨ 0 ≤ deg B) :
    Calls Try.prog 184 #[.int .i64 (p : Int), .agg (bcells 64 A), .agg (bcells 64 B)] w fun e w' => e = .returned (.tuple #[.agg (bcells 64 (bzD p A B)), .agg (bcells 64 (bzU p A B)), .agg (bcells 64 (bzW p A B))]) ∧ Below w.heap.size w w' := by
  have p2 : 2 ≤ p := by omega
  have p7 : p ≤ 7 := by omega
  have p0 : 0 < p := by omega
  have HI0 := Lib.hid (bzI_start p2 hA hB hd)
  clear hA hB hd
  go_enter Try.func184, Try.ntmps184
  go_upto_region 1 with (fail)
  rw [← zero64]
  obtain ⟨W1, hwo⟩ : ∃ v : World, v = (((((w.alloc (.cells (bcells 64 (A)) 23)).alloc (.cells (bcells 64 (B)) 23)).alloc (.cells (bcells 64 fun _ => 0) 23)).alloc (.cells (bcells 64 fun _ => 0) 23)).alloc (.cells (bcells 64 fun _ => 0) 23)) := ⟨_, rfl⟩
  have B0 : Blk W1 (w.heap.size) 64 23 (A) := by subst hwo; have := (((((Blk.new w 64 23 (A)).alloc (.cells (bcells 64 (B)) 23)).alloc (.cells (bcells 64 fun _ => 0) 23)).alloc (.cells (bcells 64 fun _ => 0) 23)).alloc (.cells (bcells 64 fun _ => 0) 23)); simpa using this
  have B1 : Blk W1 (w.heap.size + 1) 64 23 (B) := by subst hwo; have := ((((Blk.new (w.alloc (.cells (bcells 64 (A)) 23)) 64 23 (B)).alloc (.cells (bcells 64 fun _ => 0) 23)).alloc (.cells (bcells 64 fun _ => 0) 23)).alloc (.cells (bcells 64 fun _ => 0) 23)); simpa using this
  have B2 : Blk W1 (w.heap.size + 1 + 1) 64 23 (fun _ => 0) := by subst hwo; have := (((Blk.new ((w.alloc (.cells (bcells 64 (A)) 23)).alloc (.cells (bcells 64 (B)) 23)) 64 23 (fun _ => 0)).alloc (.cells (bcells 64 fun _ => 0) 23)).alloc (.cells (bcells 64 fun _ => 0) 23)); simpa using this
  have B3 : Blk W1 (w.heap.size + 1 + 1 + 1) 64 23 (fun _ => 0) := by subst hwo; have := ((Blk.new (((w.alloc (.cells (bcells 64 (A)) 23)).alloc (.cells (bcells 64 (B)) 23)).alloc (.cells (bcells 64 fun _ => 0) 23)) 64 23 (fun _ => 0)).alloc (.cells (bcells 64 fun _ => 0) 23)); simpa using this
  have B4 : Blk W1 (w.heap.size + 1 + 1 + 1 + 1) 64 23 (fun _ => 0) := by subst hwo; have := (Blk.new ((((w.alloc (.cells (bcells 64 (A)) 23)).alloc (.cells (bcells 64 (B)) 23)).alloc (.cells (bcells 64 fun _ => 0) 23)).alloc (.cells (bcells 64 fun _ => 0) 23)) 64 23 (fun _ => 0)); simpa using this
  have hb : Below w.heap.size w W1 := by subst hwo; exact ((((((Below.refl _ _).alloc (Nat.le_refl _) _).alloc (by simp) _).alloc (by simp; omega) _).alloc (by simp; omega) _).alloc (by simp; omega) _)
  rw [← hwo]
  clear hwo
  have lt_B0 : (w.heap.size) < W1.heap.size := B0.lt
  have lt_B1 : (w.heap.size + 1) < W1.heap.size := B1.lt
  have lt_B2 : (w.heap.size + 1 + 1) < W1.heap.size := B2.lt
  have lt_B3 : (w.heap.size + 1 + 1 + 1) < W1.heap.size := B3.lt
  have lt_B4 : (w.heap.size + 1 + 1 + 1 + 1) < W1.heap.size := B4.lt
  have hbase : w.heap.size ≤ W1.heap.size := hb.size
  refine wp_region_steps0 Try.mixed (by kernel_rfl) (by kernel_rfl) (fun v => by (simp only [frL, Act.put, List.setIfInBounds_toArray, List.set_cons_zero, List.set_cons_succ, Nat.reduceAdd, Nat.zero_add]; exact rfl))
    (fun L v W2 => Below w.heap.size w W2 ∧ W1.heap.size ≤ W2.heap.size ∧ Blk W2 (w.heap.size) 64 23 (A) ∧ Blk W2 (w.heap.size + 1) 64 23 (B) ∧ Blk W2 (w.heap.size + 1 + 1) 64 23 (fun _ => 0) ∧ Blk W2 (w.heap.size + 1 + 1 + 1) 64 23 (fun _ => 0) ∧ Blk W2 (w.heap.size + 1 + 1 + 1 + 1) 64 23 (fun _ => 0) ∧ (L 0 = true → v 0 = (.agg (bcells 64 (A)))) ∧ (L 1 = true → v 1 = (.agg (bcells 64 (oneP)))) ∧ (L 2 = true → v 2 = (.agg (bcells 192 (c3 A oneP (fun _ => 0))))) ∧ (L 3 = true → v 3 = (.agg (bcells 64 (B)))) ∧ (L 4 = true → v 4 = (.agg (bcells 64 (oneP)))) ∧ (L 5 = true → v 5 = (.agg (bcells 192 (c3 B (fun _ => 0) oneP)))) ∧ (L 6 = true → AF (v 6) W2 W1.heap.size 192 150) ∧ (L 7 = true → AF (v 7) W2 W1.heap.size 192 150) ∧ (L 8 = true → PF (v 6) W2 W1.heap.size 192 150 (c3 A oneP (fun _ => 0))) ∧ (L 9 = true → PF (v 7) W2 W1.heap.size 192 150 (c3 B (fun _ => 0) oneP)) ∧ (L 6 = true → L 7 = true → v 6 ≠ v 7)) ?_ ?_ ?_
  · intro v hv0
    exact ⟨hb.drew, Nat.le_refl _, B0.drew, B1.drew, B2.drew, B3.drew, B4.drew, (fun h => by cases h), (fun h => by cases h), (fun h => by cases h), (fun h => by cases h), (fun h => by cases h), (fun h => by cases h), (fun h => by cases h), (fun h => by cases h), (fun h => by cases h), (fun h => by cases h), (fun h => by cases h)⟩
  · refine (.cons rfl ?_ (.cons rfl ?_ (.cons rfl ?_ (.cons rfl ?_ (.cons rfl ?_ (.cons rfl ?_ (.cons rfl ?_ (.cons rfl ?_ (.cons rfl ?_ (.cons rfl ?_ (.nil _)))))))))))
    · intro L v W2 hd hn ⟨hB, hz, s0, s1, s2, s3, s4, h0, h1, h2, h3, h4, h5, h6, h7, h8, h9, d6_7⟩ K hK
      refine wp_load_any 23 _ rfl _ rfl 64 23 _ s0 _ Try.underlying23 rfl Try.size23 ?_
      exact hK _ _ _ rfl ⟨hB, hz, s0, s1, s2, s3, s4, (fun _ => rfl), h1, h2, h3, h4, h5, h6, h7, h8, h9, d6_7⟩
    · intro L v W2 hd hn ⟨hB, hz, s0, s1, s2, s3, s4, h0, h1, h2, h3, h4, h5, h6, h7, h8, h9, d6_7⟩ K hK
      refine wp_build_of 23 _ rfl (bcells 64 oneP) (by rw [Array.toList_map]; show Try.prog.built 23 [(0, .int .u8 1)] = some (bcells 64 oneP); exact built_one) ?_
      exact hK _ _ _ rfl ⟨hB, hz, s0, s1, s2, s3, s4, h0, (fun _ => rfl), h2, h3, h4, h5, h6, h7, h8, h9, d6_7⟩
    · intro L v W2 hd hn ⟨hB, hz, s0, s1, s2, s3, s4, h0, h1, h2, h3, h4, h5, h6, h7, h8, h9, d6_7⟩ K hK
      have e0 := h0 (hd ⟨0, .data⟩ (by simp) rfl)
      have e1 := h1 (hd ⟨1, .data⟩ (by simp) rfl)
      refine wp_build_of 150 _ rfl (bcells 192 (c3 A oneP (fun _ => 0))) (by rw [Array.toList_map]; show Try.prog.built 150 [(0, v 0), (1, v 1)] = some (bcells 192 (c3 A oneP (fun _ => 0))); rw [e0, e1]; exact built_ru A oneP) ?_
      exact hK _ _ _ rfl ⟨hB, hz, s0, s1, s2, s3, s4, h0, h1, (fun _ => rfl), h3, h4, h5, h6, h7, h8, h9, d6_7⟩
    · intro L v W2 hd hn ⟨hB, hz, s0, s1, s2, s3, s4, h0, h1, h2, h3, h4, h5, h6, h7, h8, h9, d6_7⟩ K hK
      refine wp_load_any 23 _ rfl _ rfl 64 23 _ s1 _ Try.underlying23 rfl Try.size23 ?_
      exact hK _ _ _ rfl ⟨hB, hz, s0, s1, s2, s3, s4, h0, h1, h2, (fun _ => rfl), h4, h5, h6, h7, h8, h9, d6_7⟩
    · intro L v W2 hd hn ⟨hB, hz, s0, s1, s2, s3, s4, h0, h1, h2, h3, h4, h5, h6, h7, h8, h9, d6_7⟩ K hK
      refine wp_build_of 23 _ rfl (bcells 64 oneP) (by rw [Array.toList_map]; show Try.prog.built 23 [(0, .int .u8 1)] = some (bcells 64 oneP); exact built_one) ?_
      exact hK _ _ _ rfl ⟨hB, hz, s0, s1, s2, s3, s4, h0, h1, h2, h3, (fun _ => rfl), h5, h6, h7, h8, h9, d6_7⟩
    · intro L v W2 hd hn ⟨hB, hz, s0, s1, s2, s3, s4, h0, h1, h2, h3, h4, h5, h6, h7, h8, h9, d6_7⟩ K hK
      have e3 := h3 (hd ⟨3, .data⟩ (by simp) rfl)
      have e4 := h4 (hd ⟨4, .data⟩ (by simp) rfl)
      refine wp_build_of 150 _ rfl (bcells 192 (c3 B (fun _ => 0) oneP)) (by rw [Array.toList_map]; show Try.prog.built 150 [(0, v 3), (2, v 4)] = some (bcells 192 (c3 B (fun _ => 0) oneP)); rw [e3, e4]; exact built_rv B oneP) ?_
      exact hK _ _ _ rfl ⟨hB, hz, s0, s1, s2, s3, s4, h0, h1, h2, h3, h4, (fun _ => rfl), h6, h7, h8, h9, d6_7⟩
    · intro L v W2 hd hn ⟨hB, hz, s0, s1, s2, s3, s4, h0, h1, h2, h3, h4, h5, h6, h7, h8, h9, d6_7⟩ K hK
      go_wp2_with fail
      rw [← zero192]
      exact hK _ (.pointer (some ⟨W2.heap.size, 0, none⟩)) _ (by simp only [Act.put, List.setIfInBounds_toArray, List.set_cons_zero, List.set_cons_succ ]) ⟨hB.alloc hB.size _, (by simp; omega), (s0).alloc _, (s1).alloc _, (s2).alloc _, (s3).alloc _, (s4).alloc _, h0, h1, h2, h3, h4, h5, (fun _ => (PF.new W2 192 150 _ hz).af), (fun h => (h7 h).below (below_alloc' _ _)), (fun h => absurd rfl (hn 8 _ rfl h ⟨6, .data⟩ (by simp) rfl)), (fun h => (h9 h).below (below_alloc' _ _)), (fun h g1 => Ne.symm ((h7 g1).ne_new))⟩
    · intro L v W2 hd hn ⟨hB, hz, s0, s1, s2, s3, s4, h0, h1, h2, h3, h4, h5, h6, h7, h8, h9, d6_7⟩ K hK
      go_wp2_with fail
      rw [← zero192]
      exact hK _ (.pointer (some ⟨W2.heap.size, 0, none⟩)) _ (by simp only [Act.put, List.setIfInBounds_toArray, List.set_cons_zero, List.set_cons_succ ]) ⟨hB.alloc hB.size _, (by simp; omega), (s0).alloc _, (s1).alloc _, (s2).alloc _, (s3).alloc _, (s4).alloc _, h0, h1, h2, h3, h4, h5, (fun h => (h6 h).below (below_alloc' _ _)), (fun _ => (PF.new W2 192 150 _ hz).af), (fun h => (h8 h).below (below_alloc' _ _)), (fun h => absurd rfl (hn 9 _ rfl h ⟨7, .data⟩ (by simp) rfl)), (fun h g1 => (h6 h).ne_new)⟩
    · intro L v W2 hd hn ⟨hB, hz, s0, s1, s2, s3, s4, h0, h1, h2, h3, h4, h5, h6, h7, h8, h9, d6_7⟩ K hK
      have e2 := h2 (hd ⟨2, .data⟩ (by simp) rfl)
      obtain ⟨gz, b, ea, hN, hk⟩ := (h6 (hd ⟨6, .data⟩ (by simp) rfl)).out
      refine wp_store_blk 150 _ _ rfl b 192 (c3 A oneP (fun _ => 0)) ea e2 150 gz hk Try.size150 ?_
      exact hK _ undef _ rfl ⟨below_row hB (Nat.le_trans hbase hN) _, (by simpa [World.setRow] using hz), (s0).rowOther (by omega), (s1).rowOther (by omega), (s2).rowOther (by omega), (s3).rowOther (by omega), (s4).rowOther (by omega), h0, h1, h2, h3, h4, h5, (fun h => (h6 h).row hk), (fun h => (h7 h).row hk), (fun _ => by rw [show updV v 8 undef 6 = v 6 from rfl, ea]; exact PF.row hk hN _), (fun h => (h9 h).rowOther (by rw [← ea]; exact (Ne.symm (d6_7 (hd ⟨6, .data⟩ (by simp) rfl) (hd ⟨7, .phase⟩ (by simp) rfl))))), d6_7⟩
    · intro L v W2 hd hn ⟨hB, hz, s0, s1, s2, s3, s4, h0, h1, h2, h3, h4, h5, h6, h7, h8, h9, d6_7⟩ K hK
      have e5 := h5 (hd ⟨5, .data⟩ (by simp) rfl)
      obtain ⟨gz, b, ea, hN, hk⟩ := (h7 (hd ⟨7, .data⟩ (by simp) rfl)).out
      refine wp_store_blk 150 _ _ rfl b 192 (c3 B (fun _ => 0) oneP) ea e5 150 gz hk Try.size150 ?_
      exact hK _ undef _ rfl ⟨below_row hB (Nat.le_trans hbase hN) _, (by simpa [World.setRow] using hz), (s0).rowOther (by omega), (s1).rowOther (by omega), (s2).rowOther (by omega), (s3).rowOther (by omega), (s4).rowOther (by omega), h0, h1, h2, h3, h4, h5, (fun h => (h6 h).row hk), (fun h => (h7 h).row hk), (fun h => (h8 h).rowOther (by rw [← ea]; exact (d6_7 (hd ⟨6, .phase⟩ (by simp) rfl) (hd ⟨7, .data⟩ (by simp) rfl)))), (fun _ => by rw [show updV v 9 undef 7 = v 7 from rfl, ea]; exact PF.row hk hN _), d6_7⟩
  · intro L v W2 hL ⟨hB, hz, s0, s1, s2, s3, s4, h0, h1, h2, h3, h4, h5, h6, h7, h8, h9, d6_7⟩
    have e0 := h0 (hL 0 (by decide))
    have e1 := h1 (hL 1 (by decide))
    have e2 := h2 (hL 2 (by decide))
    have e3 := h3 (hL 3 (by decide))
    have e4 := h4 (hL 4 (by decide))
    have e5 := h5 (hL 5 (by decide))
    obtain ⟨k1_6, e6, hNk1_6, hk1_6⟩ := (h8 (hL 8 (by decide))).out
    obtain ⟨k1_7, e7, hNk1_7, hk1_7⟩ := (h9 (hL 9 (by decide))).out
    have n6_7 := d6_7 (hL 6 (by decide)) (hL 7 (by decide))
    clear hL h0 h1 h2 h3 h4 h5 h6 h7 h8 h9 d6_7
    rw [e6, e7] at n6_7
    have mk1_6_7 : k1_6 ≠ k1_7 := fun h => n6_7 (by rw [h])
    clear n6_7
    simp only [Exit.then, e0, e1, e2, e3, e4, e5, e6, e7]
    clear e0 e1 e2 e3 e4 e5 e6 e7
    clear B0
    have B0 := s0
    clear s0
    clear B1
    have B1 := s1
    clear s1
    clear B2
    have B2 := s2
    clear s2
    clear B3
    have B3 := s3
    clear s3
    clear B4
    have B4 := s4
    clear s4
    clear hb
    have hb := hB
    clear hB
    have B5 := hk1_6
    clear hk1_6
    have zk1_6_0 : w.heap.size < k1_6 := by omega
    have zk1_6_1 : w.heap.size + 1 < k1_6 := by omega
    have zk1_6_2 : w.heap.size + 1 + 1 < k1_6 := by omega
    have zk1_6_3 : w.heap.size + 1 + 1 + 1 < k1_6 := by omega
    have zk1_6_4 : w.heap.size + 1 + 1 + 1 + 1 < k1_6 := by omega
    have B6 := hk1_7
    clear hk1_7
    have zk1_7_0 : w.heap.size < k1_7 := by omega
    have zk1_7_1 : w.heap.size + 1 < k1_7 := by omega
    have zk1_7_2 : w.heap.size + 1 + 1 < k1_7 := by omega
    have zk1_7_3 : w.heap.size + 1 + 1 + 1 < k1_7 := by omega
    have zk1_7_4 : w.heap.size + 1 + 1 + 1 + 1 < k1_7 := by omega
    clear hbase hz lt_B0 lt_B1 lt_B2 lt_B3 lt_B4
    have hl9 := B5.lt
    have hl10 := B6.lt
    go_wp2_with fail
    go_loopw [25] (fun i wr => ∃ (k : Nat) (pa pb pu px pv py : Nat → Nat), bzV p A B = bzRun p k pa pb pu px pv py ∧ deg pb + 1 ≤ (k : Int) ∧ bzI p pa pb pu px pv py ∧ Below w.heap.size w wr ∧ Blk wr k1_6 192 150 (c3 pa pu pv) ∧ Blk wr k1_7 192 150 (c3 pb px py) ∧ Blk wr (w.heap.size + 1 + 1) 64 23 (fun _ => 0) ∧ Blk wr (w.heap.size + 1 + 1 + 1) 64 23 (fun _ => 0) ∧ Blk wr (w.heap.size + 1 + 1 + 1 + 1) 64 23 (fun _ => 0)) (fun _ wr => degAt wr k1_7)
    case atStart => exact ⟨65, A, B, oneP, fun _ => 0, fun _ => 0, oneP, rfl, by have := deg_bounds B; omega, HI0.out, hb, B5, B6, B2, B3, B4⟩
    case round =>
      clear hb B0 B1 B2 B3 B4 B5 B6 hl9 hl10
      obtain ⟨k, pa, pb, pu, px, pv, py, hrun, hk, hI, hb, B5, B6, B2, B3, B4⟩ := hrel
      have ⟨ia, ib, iu, ix, iv, iy, d1, d2, d3, d4, d5⟩ := hI
      have hgd := Try.noGuard23
      by_cases hz : deg pb < 0
      · have heq := fun W => run_equalIn_bytes (P := Try.prog) W 9998 23 5 64 pb (fun _ => 0) Try.underlying23 Try.underlying5 Try.size5
        rw [eqN_zero, show decide (deg pb < 0) = true by simp [hz]] at heq
        simp only [zero64] at heq
        have hV := hrun.trans (bzRun_stop hz)
        obtain ⟨m, hm⟩ : ∃ m : Nat, deg pa = (m : Int) := ⟨(deg pa).toNat, by omega⟩
        obtain ⟨hm6, ham, _⟩ := deg_top hm
        obtain ⟨c, hc⟩ : ∃ c, c = bzC p A B := ⟨_, rfl⟩
        have hci : invN p (pa m) = c := by rw [hc]; unfold bzC; rw [hV]; show invN p (pa m) = invN p (pa (deg pa).toNat); rw [hm]; rfl
        have hcp : c < p := by rw [← hci]; exact (invF hp ham (ia m hm6)).2.1
        have HR := Lib.hid (show bzD p A B = sclP p pa c ∧ bzU p A B = sclP p pu c ∧ bzW p A B = sclP p pv c by
          unfold bzD bzU bzW; rw [← hc, hV]; exact ⟨rfl, rfl, rfl⟩)
        have HM := Lib.hid hm
        have HC := Lib.hid hci
        have HIA := Lib.hid ia; have HIU := Lib.hid iu; have HIV := Lib.hid iv
        clear hV hrun hI hk ib ix iy d1 d2 d3 d4 d5 hc hci hm ia iu iv
        go_upto_region 7 with (first | (refine wpList_load_mid (op := ⟨some 23, _, _, _, _, _⟩) rfl 23 (.tmp 22) rfl _ 0 rfl (bl 64 pb) _ (B6.mid (by omega) (c3_0 _ _ _)) Try.underlying23 rfl (by rw [bl_length]; exact Try.size23) ?_))
        clear heq hgd
        go_upto_region 8 with (first | (refine wpList_load_mid (op := ⟨some 60, _, _, _, _, _⟩) rfl 23 (.tmp 59) rfl _ 0 rfl (bl 64 (pa)) _ ((B5).mid (by omega) (c3_0 _ _ _)) Try.underlying23 rfl (by rw [bl_length]; exact Try.size23) ?_) | (go_at_call 78; refine (degree_any _ _).mono ?_; rintro e W3 ⟨rfl, hW3⟩; replace B2 := B2.below hW3 B2.lt; replace B3 := B3.below hW3 B3.lt; replace B4 := B4.below hW3 B4.lt; replace B5 := B5.below hW3 B5.lt; replace B6 := B6.below hW3 B6.lt; replace hb := (hb).trans (hW3.mono (hb).size); rw [HM.out]; have c0 := B5.cell (i := m) (by omega); rw [show c3 pa pu pv m = pa m by have := c3_0 pa pu pv m hm6; rwa [Nat.zero_add] at this] at c0) | (go_at_call 193; refine (inverseNumber_any p (pa m) _ hp ham (HIA.out m hm6)).mono ?_; rintro e wS ⟨rfl, rfl⟩; rw [HC.out]))
        try clear c0
        have lt_B2 : (w.heap.size + 1 + 1) < W3.heap.size := B2.lt
        have lt_B3 : (w.heap.size + 1 + 1 + 1) < W3.heap.size := B3.lt
        have lt_B4 : (w.heap.size + 1 + 1 + 1 + 1) < W3.heap.size := B4.lt
        have lt_B5 : (k1_6) < W3.heap.size := B5.lt
        have lt_B6 : (k1_7) < W3.heap.size := B6.lt
        have hbase : w.heap.size ≤ W3.heap.size := hb.size
        refine wp_region_steps0 Try.mixed (by kernel_rfl) (by kernel_rfl) (fun v => by (simp only [frL, Act.put, List.setIfInBounds_toArray, List.set_cons_zero, List.set_cons_succ, Nat.reduceAdd, Nat.zero_add]; exact rfl))
          (fun L v W4 => Below w.heap.size w W4 ∧ W3.heap.size ≤ W4.heap.size ∧ (∃ g, Blk W4 (w.heap.size + 1 + 1) 64 23 (g)) ∧ (L 15 = false → Blk W4 (w.heap.size + 1 + 1) 64 23 (fun _ => 0)) ∧ (L 15 = true → Blk W4 (w.heap.size + 1 + 1) 64 23 (sclP p pa c)) ∧ (∃ g, Blk W4 (w.heap.size + 1 + 1 + 1) 64 23 (g)) ∧ (L 16 = false → Blk W4 (w.heap.size + 1 + 1 + 1) 64 23 (fun _ => 0)) ∧ (L 16 = true → Blk W4 (w.heap.size + 1 + 1 + 1) 64 23 (sclP p pu c)) ∧ (∃ g, Blk W4 (w.heap.size + 1 + 1 + 1 + 1) 64 23 (g)) ∧ (L 17 = false → Blk W4 (w.heap.size + 1 + 1 + 1 + 1) 64 23 (fun _ => 0)) ∧ (L 17 = true → Blk W4 (w.heap.size + 1 + 1 + 1 + 1) 64 23 (sclP p pv c)) ∧ Blk W4 (k1_6) 192 150 (c3 pa pu pv) ∧ Blk W4 (k1_7) 192 150 (c3 pb px py) ∧ (L 0 = true → v 0 = (.int .i64 (p : Int))) ∧ (L 1 = true → v 1 = (.pointer (some ⟨k1_6, 0, none⟩))) ∧ (L 2 = true → v 2 = (.agg (bcells 64 (pa)))) ∧ (L 3 = true → v 3 = (.int .u8 (c : Int))) ∧ (L 4 = true → v 4 = (.agg (bcells 64 (sclP p pa c)))) ∧ (L 5 = true → v 5 = (.int .i64 (p : Int))) ∧ (L 6 = true → v 6 = (.pointer (some ⟨k1_6, 64, none⟩))) ∧ (L 7 = true → v 7 = (.agg (bcells 64 (pu)))) ∧ (L 8 = true → v 8 = (.int .u8 (c : Int))) ∧ (L 9 = true → v 9 = (.agg (bcells 64 (sclP p pu c)))) ∧ (L 10 = true → v 10 = (.int .i64 (p : Int))) ∧ (L 11 = true → v 11 = (.pointer (some ⟨k1_6, 128, none⟩))) ∧ (L 12 = true → v 12 = (.agg (bcells 64 (pv)))) ∧ (L 13 = true → v 13 = (.int .u8 (c : Int))) ∧ (L 14 = true → v 14 = (.agg (bcells 64 (sclP p pv c))))) ?_ ?_ ?_
        · intro v hv0
          exact ⟨hb.drew, Nat.le_refl _, ⟨_, B2.drew⟩, (fun _ => B2.drew), (fun h => by cases h), ⟨_, B3.drew⟩, (fun _ => B3.drew), (fun h => by cases h), ⟨_, B4.drew⟩, (fun _ => B4.drew), (fun h => by cases h), B5.drew, B6.drew, (fun h => by cases h), (fun h => by cases h), (fun h => by cases h), (fun h => by cases h), (fun h => by cases h), (fun h => by cases h), (fun h => by cases h), (fun h => by cases h), (fun h => by cases h), (fun h => by cases h), (fun h => by cases h), (fun h => by cases h), (fun h => by cases h), (fun h => by cases h), (fun h => by cases h)⟩
        · refine (.cons rfl ?_ (.cons rfl ?_ (.cons rfl ?_ (.cons rfl ?_ (.cons rfl ?_ (.cons rfl ?_ (.cons rfl ?_ (.cons rfl ?_ (.cons rfl ?_ (.cons rfl ?_ (.cons rfl ?_ (.cons rfl ?_ (.cons rfl ?_ (.cons rfl ?_ (.cons rfl ?_ (.cons rfl ?_ (.cons rfl ?_ (.cons rfl ?_ (.nil _)))))))))))))))))))
          · intro L v W4 hd hn ⟨hB, hz, x0, q0, n0, x1, q1, n1, x2, q2, n2, s3, s4, h0, h1, h2, h3, h4, h5, h6, h7, h8, h9, h10, h11, h12, h13, h14⟩ K hK
            go_wp2_with fail
            exact hK _ (.int .i64 (p : Int)) _ (by simp only [Act.put, List.setIfInBounds_toArray, List.set_cons_zero, List.set_cons_succ ]) ⟨hB, hz, x0, q0, n0, x1, q1, n1, x2, q2, n2, s3, s4, (fun _ => rfl), h1, h2, h3, h4, h5, h6, h7, h8, h9, h10, h11, h12, h13, h14⟩
          · intro L v W4 hd hn ⟨hB, hz, x0, q0, n0, x1, q1, n1, x2, q2, n2, s3, s4, h0, h1, h2, h3, h4, h5, h6, h7, h8, h9, h10, h11, h12, h13, h14⟩ K hK
            go_wp2_with fail
            exact hK _ (.pointer (some ⟨k1_6, 0, none⟩)) _ (by simp only [Act.put, List.setIfInBounds_toArray, List.set_cons_zero, List.set_cons_succ ]) ⟨hB, hz, x0, q0, n0, x1, q1, n1, x2, q2, n2, s3, s4, h0, (fun _ => rfl), h2, h3, h4, h5, h6, h7, h8, h9, h10, h11, h12, h13, h14⟩
          · intro L v W4 hd hn ⟨hB, hz, x0, q0, n0, x1, q1, n1, x2, q2, n2, s3, s4, h0, h1, h2, h3, h4, h5, h6, h7, h8, h9, h10, h11, h12, h13, h14⟩ K hK
            have e1 := h1 (hd ⟨1, .data⟩ (by simp) rfl)
            refine wp_load_mid 23 _ rfl _ (0) e1 _ _ (s3.mid (by omega) (c3_0 _ _ _)) Try.underlying23 rfl (by rw [bl_length]; exact Try.size23) ?_
            exact hK _ _ _ rfl ⟨hB, hz, x0, q0, n0, x1, q1, n1, x2, q2, n2, s3, s4, h0, h1, (fun _ => rfl), h3, h4, h5, h6, h7, h8, h9, h10, h11, h12, h13, h14⟩
          · intro L v W4 hd hn ⟨hB, hz, x0, q0, n0, x1, q1, n1, x2, q2, n2, s3, s4, h0, h1, h2, h3, h4, h5, h6, h7, h8, h9, h10, h11, h12, h13, h14⟩ K hK
            go_wp2_with fail
            exact hK _ (.int .u8 (c : Int)) _ (by simp only [Act.put, List.setIfInBounds_toArray, List.set_cons_zero, List.set_cons_succ ]) ⟨hB, hz, x0, q0, n0, x1, q1, n1, x2, q2, n2, s3, s4, h0, h1, h2, (fun _ => rfl), h4, h5, h6, h7, h8, h9, h10, h11, h12, h13, h14⟩
          · intro L v W4 hd hn ⟨hB, hz, x0, q0, n0, x1, q1, n1, x2, q2, n2, s3, s4, h0, h1, h2, h3, h4, h5, h6, h7, h8, h9, h10, h11, h12, h13, h14⟩ K hK
            have e0 := h0 (hd ⟨0, .data⟩ (by simp) rfl)
            have e2 := h2 (hd ⟨2, .data⟩ (by simp) rfl)
            have e3 := h3 (hd ⟨3, .data⟩ (by simp) rfl)
            go_wp2_with (go_at_call 170; refine (scaled_any p pa c _ p2 p7 HIA.out hcp).mono ?_; rintro e wy ⟨rfl, hy⟩)
            exact hK _ (.agg (bcells 64 (sclP p pa c))) _ (by simp only [Act.put, List.setIfInBounds_toArray, List.set_cons_zero, List.set_cons_succ, e0, e2, e3]) ⟨hB.trans (hy.mono hB.size), (Nat.le_trans hz hy.size), (let ⟨g, h⟩ := x0; ⟨g, (h).below hy (h).lt⟩), (fun h => (q0 h).below hy (q0 h).lt), (fun h => (n0 h).below hy (n0 h).lt), (let ⟨g, h⟩ := x1; ⟨g, (h).below hy (h).lt⟩), (fun h => (q1 h).below hy (q1 h).lt), (fun h => (n1 h).below hy (n1 h).lt), (let ⟨g, h⟩ := x2; ⟨g, (h).below hy (h).lt⟩), (fun h => (q2 h).below hy (q2 h).lt), (fun h => (n2 h).below hy (n2 h).lt), (s3).below hy (s3).lt, (s4).below hy (s4).lt, h0, h1, h2, h3, (fun _ => rfl), h5, h6, h7, h8, h9, h10, h11, h12, h13, h14⟩
          · intro L v W4 hd hn ⟨hB, hz, x0, q0, n0, x1, q1, n1, x2, q2, n2, s3, s4, h0, h1, h2, h3, h4, h5, h6, h7, h8, h9, h10, h11, h12, h13, h14⟩ K hK
            go_wp2_with fail
            exact hK _ (.int .i64 (p : Int)) _ (by simp only [Act.put, List.setIfInBounds_toArray, List.set_cons_zero, List.set_cons_succ ]) ⟨hB, hz, x0, q0, n0, x1, q1, n1, x2, q2, n2, s3, s4, h0, h1, h2, h3, h4, (fun _ => rfl), h6, h7, h8, h9, h10, h11, h12, h13, h14⟩
          · intro L v W4 hd hn ⟨hB, hz, x0, q0, n0, x1, q1, n1, x2, q2, n2, s3, s4, h0, h1, h2, h3, h4, h5, h6, h7, h8, h9, h10, h11, h12, h13, h14⟩ K hK
            go_wp2_with fail
            exact hK _ (.pointer (some ⟨k1_6, 64, none⟩)) _ (by simp only [Act.put, List.setIfInBounds_toArray, List.set_cons_zero, List.set_cons_succ ]) ⟨hB, hz, x0, q0, n0, x1, q1, n1, x2, q2, n2, s3, s4, h0, h1, h2, h3, h4, h5, (fun _ => rfl), h7, h8, h9, h10, h11, h12, h13, h14⟩
          · intro L v W4 hd hn ⟨hB, hz, x0, q0, n0, x1, q1, n1, x2, q2, n2, s3, s4, h0, h1, h2, h3, h4, h5, h6, h7, h8, h9, h10, h11, h12, h13, h14⟩ K hK
            have e6 := h6 (hd ⟨6, .data⟩ (by simp) rfl)
            refine wp_load_mid 23 _ rfl _ (64) e6 _ _ (s3.mid (by omega) (c3_1 _ _ _)) Try.underlying23 rfl (by rw [bl_length]; exact Try.size23) ?_
            exact hK _ _ _ rfl ⟨hB, hz, x0, q0, n0, x1, q1, n1, x2, q2, n2, s3, s4, h0, h1, h2, h3, h4, h5, h6, (fun _ => rfl), h8, h9, h10, h11, h12, h13, h14⟩
          · intro L v W4 hd hn ⟨hB, hz, x0, q0, n0, x1, q1, n1, x2, q2, n2, s3, s4, h0, h1, h2, h3, h4, h5, h6, h7, h8, h9, h10, h11, h12, h13, h14⟩ K hK
            go_wp2_with fail
            exact hK _ (.int .u8 (c : Int)) _ (by simp only [Act.put, List.setIfInBounds_toArray, List.set_cons_zero, List.set_cons_succ ]) ⟨hB, hz, x0, q0, n0, x1, q1, n1, x2, q2, n2, s3, s4, h0, h1, h2, h3, h4, h5, h6, h7, (fun _ => rfl), h9, h10, h11, h12, h13, h14⟩
          · intro L v W4 hd hn ⟨hB, hz, x0, q0, n0, x1, q1, n1, x2, q2, n2, s3, s4, h0, h1, h2, h3, h4, h5, h6, h7, h8, h9, h10, h11, h12, h13, h14⟩ K hK
            have e5 := h5 (hd ⟨5, .data⟩ (by simp) rfl)
            have e7 := h7 (hd ⟨7, .data⟩ (by simp) rfl)
            have e8 := h8 (hd ⟨8, .data⟩ (by simp) rfl)
            go_wp2_with (go_at_call 170; refine (scaled_any p pu c _ p2 p7 HIU.out hcp).mono ?_; rintro e wy ⟨rfl, hy⟩)
            exact hK _ (.agg (bcells 64 (sclP p pu c))) _ (by simp only [Act.put, List.setIfInBounds_toArray, List.set_cons_zero, List.set_cons_succ, e5, e7, e8]) ⟨hB.trans (hy.mono hB.size), (Nat.le_trans hz hy.size), (let ⟨g, h⟩ := x0; ⟨g, (h).below hy (h).lt⟩), (fun h => (q0 h).below hy (q0 h).lt), (fun h => (n0 h).below hy (n0 h).lt), (let ⟨g, h⟩ := x1; ⟨g, (h).below hy (h).lt⟩), (fun h => (q1 h).below hy (q1 h).lt), (fun h => (n1 h).below hy (n1 h).lt), (let ⟨g, h⟩ := x2; ⟨g, (h).below hy (h).lt⟩), (fun h => (q2 h).below hy (q2 h).lt), (fun h => (n2 h).below hy (n2 h).lt), (s3).below hy (s3).lt, (s4).below hy (s4).lt, h0, h1, h2, h3, h4, h5, h6, h7, h8, (fun _ => rfl), h10, h11, h12, h13, h14⟩
          · intro L v W4 hd hn ⟨hB, hz, x0, q0, n0, x1, q1, n1, x2, q2, n2, s3, s4, h0, h1, h2, h3, h4, h5, h6, h7, h8, h9, h10, h11, h12, h13, h14⟩ K hK
            go_wp2_with fail
            exact hK _ (.int .i64 (p : Int)) _ (by simp only [Act.put, List.setIfInBounds_toArray, List.set_cons_zero, List.set_cons_succ ]) ⟨hB, hz, x0, q0, n0, x1, q1, n1, x2, q2, n2, s3, s4, h0, h1, h2, h3, h4, h5, h6, h7, h8, h9, (fun _ => rfl), h11, h12, h13, h14⟩
          · intro L v W4 hd hn ⟨hB, hz, x0, q0, n0, x1, q1, n1, x2, q2, n2, s3, s4, h0, h1, h2, h3, h4, h5, h6, h7, h8, h9, h10, h11, h12, h13, h14⟩ K hK
            go_wp2_with fail
            exact hK _ (.pointer (some ⟨k1_6, 128, none⟩)) _ (by simp only [Act.put, List.setIfInBounds_toArray, List.set_cons_zero, List.set_cons_succ ]) ⟨hB, hz, x0, q0, n0, x1, q1, n1, x2, q2, n2, s3, s4, h0, h1, h2, h3, h4, h5, h6, h7, h8, h9, h10, (fun _ => rfl), h12, h13, h14⟩
          · intro L v W4 hd hn ⟨hB, hz, x0, q0, n0, x1, q1, n1, x2, q2, n2, s3, s4, h0, h1, h2, h3, h4, h5, h6, h7, h8, h9, h10, h11, h12, h13, h14⟩ K hK
            have e11 := h11 (hd ⟨11, .data⟩ (by simp) rfl)
            refine wp_load_mid 23 _ rfl _ (128) e11 _ _ (s3.mid (by omega) (c3_2 _ _ _)) Try.underlying23 rfl (by rw [bl_length]; exact Try.size23) ?_
            exact hK _ _ _ rfl ⟨hB, hz, x0, q0, n0, x1, q1, n1, x2, q2, n2, s3, s4, h0, h1, h2, h3, h4, h5, h6, h7, h8, h9, h10, h11, (fun _ => rfl), h13, h14⟩
          · intro L v W4 hd hn ⟨hB, hz, x0, q0, n0, x1, q1, n1, x2, q2, n2, s3, s4, h0, h1, h2, h3, h4, h5, h6, h7, h8, h9, h10, h11, h12, h13, h14⟩ K hK
            go_wp2_with fail
            exact hK _ (.int .u8 (c : Int)) _ (by simp only [Act.put, List.setIfInBounds_toArray, List.set_cons_zero, List.set_cons_succ ]) ⟨hB, hz, x0, q0, n0, x1, q1, n1, x2, q2, n2, s3, s4, h0, h1, h2, h3, h4, h5, h6, h7, h8, h9, h10, h11, h12, (fun _ => rfl), h14⟩
          · intro L v W4 hd hn ⟨hB, hz, x0, q0, n0, x1, q1, n1, x2, q2, n2, s3, s4, h0, h1, h2, h3, h4, h5, h6, h7, h8, h9, h10, h11, h12, h13, h14⟩ K hK
            have e10 := h10 (hd ⟨10, .data⟩ (by simp) rfl)
            have e12 := h12 (hd ⟨12, .data⟩ (by simp) rfl)
            have e13 := h13 (hd ⟨13, .data⟩ (by simp) rfl)
            go_wp2_with (go_at_call 170; refine (scaled_any p pv c _ p2 p7 HIV.out hcp).mono ?_; rintro e wy ⟨rfl, hy⟩)
            exact hK _ (.agg (bcells 64 (sclP p pv c))) _ (by simp only [Act.put, List.setIfInBounds_toArray, List.set_cons_zero, List.set_cons_succ, e10, e12, e13]) ⟨hB.trans (hy.mono hB.size), (Nat.le_trans hz hy.size), (let ⟨g, h⟩ := x0; ⟨g, (h).below hy (h).lt⟩), (fun h => (q0 h).below hy (q0 h).lt), (fun h => (n0 h).below hy (n0 h).lt), (let ⟨g, h⟩ := x1; ⟨g, (h).below hy (h).lt⟩), (fun h => (q1 h).below hy (q1 h).lt), (fun h => (n1 h).below hy (n1 h).lt), (let ⟨g, h⟩ := x2; ⟨g, (h).below hy (h).lt⟩), (fun h => (q2 h).below hy (q2 h).lt), (fun h => (n2 h).below hy (n2 h).lt), (s3).below hy (s3).lt, (s4).below hy (s4).lt, h0, h1, h2, h3, h4, h5, h6, h7, h8, h9, h10, h11, h12, h13, (fun _ => rfl)⟩
          · intro L v W4 hd hn ⟨hB, hz, x0, q0, n0, x1, q1, n1, x2, q2, n2, s3, s4, h0, h1, h2, h3, h4, h5, h6, h7, h8, h9, h10, h11, h12, h13, h14⟩ K hK
            have e4 := h4 (hd ⟨4, .data⟩ (by simp) rfl)
            obtain ⟨gz, hk⟩ := x0
            refine wp_store_blk 23 _ _ rfl _ 64 (sclP p pa c) rfl e4 23 gz hk Try.size23 ?_
            exact hK _ undef _ rfl ⟨below_row hB (by omega) _, (by simpa [World.setRow] using hz), ⟨_, hk.row _⟩, (fun h => absurd h (by simp [setL])), (fun _ => hk.row _), (let ⟨g, h⟩ := x1; ⟨g, (h).rowOther (by omega)⟩), (fun h => (q1 h).rowOther (by omega)), (fun h => (n1 h).rowOther (by omega)), (let ⟨g, h⟩ := x2; ⟨g, (h).rowOther (by omega)⟩), (fun h => (q2 h).rowOther (by omega)), (fun h => (n2 h).rowOther (by omega)), (s3).rowOther (by omega), (s4).rowOther (by omega), h0, h1, h2, h3, h4, h5, h6, h7, h8, h9, h10, h11, h12, h13, h14⟩
          · intro L v W4 hd hn ⟨hB, hz, x0, q0, n0, x1, q1, n1, x2, q2, n2, s3, s4, h0, h1, h2, h3, h4, h5, h6, h7, h8, h9, h10, h11, h12, h13, h14⟩ K hK
            have e9 := h9 (hd ⟨9, .data⟩ (by simp) rfl)
            obtain ⟨gz, hk⟩ := x1
            refine wp_store_blk 23 _ _ rfl _ 64 (sclP p pu c) rfl e9 23 gz hk Try.size23 ?_
            exact hK _ undef _ rfl ⟨below_row hB (by omega) _, (by simpa [World.setRow] using hz), (let ⟨g, h⟩ := x0; ⟨g, (h).rowOther (by omega)⟩), (fun h => (q0 h).rowOther (by omega)), (fun h => (n0 h).rowOther (by omega)), ⟨_, hk.row _⟩, (fun h => absurd h (by simp [setL])), (fun _ => hk.row _), (let ⟨g, h⟩ := x2; ⟨g, (h).rowOther (by omega)⟩), (fun h => (q2 h).rowOther (by omega)), (fun h => (n2 h).rowOther (by omega)), (s3).rowOther (by omega), (s4).rowOther (by omega), h0, h1, h2, h3, h4, h5, h6, h7, h8, h9, h10, h11, h12, h13, h14⟩
          · intro L v W4 hd hn ⟨hB, hz, x0, q0, n0, x1, q1, n1, x2, q2, n2, s3, s4, h0, h1, h2, h3, h4, h5, h6, h7, h8, h9, h10, h11, h12, h13, h14⟩ K hK
            have e14 := h14 (hd ⟨14, .data⟩ (by simp) rfl)
            obtain ⟨gz, hk⟩ := x2
            refine wp_store_blk 23 _ _ rfl _ 64 (sclP p pv c) rfl e14 23 gz hk Try.size23 ?_
            exact hK _ undef _ rfl ⟨below_row hB (by omega) _, (by simpa [World.setRow] using hz), (let ⟨g, h⟩ := x0; ⟨g, (h).rowOther (by omega)⟩), (fun h => (q0 h).rowOther (by omega)), (fun h => (n0 h).rowOther (by omega)), (let ⟨g, h⟩ := x1; ⟨g, (h).rowOther (by omega)⟩), (fun h => (q1 h).rowOther (by omega)), (fun h => (n1 h).rowOther (by omega)), ⟨_, hk.row _⟩, (fun h => absurd h (by simp [setL])), (fun _ => hk.row _), (s3).rowOther (by omega), (s4).rowOther (by omega), h0, h1, h2, h3, h4, h5, h6, h7, h8, h9, h10, h11, h12, h13, h14⟩
        · intro L v W4 hL ⟨hB, hz, x0, q0, n0, x1, q1, n1, x2, q2, n2, s3, s4, h0, h1, h2, h3, h4, h5, h6, h7, h8, h9, h10, h11, h12, h13, h14⟩
          have r0 := n0 (hL 15 (by decide))
          have r1 := n1 (hL 16 (by decide))
          have r2 := n2 (hL 17 (by decide))
          have e0 := h0 (hL 0 (by decide))
          have e1 := h1 (hL 1 (by decide))
          have e2 := h2 (hL 2 (by decide))
          have e3 := h3 (hL 3 (by decide))
          have e4 := h4 (hL 4 (by decide))
          have e5 := h5 (hL 5 (by decide))
          have e6 := h6 (hL 6 (by decide))
          have e7 := h7 (hL 7 (by decide))
          have e8 := h8 (hL 8 (by decide))
          have e9 := h9 (hL 9 (by decide))
          have e10 := h10 (hL 10 (by decide))
          have e11 := h11 (hL 11 (by decide))
          have e12 := h12 (hL 12 (by decide))
          have e13 := h13 (hL 13 (by decide))
          have e14 := h14 (hL 14 (by decide))
          clear hL x0 q0 n0 x1 q1 n1 x2 q2 n2 h0 h1 h2 h3 h4 h5 h6 h7 h8 h9 h10 h11 h12 h13 h14
          simp only [Exit.then, e0, e1, e2, e3, e4, e5, e6, e7, e8, e9, e10, e11, e12, e13, e14]
          clear e0 e1 e2 e3 e4 e5 e6 e7 e8 e9 e10 e11 e12 e13 e14
          clear B2
          have B2 := r0
          clear r0
          clear B3
          have B3 := r1
          clear r1
          clear B4
          have B4 := r2
          clear r2
          clear B5
          have B5 := s3
          clear s3
          clear B6
          have B6 := s4
          clear s4
          clear hb
          have hb := hB
          clear hB
          clear hbase hz lt_B2 lt_B3 lt_B4 lt_B5 lt_B6
          go_wp2_with fail
          refine bodyPost_ret (results_bbb rfl _ _ _ 64 23 5 _ _ 64 23 5 _ _ 64 23 5 _ rfl B2 Try.underlying23 Try.size23 rfl B3 Try.underlying23 Try.size23 rfl B4 Try.underlying23 Try.size23) rfl ⟨by rw [HR.out.1, HR.out.2.1, HR.out.2.2], hb⟩
      · obtain ⟨k, rfl⟩ : ∃ j, k = j + 1 := ⟨k - 1, by omega⟩
        have heq := fun W => run_equalIn_bytes (P := Try.prog) W 9998 23 5 64 pb (fun _ => 0) Try.underlying23 Try.underlying5 Try.size5
        rw [eqN_zero, show decide (deg pb < 0) = false by simp [hz]] at heq
        simp only [zero64] at heq
        obtain ⟨hI', hdr, hdx, hdy⟩ := bzI_next hp hI hz
        have HI' := Lib.hid hI'
        have HRN := Lib.hid (hrun.trans (bzRun_go hz))
        have HDR := Lib.hid hdr
        have HL := Lib.hid (fun W => quotientAndRest_any p pa pb W hp ia ib (by omega))
        have B6o := B6
        have HIX := Lib.hid ix; have HIY := Lib.hid iy; have HIU := Lib.hid iu; have HIV := Lib.hid iv
        clear hrun hI hI' hdr hdx hdy ia ib ix iy iu iv d1 d2 d3 d4 d5
        go_upto_region 3 with (first | (refine wpList_load_mid (op := ⟨some 23, _, _, _, _, _⟩) rfl 23 (.tmp 22) rfl _ 0 rfl (bl 64 pb) _ (B6.mid (by omega) (c3_0 _ _ _)) Try.underlying23 rfl (by rw [bl_length]; exact Try.size23) ?_))
        clear heq hgd
        have lt_B2 := B2.lt
        have lt_B3 := B3.lt
        have lt_B4 := B4.lt
        have lt_B5 := B5.lt
        have lt_B6 := B6.lt
        go_upto_region 4 with (first | rw [← zero64] | (refine wpList_load_mid (op := ⟨some 29, _, _, _, _, _⟩) rfl 23 (.tmp 28) rfl _ 0 rfl (bl 64 (pa)) _ ((B5).mid (by omega) (c3_0 _ _ _)) Try.underlying23 rfl (by rw [bl_length]; exact Try.size23) ?_) | (refine wpList_load_mid (op := ⟨some 31, _, _, _, _, _⟩) rfl 23 (.tmp 30) rfl _ 0 rfl (bl 64 (pb)) _ ((B6).mid (by omega) (c3_0 _ _ _)) Try.underlying23 rfl (by rw [bl_length]; exact Try.size23) ?_) | (go_at_call 125; refine (HL.out _).mono ?_; rintro e W3 ⟨rfl, hW3⟩; replace B2 := B2.below hW3 B2.lt; replace B3 := B3.below hW3 B3.lt; replace B4 := B4.below hW3 B4.lt; replace B5 := B5.below hW3 B5.lt; replace B6 := B6.below hW3 B6.lt; replace hb := (hb).trans (hW3.mono (hb).size)) | (refine wpList_store_blk (o := ⟨none, .store 23 (.tmp 11) (.tmp 33), _, _, _, _⟩) rfl 23 (.tmp 11) (.tmp 33) rfl _ 64 (quoP p pa pb) rfl rfl 23 _ (((Blk.new W3 64 23 (fun _ => 0)).alloc (.cells (bcells 64 fun _ => 0) 23))) Try.size23 ?_) | (refine wpList_store_blk (o := ⟨none, .store 23 (.tmp 12) (.tmp 34), _, _, _, _⟩) rfl 23 (.tmp 12) (.tmp 34) rfl _ 64 (resP p pa pb) rfl rfl 23 _ (((show Blk ((W3.alloc (.cells (bcells 64 fun _ => 0) 23)).alloc (.cells (bcells 64 fun _ => 0) 23)) (W3.heap.size + 1) 64 23 (fun _ => 0) by have := Blk.new (W3.alloc (.cells (bcells 64 fun _ => 0) 23)) 64 23 (fun _ => 0); simpa using this).rowOther (by omega))) Try.size23 ?_))
        have lt_B2 := B2.lt
        have lt_B3 := B3.lt
        have lt_B4 := B4.lt
        have lt_B5 := B5.lt
        have lt_B6 := B6.lt
        have lhb := hb.size
        have qB2 : Blk ((((W3.alloc (.cells (bcells 64 fun _ => 0) 23)).alloc (.cells (bcells 64 fun _ => 0) 23)).setRow (W3.heap.size) (bcells 64 (quoP p pa pb))).setRow (W3.heap.size + 1) (bcells 64 (resP p pa pb))) (w.heap.size + 1 + 1) 64 23 (fun _ => 0) := ((((B2.alloc (.cells (bcells 64 fun _ => 0) 23)).alloc (.cells (bcells 64 fun _ => 0) 23)).rowOther (by omega)).rowOther (by omega))
        have qB3 : Blk ((((W3.alloc (.cells (bcells 64 fun _ => 0) 23)).alloc (.cells (bcells 64 fun _ => 0) 23)).setRow (W3.heap.size) (bcells 64 (quoP p pa pb))).setRow (W3.heap.size + 1) (bcells 64 (resP p pa pb))) (w.heap.size + 1 + 1 + 1) 64 23 (fun _ => 0) := ((((B3.alloc (.cells (bcells 64 fun _ => 0) 23)).alloc (.cells (bcells 64 fun _ => 0) 23)).rowOther (by omega)).rowOther (by omega))
        have qB4 : Blk ((((W3.alloc (.cells (bcells 64 fun _ => 0) 23)).alloc (.cells (bcells 64 fun _ => 0) 23)).setRow (W3.heap.size) (bcells 64 (quoP p pa pb))).setRow (W3.heap.size + 1) (bcells 64 (resP p pa pb))) (w.heap.size + 1 + 1 + 1 + 1) 64 23 (fun _ => 0) := ((((B4.alloc (.cells (bcells 64 fun _ => 0) 23)).alloc (.cells (bcells 64 fun _ => 0) 23)).rowOther (by omega)).rowOther (by omega))
        have qB5 : Blk ((((W3.alloc (.cells (bcells 64 fun _ => 0) 23)).alloc (.cells (bcells 64 fun _ => 0) 23)).setRow (W3.heap.size) (bcells 64 (quoP p pa pb))).setRow (W3.heap.size + 1) (bcells 64 (resP p pa pb))) (k1_6) 192 150 (c3 pa pu pv) := ((((B5.alloc (.cells (bcells 64 fun _ => 0) 23)).alloc (.cells (bcells 64 fun _ => 0) 23)).rowOther (by omega)).rowOther (by omega))
        have qB6 : Blk ((((W3.alloc (.cells (bcells 64 fun _ => 0) 23)).alloc (.cells (bcells 64 fun _ => 0) 23)).setRow (W3.heap.size) (bcells 64 (quoP p pa pb))).setRow (W3.heap.size + 1) (bcells 64 (resP p pa pb))) (k1_7) 192 150 (c3 pb px py) := ((((B6.alloc (.cells (bcells 64 fun _ => 0) 23)).alloc (.cells (bcells 64 fun _ => 0) 23)).rowOther (by omega)).rowOther (by omega))
        have qB7 : Blk ((((W3.alloc (.cells (bcells 64 fun _ => 0) 23)).alloc (.cells (bcells 64 fun _ => 0) 23)).setRow (W3.heap.size) (bcells 64 (quoP p pa pb))).setRow (W3.heap.size + 1) (bcells 64 (resP p pa pb))) (W3.heap.size) 64 23 (quoP p pa pb) := ((((Blk.new W3 64 23 (fun _ => 0)).alloc (.cells (bcells 64 fun _ => 0) 23)).row (quoP p pa pb)).rowOther (by omega))
        have qB8 : Blk ((((W3.alloc (.cells (bcells 64 fun _ => 0) 23)).alloc (.cells (bcells 64 fun _ => 0) 23)).setRow (W3.heap.size) (bcells 64 (quoP p pa pb))).setRow (W3.heap.size + 1) (bcells 64 (resP p pa pb))) (W3.heap.size + 1) 64 23 (resP p pa pb) := (((show Blk ((W3.alloc (.cells (bcells 64 fun _ => 0) 23)).alloc (.cells (bcells 64 fun _ => 0) 23)) (W3.heap.size + 1) 64 23 (fun _ => 0) by have := Blk.new (W3.alloc (.cells (bcells 64 fun _ => 0) 23)) 64 23 (fun _ => 0); simpa using this).rowOther (by omega)).row (resP p pa pb))
        have qhb : Below w.heap.size w ((((W3.alloc (.cells (bcells 64 fun _ => 0) 23)).alloc (.cells (bcells 64 fun _ => 0) 23)).setRow (W3.heap.size) (bcells 64 (quoP p pa pb))).setRow (W3.heap.size + 1) (bcells 64 (resP p pa pb))) := (below_row (below_row ((hb.alloc (by have := hb.size; simp; omega) (.cells (bcells 64 fun _ => 0) 23)).alloc (by have := hb.size; simp; omega) (.cells (bcells 64 fun _ => 0) 23)) (by omega) _) (by omega) _)
        obtain ⟨W4, hwo⟩ : ∃ v : World, v = ((((W3.alloc (.cells (bcells 64 fun _ => 0) 23)).alloc (.cells (bcells 64 fun _ => 0) 23)).setRow (W3.heap.size) (bcells 64 (quoP p pa pb))).setRow (W3.heap.size + 1) (bcells 64 (resP p pa pb))) := ⟨_, rfl⟩
        rw [← hwo] at qB2 qB3 qB4 qB5 qB6 qB7 qB8 qhb ⊢
        clear hwo
        clear B2 B3 B4 B5 B6 hb
        have B2 := qB2
        have B3 := qB3
        have B4 := qB4
        have B5 := qB5
        have B6 := qB6
        have B7 := qB7
        have B8 := qB8
        have hb := qhb
        clear qB2 qB3 qB4 qB5 qB6 qB7 qB8 qhb
        obtain ⟨N1, hNN⟩ : ∃ n : Nat, n = W3.heap.size := ⟨_, rfl⟩
        rw [← hNN] at lt_B2 lt_B3 lt_B4 lt_B5 lt_B6 lhb B7 B8 ⊢
        clear hNN
        have zN1_2 := lt_B2
        have zN1_3 := lt_B3
        have zN1_4 := lt_B4
        have zN1_5 := lt_B5
        have zN1_6 := lt_B6
        have zN1 := lhb
        clear lt_B2 lt_B3 lt_B4 lt_B5 lt_B6 lhb
        try simp only [Act.put, List.setIfInBounds_toArray, List.set_cons_zero, List.set_cons_succ]
        clear HL
        have lt_B2 : (w.heap.size + 1 + 1) < W4.heap.size := B2.lt
        have lt_B3 : (w.heap.size + 1 + 1 + 1) < W4.heap.size := B3.lt
        have lt_B4 : (w.heap.size + 1 + 1 + 1 + 1) < W4.heap.size := B4.lt
        have lt_B5 : (k1_6) < W4.heap.size := B5.lt
        have lt_B6 : (k1_7) < W4.heap.size := B6.lt
        have lt_B7 : (N1) < W4.heap.size := B7.lt
        have lt_B8 : (N1 + 1) < W4.heap.size := B8.lt
        have hbase : w.heap.size ≤ W4.heap.size := hb.size
        refine wp_region_steps0 Try.mixed (by kernel_rfl) (by kernel_rfl) (fun v => by (simp only [frL, Act.put, List.setIfInBounds_toArray, List.set_cons_zero, List.set_cons_succ, Nat.reduceAdd, Nat.zero_add]; exact rfl))
          (fun L v W5 => Below w.heap.size w W5 ∧ W4.heap.size ≤ W5.heap.size ∧ Blk W5 (w.heap.size + 1 + 1) 64 23 (fun _ => 0) ∧ Blk W5 (w.heap.size + 1 + 1 + 1) 64 23 (fun _ => 0) ∧ Blk W5 (w.heap.size + 1 + 1 + 1 + 1) 64 23 (fun _ => 0) ∧ Blk W5 (k1_6) 192 150 (c3 pa pu pv) ∧ Blk W5 (k1_7) 192 150 (c3 pb px py) ∧ Blk W5 (N1) 64 23 (quoP p pa pb) ∧ Blk W5 (N1 + 1) 64 23 (resP p pa pb) ∧ (L 0 = true → v 0 = (.int .i64 (p : Int))) ∧ (L 1 = true → v 1 = (.pointer (some ⟨k1_6, 64, none⟩))) ∧ (L 2 = true → v 2 = (.agg (bcells 64 (pu)))) ∧ (L 3 = true → v 3 = (.int .i64 (p : Int))) ∧ (L 4 = true → v 4 = (.agg (bcells 64 (quoP p pa pb)))) ∧ (L 5 = true → v 5 = (.pointer (some ⟨k1_7, 64, none⟩))) ∧ (L 6 = true → v 6 = (.agg (bcells 64 (px)))) ∧ (L 7 = true → v 7 = (.agg (bcells 64 (prd p (quoP p pa pb) px)))) ∧ (L 8 = true → v 8 = (.agg (bcells 64 (subP p pu (prd p (quoP p pa pb) px))))) ∧ (L 9 = true → AF (v 9) W5 W4.heap.size 64 23) ∧ (L 10 = true → PF (v 9) W5 W4.heap.size 64 23 (subP p pu (prd p (quoP p pa pb) px)))) ?_ ?_ ?_
        · intro v hv0
          exact ⟨hb.drew, Nat.le_refl _, B2.drew, B3.drew, B4.drew, B5.drew, B6.drew, B7.drew, B8.drew, (fun h => by cases h), (fun h => by cases h), (fun h => by cases h), (fun h => by cases h), (fun h => by cases h), (fun h => by cases h), (fun h => by cases h), (fun h => by cases h), (fun h => by cases h), (fun h => by cases h), (fun h => by cases h)⟩
        · refine (.cons rfl ?_ (.cons rfl ?_ (.cons rfl ?_ (.cons rfl ?_ (.cons rfl ?_ (.cons rfl ?_ (.cons rfl ?_ (.cons rfl ?_ (.cons rfl ?_ (.cons rfl ?_ (.cons rfl ?_ (.nil _))))))))))))
          · intro L v W5 hd hn ⟨hB, hz, s0, s1, s2, s3, s4, s5, s6, h0, h1, h2, h3, h4, h5, h6, h7, h8, h9, h10⟩ K hK
            go_wp2_with fail
            exact hK _ (.int .i64 (p : Int)) _ (by simp only [Act.put, List.setIfInBounds_toArray, List.set_cons_zero, List.set_cons_succ ]) ⟨hB, hz, s0, s1, s2, s3, s4, s5, s6, (fun _ => rfl), h1, h2, h3, h4, h5, h6, h7, h8, h9, h10⟩
          · intro L v W5 hd hn ⟨hB, hz, s0, s1, s2, s3, s4, s5, s6, h0, h1, h2, h3, h4, h5, h6, h7, h8, h9, h10⟩ K hK
            go_wp2_with fail
            exact hK _ (.pointer (some ⟨k1_6, 64, none⟩)) _ (by simp only [Act.put, List.setIfInBounds_toArray, List.set_cons_zero, List.set_cons_succ ]) ⟨hB, hz, s0, s1, s2, s3, s4, s5, s6, h0, (fun _ => rfl), h2, h3, h4, h5, h6, h7, h8, h9, h10⟩
          · intro L v W5 hd hn ⟨hB, hz, s0, s1, s2, s3, s4, s5, s6, h0, h1, h2, h3, h4, h5, h6, h7, h8, h9, h10⟩ K hK
            have e1 := h1 (hd ⟨1, .data⟩ (by simp) rfl)
            refine wp_load_mid 23 _ rfl _ (64) e1 _ _ (s3.mid (by omega) (c3_1 _ _ _)) Try.underlying23 rfl (by rw [bl_length]; exact Try.size23) ?_
            exact hK _ _ _ rfl ⟨hB, hz, s0, s1, s2, s3, s4, s5, s6, h0, h1, (fun _ => rfl), h3, h4, h5, h6, h7, h8, h9, h10⟩
          · intro L v W5 hd hn ⟨hB, hz, s0, s1, s2, s3, s4, s5, s6, h0, h1, h2, h3, h4, h5, h6, h7, h8, h9, h10⟩ K hK
            go_wp2_with fail
            exact hK _ (.int .i64 (p : Int)) _ (by simp only [Act.put, List.setIfInBounds_toArray, List.set_cons_zero, List.set_cons_succ ]) ⟨hB, hz, s0, s1, s2, s3, s4, s5, s6, h0, h1, h2, (fun _ => rfl), h4, h5, h6, h7, h8, h9, h10⟩
          · intro L v W5 hd hn ⟨hB, hz, s0, s1, s2, s3, s4, s5, s6, h0, h1, h2, h3, h4, h5, h6, h7, h8, h9, h10⟩ K hK
            refine wp_load_any 23 _ rfl _ rfl 64 23 _ s5 _ Try.underlying23 rfl Try.size23 ?_
            exact hK _ _ _ rfl ⟨hB, hz, s0, s1, s2, s3, s4, s5, s6, h0, h1, h2, h3, (fun _ => rfl), h5, h6, h7, h8, h9, h10⟩
          · intro L v W5 hd hn ⟨hB, hz, s0, s1, s2, s3, s4, s5, s6, h0, h1, h2, h3, h4, h5, h6, h7, h8, h9, h10⟩ K hK
            go_wp2_with fail
            exact hK _ (.pointer (some ⟨k1_7, 64, none⟩)) _ (by simp only [Act.put, List.setIfInBounds_toArray, List.set_cons_zero, List.set_cons_succ ]) ⟨hB, hz, s0, s1, s2, s3, s4, s5, s6, h0, h1, h2, h3, h4, (fun _ => rfl), h6, h7, h8, h9, h10⟩
          · intro L v W5 hd hn ⟨hB, hz, s0, s1, s2, s3, s4, s5, s6, h0, h1, h2, h3, h4, h5, h6, h7, h8, h9, h10⟩ K hK
            have e5 := h5 (hd ⟨5, .data⟩ (by simp) rfl)
            refine wp_load_mid 23 _ rfl _ (64) e5 _ _ (s4.mid (by omega) (c3_1 _ _ _)) Try.underlying23 rfl (by rw [bl_length]; exact Try.size23) ?_
            exact hK _ _ _ rfl ⟨hB, hz, s0, s1, s2, s3, s4, s5, s6, h0, h1, h2, h3, h4, h5, (fun _ => rfl), h7, h8, h9, h10⟩
          · intro L v W5 hd hn ⟨hB, hz, s0, s1, s2, s3, s4, s5, s6, h0, h1, h2, h3, h4, h5, h6, h7, h8, h9, h10⟩ K hK
            have e3 := h3 (hd ⟨3, .data⟩ (by simp) rfl)
            have e4 := h4 (hd ⟨4, .data⟩ (by simp) rfl)
            have e6 := h6 (hd ⟨6, .data⟩ (by simp) rfl)
            go_wp2_with (go_at_call 80; refine (product_any p (quoP p pa pb) px _ p2 p7 (fun i _ => quoP_lt p0 i) HIX.out).mono ?_; rintro e wy ⟨rfl, hy⟩)
            exact hK _ (.agg (bcells 64 (prd p (quoP p pa pb) px))) _ (by simp only [Act.put, List.setIfInBounds_toArray, List.set_cons_zero, List.set_cons_succ, e3, e4, e6]) ⟨hB.trans (hy.mono hB.size), (Nat.le_trans hz hy.size), (s0).below hy (s0).lt, (s1).below hy (s1).lt, (s2).below hy (s2).lt, (s3).below hy (s3).lt, (s4).below hy (s4).lt, (s5).below hy (s5).lt, (s6).below hy (s6).lt, h0, h1, h2, h3, h4, h5, h6, (fun _ => rfl), h8, (fun h => (h9 h).below hy), (fun h => (h10 h).below hy)⟩
          · intro L v W5 hd hn ⟨hB, hz, s0, s1, s2, s3, s4, s5, s6, h0, h1, h2, h3, h4, h5, h6, h7, h8, h9, h10⟩ K hK
            have e0 := h0 (hd ⟨0, .data⟩ (by simp) rfl)
            have e2 := h2 (hd ⟨2, .data⟩ (by simp) rfl)
            have e7 := h7 (hd ⟨7, .data⟩ (by simp) rfl)
            go_wp2_with (go_at_call 124; refine (differenceS_any p pu (prd p (quoP p pa pb) px) _ p2 p7 HIU.out (fun i _ => prd_lt p0 i)).mono ?_; rintro e wy ⟨rfl, hy⟩)
            exact hK _ (.agg (bcells 64 (subP p pu (prd p (quoP p pa pb) px)))) _ (by simp only [Act.put, List.setIfInBounds_toArray, List.set_cons_zero, List.set_cons_succ, e0, e2, e7]) ⟨hB.trans (hy.mono hB.size), (Nat.le_trans hz hy.size), (s0).below hy (s0).lt, (s1).below hy (s1).lt, (s2).below hy (s2).lt, (s3).below hy (s3).lt, (s4).below hy (s4).lt, (s5).below hy (s5).lt, (s6).below hy (s6).lt, h0, h1, h2, h3, h4, h5, h6, h7, (fun _ => rfl), (fun h => (h9 h).below hy), (fun h => (h10 h).below hy)⟩
          · intro L v W5 hd hn ⟨hB, hz, s0, s1, s2, s3, s4, s5, s6, h0, h1, h2, h3, h4, h5, h6, h7, h8, h9, h10⟩ K hK
            go_wp2_with fail
            rw [← zero64]
            exact hK _ (.pointer (some ⟨W5.heap.size, 0, none⟩)) _ (by simp only [Act.put, List.setIfInBounds_toArray, List.set_cons_zero, List.set_cons_succ ]) ⟨hB.alloc hB.size _, (by simp; omega), (s0).alloc _, (s1).alloc _, (s2).alloc _, (s3).alloc _, (s4).alloc _, (s5).alloc _, (s6).alloc _, h0, h1, h2, h3, h4, h5, h6, h7, h8, (fun _ => (PF.new W5 64 23 _ hz).af), (fun h => absurd rfl (hn 10 _ rfl h ⟨9, .data⟩ (by simp) rfl))⟩
          · intro L v W5 hd hn ⟨hB, hz, s0, s1, s2, s3, s4, s5, s6, h0, h1, h2, h3, h4, h5, h6, h7, h8, h9, h10⟩ K hK
            have e8 := h8 (hd ⟨8, .data⟩ (by simp) rfl)
            obtain ⟨gz, b, ea, hN, hk⟩ := (h9 (hd ⟨9, .data⟩ (by simp) rfl)).out
            refine wp_store_blk 23 _ _ rfl b 64 (subP p pu (prd p (quoP p pa pb) px)) ea e8 23 gz hk Try.size23 ?_
            exact hK _ undef _ rfl ⟨below_row hB (Nat.le_trans hbase hN) _, (by simpa [World.setRow] using hz), (s0).rowOther (by omega), (s1).rowOther (by omega), (s2).rowOther (by omega), (s3).rowOther (by omega), (s4).rowOther (by omega), (s5).rowOther (by omega), (s6).rowOther (by omega), h0, h1, h2, h3, h4, h5, h6, h7, h8, (fun h => (h9 h).row hk), (fun _ => by rw [show updV v 10 undef 9 = v 9 from rfl, ea]; exact PF.row hk hN _)⟩
        · intro L v W5 hL ⟨hB, hz, s0, s1, s2, s3, s4, s5, s6, h0, h1, h2, h3, h4, h5, h6, h7, h8, h9, h10⟩
          have e0 := h0 (hL 0 (by decide))
          have e1 := h1 (hL 1 (by decide))
          have e2 := h2 (hL 2 (by decide))
          have e3 := h3 (hL 3 (by decide))
          have e4 := h4 (hL 4 (by decide))
          have e5 := h5 (hL 5 (by decide))
          have e6 := h6 (hL 6 (by decide))
          have e7 := h7 (hL 7 (by decide))
          have e8 := h8 (hL 8 (by decide))
          obtain ⟨k4_9, e9, hNk4_9, hk4_9⟩ := (h10 (hL 10 (by decide))).out
          clear hL h0 h1 h2 h3 h4 h5 h6 h7 h8 h9 h10
          simp only [Exit.then, e0, e1, e2, e3, e4, e5, e6, e7, e8, e9]
          clear e0 e1 e2 e3 e4 e5 e6 e7 e8 e9
          clear B2
          have B2 := s0
          clear s0
          clear B3
          have B3 := s1
          clear s1
          clear B4
          have B4 := s2
          clear s2
          clear B5
          have B5 := s3
          clear s3
          clear B6
          have B6 := s4
          clear s4
          clear B7
          have B7 := s5
          clear s5
          clear B8
          have B8 := s6
          clear s6
          clear hb
          have hb := hB
          clear hB
          have B9 := hk4_9
          clear hk4_9
          have zk4_9_2 : w.heap.size + 1 + 1 < k4_9 := by omega
          have zk4_9_3 : w.heap.size + 1 + 1 + 1 < k4_9 := by omega
          have zk4_9_4 : w.heap.size + 1 + 1 + 1 + 1 < k4_9 := by omega
          have zk4_9_5 : k1_6 < k4_9 := by omega
          have zk4_9_6 : k1_7 < k4_9 := by omega
          have zk4_9_7 : N1 < k4_9 := by omega
          have zk4_9_8 : N1 + 1 < k4_9 := by omega
          clear hbase hz lt_B2 lt_B3 lt_B4 lt_B5 lt_B6 lt_B7 lt_B8
          go_upto_region 5 with (fail)
          have lt_B2 : (w.heap.size + 1 + 1) < W5.heap.size := B2.lt
          have lt_B3 : (w.heap.size + 1 + 1 + 1) < W5.heap.size := B3.lt
          have lt_B4 : (w.heap.size + 1 + 1 + 1 + 1) < W5.heap.size := B4.lt
          have lt_B5 : (k1_6) < W5.heap.size := B5.lt
          have lt_B6 : (k1_7) < W5.heap.size := B6.lt
          have lt_B7 : (N1) < W5.heap.size := B7.lt
          have lt_B8 : (N1 + 1) < W5.heap.size := B8.lt
          have lt_B9 : (k4_9) < W5.heap.size := B9.lt
          have hbase : w.heap.size ≤ W5.heap.size := hb.size
          refine wp_region_steps0 Try.mixed (by kernel_rfl) (by kernel_rfl) (fun v => by (simp only [frL, Act.put, List.setIfInBounds_toArray, List.set_cons_zero, List.set_cons_succ, Nat.reduceAdd, Nat.zero_add]; exact rfl))
            (fun L v W6 => Below w.heap.size w W6 ∧ W5.heap.size ≤ W6.heap.size ∧ Blk W6 (w.heap.size + 1 + 1) 64 23 (fun _ => 0) ∧ Blk W6 (w.heap.size + 1 + 1 + 1) 64 23 (fun _ => 0) ∧ Blk W6 (w.heap.size + 1 + 1 + 1 + 1) 64 23 (fun _ => 0) ∧ Blk W6 (k1_6) 192 150 (c3 pa pu pv) ∧ Blk W6 (k1_7) 192 150 (c3 pb px py) ∧ Blk W6 (N1) 64 23 (quoP p pa pb) ∧ Blk W6 (N1 + 1) 64 23 (resP p pa pb) ∧ Blk W6 (k4_9) 64 23 (subP p pu (prd p (quoP p pa pb) px)) ∧ (L 0 = true → v 0 = (.int .i64 (p : Int))) ∧ (L 1 = true → v 1 = (.pointer (some ⟨k1_6, 128, none⟩))) ∧ (L 2 = true → v 2 = (.agg (bcells 64 (pv)))) ∧ (L 3 = true → v 3 = (.int .i64 (p : Int))) ∧ (L 4 = true → v 4 = (.agg (bcells 64 (quoP p pa pb)))) ∧ (L 5 = true → v 5 = (.pointer (some ⟨k1_7, 128, none⟩))) ∧ (L 6 = true → v 6 = (.agg (bcells 64 (py)))) ∧ (L 7 = true → v 7 = (.agg (bcells 64 (prd p (quoP p pa pb) py)))) ∧ (L 8 = true → v 8 = (.agg (bcells 64 (subP p pv (prd p (quoP p pa pb) py))))) ∧ (L 9 = true → AF (v 9) W6 W5.heap.size 64 23) ∧ (L 10 = true → PF (v 9) W6 W5.heap.size 64 23 (subP p pv (prd p (quoP p pa pb) py)))) ?_ ?_ ?_
          · intro v hv0
            exact ⟨hb.drew, Nat.le_refl _, B2.drew, B3.drew, B4.drew, B5.drew, B6.drew, B7.drew, B8.drew, B9.drew, (fun h => by cases h), (fun h => by cases h), (fun h => by cases h), (fun h => by cases h), (fun h => by cases h), (fun h => by cases h), (fun h => by cases h), (fun h => by cases h), (fun h => by cases h), (fun h => by cases h), (fun h => by cases h)⟩
          · refine (.cons rfl ?_ (.cons rfl ?_ (.cons rfl ?_ (.cons rfl ?_ (.cons rfl ?_ (.cons rfl ?_ (.cons rfl ?_ (.cons rfl ?_ (.cons rfl ?_ (.cons rfl ?_ (.cons rfl ?_ (.nil _))))))))))))
            · intro L v W6 hd hn ⟨hB, hz, s0, s1, s2, s3, s4, s5, s6, s7, h0, h1, h2, h3, h4, h5, h6, h7, h8, h9, h10⟩ K hK
              go_wp2_with fail
              exact hK _ (.int .i64 (p : Int)) _ (by simp only [Act.put, List.setIfInBounds_toArray, List.set_cons_zero, List.set_cons_succ ]) ⟨hB, hz, s0, s1, s2, s3, s4, s5, s6, s7, (fun _ => rfl), h1, h2, h3, h4, h5, h6, h7, h8, h9, h10⟩
            · intro L v W6 hd hn ⟨hB, hz, s0, s1, s2, s3, s4, s5, s6, s7, h0, h1, h2, h3, h4, h5, h6, h7, h8, h9, h10⟩ K hK
              go_wp2_with fail
              exact hK _ (.pointer (some ⟨k1_6, 128, none⟩)) _ (by simp only [Act.put, List.setIfInBounds_toArray, List.set_cons_zero, List.set_cons_succ ]) ⟨hB, hz, s0, s1, s2, s3, s4, s5, s6, s7, h0, (fun _ => rfl), h2, h3, h4, h5, h6, h7, h8, h9, h10⟩
            · intro L v W6 hd hn ⟨hB, hz, s0, s1, s2, s3, s4, s5, s6, s7, h0, h1, h2, h3, h4, h5, h6, h7, h8, h9, h10⟩ K hK
              have e1 := h1 (hd ⟨1, .data⟩ (by simp) rfl)
              refine wp_load_mid 23 _ rfl _ (128) e1 _ _ (s3.mid (by omega) (c3_2 _ _ _)) Try.underlying23 rfl (by rw [bl_length]; exact Try.size23) ?_
              exact hK _ _ _ rfl ⟨hB, hz, s0, s1, s2, s3, s4, s5, s6, s7, h0, h1, (fun _ => rfl), h3, h4, h5, h6, h7, h8, h9, h10⟩
            · intro L v W6 hd hn ⟨hB, hz, s0, s1, s2, s3, s4, s5, s6, s7, h0, h1, h2, h3, h4, h5, h6, h7, h8, h9, h10⟩ K hK
              go_wp2_with fail
              exact hK _ (.int .i64 (p : Int)) _ (by simp only [Act.put, List.setIfInBounds_toArray, List.set_cons_zero, List.set_cons_succ ]) ⟨hB, hz, s0, s1, s2, s3, s4, s5, s6, s7, h0, h1, h2, (fun _ => rfl), h4, h5, h6, h7, h8, h9, h10⟩
            · intro L v W6 hd hn ⟨hB, hz, s0, s1, s2, s3, s4, s5, s6, s7, h0, h1, h2, h3, h4, h5, h6, h7, h8, h9, h10⟩ K hK
              refine wp_load_any 23 _ rfl _ rfl 64 23 _ s5 _ Try.underlying23 rfl Try.size23 ?_
              exact hK _ _ _ rfl ⟨hB, hz, s0, s1, s2, s3, s4, s5, s6, s7, h0, h1, h2, h3, (fun _ => rfl), h5, h6, h7, h8, h9, h10⟩
            · intro L v W6 hd hn ⟨hB, hz, s0, s1, s2, s3, s4, s5, s6, s7, h0, h1, h2, h3, h4, h5, h6, h7, h8, h9, h10⟩ K hK
              go_wp2_with fail
              exact hK _ (.pointer (some ⟨k1_7, 128, none⟩)) _ (by simp only [Act.put, List.setIfInBounds_toArray, List.set_cons_zero, List.set_cons_succ ]) ⟨hB, hz, s0, s1, s2, s3, s4, s5, s6, s7, h0, h1, h2, h3, h4, (fun _ => rfl), h6, h7, h8, h9, h10⟩
            · intro L v W6 hd hn ⟨hB, hz, s0, s1, s2, s3, s4, s5, s6, s7, h0, h1, h2, h3, h4, h5, h6, h7, h8, h9, h10⟩ K hK
              have e5 := h5 (hd ⟨5, .data⟩ (by simp) rfl)
              refine wp_load_mid 23 _ rfl _ (128) e5 _ _ (s4.mid (by omega) (c3_2 _ _ _)) Try.underlying23 rfl (by rw [bl_length]; exact Try.size23) ?_
              exact hK _ _ _ rfl ⟨hB, hz, s0, s1, s2, s3, s4, s5, s6, s7, h0, h1, h2, h3, h4, h5, (fun _ => rfl), h7, h8, h9, h10⟩
            · intro L v W6 hd hn ⟨hB, hz, s0, s1, s2, s3, s4, s5, s6, s7, h0, h1, h2, h3, h4, h5, h6, h7, h8, h9, h10⟩ K hK
              have e3 := h3 (hd ⟨3, .data⟩ (by simp) rfl)
              have e4 := h4 (hd ⟨4, .data⟩ (by simp) rfl)
              have e6 := h6 (hd ⟨6, .data⟩ (by simp) rfl)
              go_wp2_with (go_at_call 80; refine (product_any p (quoP p pa pb) py _ p2 p7 (fun i _ => quoP_lt p0 i) HIY.out).mono ?_; rintro e wy ⟨rfl, hy⟩)
              exact hK _ (.agg (bcells 64 (prd p (quoP p pa pb) py))) _ (by simp only [Act.put, List.setIfInBounds_toArray, List.set_cons_zero, List.set_cons_succ, e3, e4, e6]) ⟨hB.trans (hy.mono hB.size), (Nat.le_trans hz hy.size), (s0).below hy (s0).lt, (s1).below hy (s1).lt, (s2).below hy (s2).lt, (s3).below hy (s3).lt, (s4).below hy (s4).lt, (s5).below hy (s5).lt, (s6).below hy (s6).lt, (s7).below hy (s7).lt, h0, h1, h2, h3, h4, h5, h6, (fun _ => rfl), h8, (fun h => (h9 h).below hy), (fun h => (h10 h).below hy)⟩
            · intro L v W6 hd hn ⟨hB, hz, s0, s1, s2, s3, s4, s5, s6, s7, h0, h1, h2, h3, h4, h5, h6, h7, h8, h9, h10⟩ K hK
              have e0 := h0 (hd ⟨0, .data⟩ (by simp) rfl)
              have e2 := h2 (hd ⟨2, .data⟩ (by simp) rfl)
              have e7 := h7 (hd ⟨7, .data⟩ (by simp) rfl)
              go_wp2_with (go_at_call 124; refine (differenceS_any p pv (prd p (quoP p pa pb) py) _ p2 p7 HIV.out (fun i _ => prd_lt p0 i)).mono ?_; rintro e wy ⟨rfl, hy⟩)
              exact hK _ (.agg (bcells 64 (subP p pv (prd p (quoP p pa pb) py)))) _ (by simp only [Act.put, List.setIfInBounds_toArray, List.set_cons_zero, List.set_cons_succ, e0, e2, e7]) ⟨hB.trans (hy.mono hB.size), (Nat.le_trans hz hy.size), (s0).below hy (s0).lt, (s1).below hy (s1).lt, (s2).below hy (s2).lt, (s3).below hy (s3).lt, (s4).below hy (s4).lt, (s5).below hy (s5).lt, (s6).below hy (s6).lt, (s7).below hy (s7).lt, h0, h1, h2, h3, h4, h5, h6, h7, (fun _ => rfl), (fun h => (h9 h).below hy), (fun h => (h10 h).below hy)⟩
            · intro L v W6 hd hn ⟨hB, hz, s0, s1, s2, s3, s4, s5, s6, s7, h0, h1, h2, h3, h4, h5, h6, h7, h8, h9, h10⟩ K hK
              go_wp2_with fail
              rw [← zero64]
              exact hK _ (.pointer (some ⟨W6.heap.size, 0, none⟩)) _ (by simp only [Act.put, List.setIfInBounds_toArray, List.set_cons_zero, List.set_cons_succ ]) ⟨hB.alloc hB.size _, (by simp; omega), (s0).alloc _, (s1).alloc _, (s2).alloc _, (s3).alloc _, (s4).alloc _, (s5).alloc _, (s6).alloc _, (s7).alloc _, h0, h1, h2, h3, h4, h5, h6, h7, h8, (fun _ => (PF.new W6 64 23 _ hz).af), (fun h => absurd rfl (hn 10 _ rfl h ⟨9, .data⟩ (by simp) rfl))⟩
            · intro L v W6 hd hn ⟨hB, hz, s0, s1, s2, s3, s4, s5, s6, s7, h0, h1, h2, h3, h4, h5, h6, h7, h8, h9, h10⟩ K hK
              have e8 := h8 (hd ⟨8, .data⟩ (by simp) rfl)
              obtain ⟨gz, b, ea, hN, hk⟩ := (h9 (hd ⟨9, .data⟩ (by simp) rfl)).out
              refine wp_store_blk 23 _ _ rfl b 64 (subP p pv (prd p (quoP p pa pb) py)) ea e8 23 gz hk Try.size23 ?_
              exact hK _ undef _ rfl ⟨below_row hB (Nat.le_trans hbase hN) _, (by simpa [World.setRow] using hz), (s0).rowOther (by omega), (s1).rowOther (by omega), (s2).rowOther (by omega), (s3).rowOther (by omega), (s4).rowOther (by omega), (s5).rowOther (by omega), (s6).rowOther (by omega), (s7).rowOther (by omega), h0, h1, h2, h3, h4, h5, h6, h7, h8, (fun h => (h9 h).row hk), (fun _ => by rw [show updV v 10 undef 9 = v 9 from rfl, ea]; exact PF.row hk hN _)⟩
          · intro L v W6 hL ⟨hB, hz, s0, s1, s2, s3, s4, s5, s6, s7, h0, h1, h2, h3, h4, h5, h6, h7, h8, h9, h10⟩
            have e0 := h0 (hL 0 (by decide))
            have e1 := h1 (hL 1 (by decide))
            have e2 := h2 (hL 2 (by decide))
            have e3 := h3 (hL 3 (by decide))
            have e4 := h4 (hL 4 (by decide))
            have e5 := h5 (hL 5 (by decide))
            have e6 := h6 (hL 6 (by decide))
            have e7 := h7 (hL 7 (by decide))
            have e8 := h8 (hL 8 (by decide))
            obtain ⟨k5_9, e9, hNk5_9, hk5_9⟩ := (h10 (hL 10 (by decide))).out
            clear hL h0 h1 h2 h3 h4 h5 h6 h7 h8 h9 h10
            simp only [Exit.then, e0, e1, e2, e3, e4, e5, e6, e7, e8, e9]
            clear e0 e1 e2 e3 e4 e5 e6 e7 e8 e9
            clear B2
            have B2 := s0
            clear s0
            clear B3
            have B3 := s1
            clear s1
            clear B4
            have B4 := s2
            clear s2
            clear B5
            have B5 := s3
            clear s3
            clear B6
            have B6 := s4
            clear s4
            clear B7
            have B7 := s5
            clear s5
            clear B8
            have B8 := s6
            clear s6
            clear B9
            have B9 := s7
            clear s7
            clear hb
            have hb := hB
            clear hB
            have B10 := hk5_9
            clear hk5_9
            have zk5_9_2 : w.heap.size + 1 + 1 < k5_9 := by omega
            have zk5_9_3 : w.heap.size + 1 + 1 + 1 < k5_9 := by omega
            have zk5_9_4 : w.heap.size + 1 + 1 + 1 + 1 < k5_9 := by omega
            have zk5_9_5 : k1_6 < k5_9 := by omega
            have zk5_9_6 : k1_7 < k5_9 := by omega
            have zk5_9_7 : N1 < k5_9 := by omega
            have zk5_9_8 : N1 + 1 < k5_9 := by omega
            have zk5_9_9 : k4_9 < k5_9 := by omega
            clear hbase hz lt_B2 lt_B3 lt_B4 lt_B5 lt_B6 lt_B7 lt_B8 lt_B9
            go_upto_region 6 with (fail)
            have lt_B2 : (w.heap.size + 1 + 1) < W6.heap.size := B2.lt
            have lt_B3 : (w.heap.size + 1 + 1 + 1) < W6.heap.size := B3.lt
            have lt_B4 : (w.heap.size + 1 + 1 + 1 + 1) < W6.heap.size := B4.lt
            have lt_B5 : (k1_6) < W6.heap.size := B5.lt
            have lt_B6 : (k1_7) < W6.heap.size := B6.lt
            have lt_B7 : (N1) < W6.heap.size := B7.lt
            have lt_B8 : (N1 + 1) < W6.heap.size := B8.lt
            have lt_B9 : (k4_9) < W6.heap.size := B9.lt
            have lt_B10 : (k5_9) < W6.heap.size := B10.lt
            have hbase : w.heap.size ≤ W6.heap.size := hb.size
            refine wp_region_steps0 Try.mixed (by kernel_rfl) (by kernel_rfl) (fun v => by (simp only [frL, Act.put, List.setIfInBounds_toArray, List.set_cons_zero, List.set_cons_succ, Nat.reduceAdd, Nat.zero_add]; exact rfl))
              (fun L v W7 => Below w.heap.size w W7 ∧ W6.heap.size ≤ W7.heap.size ∧ Blk W7 (w.heap.size + 1 + 1) 64 23 (fun _ => 0) ∧ Blk W7 (w.heap.size + 1 + 1 + 1) 64 23 (fun _ => 0) ∧ Blk W7 (w.heap.size + 1 + 1 + 1 + 1) 64 23 (fun _ => 0) ∧ (∃ g, Blk W7 (k1_6) 192 150 (g)) ∧ (L 5 = false → Blk W7 (k1_6) 192 150 (c3 pa pu pv)) ∧ (L 5 = true → Blk W7 (k1_6) 192 150 (c3 pb px py)) ∧ (∃ g, Blk W7 (k1_7) 192 150 (g)) ∧ (L 6 = false → Blk W7 (k1_7) 192 150 (c3 pb px py)) ∧ (L 6 = true → Blk W7 (k1_7) 192 150 (c3 (resP p pa pb) (subP p pu (prd p (quoP p pa pb) px)) (subP p pv (prd p (quoP p pa pb) py)))) ∧ Blk W7 (N1) 64 23 (quoP p pa pb) ∧ Blk W7 (N1 + 1) 64 23 (resP p pa pb) ∧ Blk W7 (k4_9) 64 23 (subP p pu (prd p (quoP p pa pb) px)) ∧ Blk W7 (k5_9) 64 23 (subP p pv (prd p (quoP p pa pb) py)) ∧ (L 0 = true → v 0 = (.agg (bcells 192 (c3 pb px py)))) ∧ (L 1 = true → v 1 = (.agg (bcells 64 (resP p pa pb)))) ∧ (L 2 = true → v 2 = (.agg (bcells 64 (subP p pu (prd p (quoP p pa pb) px))))) ∧ (L 3 = true → v 3 = (.agg (bcells 64 (subP p pv (prd p (quoP p pa pb) py))))) ∧ (L 4 = true → v 4 = (.agg (bcells 192 (c3 (resP p pa pb) (subP p pu (prd p (quoP p pa pb) px)) (subP p pv (prd p (quoP p pa pb) py))))))) ?_ ?_ ?_
            · intro v hv0
              exact ⟨hb.drew, Nat.le_refl _, B2.drew, B3.drew, B4.drew, ⟨_, B5.drew⟩, (fun _ => B5.drew), (fun h => by cases h), ⟨_, B6.drew⟩, (fun _ => B6.drew), (fun h => by cases h), B7.drew, B8.drew, B9.drew, B10.drew, (fun h => by cases h), (fun h => by cases h), (fun h => by cases h), (fun h => by cases h), (fun h => by cases h)⟩
            · refine (.cons rfl ?_ (.cons rfl ?_ (.cons rfl ?_ (.cons rfl ?_ (.cons rfl ?_ (.cons rfl ?_ (.cons rfl ?_ (.nil _))))))))
              · intro L v W7 hd hn ⟨hB, hz, s0, s1, s2, x3, q3, n3, x4, q4, n4, s5, s6, s7, s8, h0, h1, h2, h3, h4⟩ K hK
                have s4 := q4 (by
                  cases hL : L 6 with
                  | false => rfl
                  | true => exact absurd rfl (hn 6 _ rfl hL ⟨0, .phase⟩ (by simp) rfl))
                refine wp_load_any 150 _ rfl _ rfl 192 150 _ s4 _ Try.underlying150 rfl Try.size150 ?_
                exact hK _ _ _ rfl ⟨hB, hz, s0, s1, s2, x3, q3, n3, x4, q4, n4, s5, s6, s7, s8, (fun _ => rfl), h1, h2, h3, h4⟩
              · intro L v W7 hd hn ⟨hB, hz, s0, s1, s2, x3, q3, n3, x4, q4, n4, s5, s6, s7, s8, h0, h1, h2, h3, h4⟩ K hK
                refine wp_load_any 23 _ rfl _ rfl 64 23 _ s6 _ Try.underlying23 rfl Try.size23 ?_
                exact hK _ _ _ rfl ⟨hB, hz, s0, s1, s2, x3, q3, n3, x4, q4, n4, s5, s6, s7, s8, h0, (fun _ => rfl), h2, h3, h4⟩
              · intro L v W7 hd hn ⟨hB, hz, s0, s1, s2, x3, q3, n3, x4, q4, n4, s5, s6, s7, s8, h0, h1, h2, h3, h4⟩ K hK
                refine wp_load_any 23 _ rfl _ rfl 64 23 _ s7 _ Try.underlying23 rfl Try.size23 ?_
                exact hK _ _ _ rfl ⟨hB, hz, s0, s1, s2, x3, q3, n3, x4, q4, n4, s5, s6, s7, s8, h0, h1, (fun _ => rfl), h3, h4⟩
              · intro L v W7 hd hn ⟨hB, hz, s0, s1, s2, x3, q3, n3, x4, q4, n4, s5, s6, s7, s8, h0, h1, h2, h3, h4⟩ K hK
                refine wp_load_any 23 _ rfl _ rfl 64 23 _ s8 _ Try.underlying23 rfl Try.size23 ?_
                exact hK _ _ _ rfl ⟨hB, hz, s0, s1, s2, x3, q3, n3, x4, q4, n4, s5, s6, s7, s8, h0, h1, h2, (fun _ => rfl), h4⟩
              · intro L v W7 hd hn ⟨hB, hz, s0, s1, s2, x3, q3, n3, x4, q4, n4, s5, s6, s7, s8, h0, h1, h2, h3, h4⟩ K hK
                have e1 := h1 (hd ⟨1, .data⟩ (by simp) rfl)
                have e2 := h2 (hd ⟨2, .data⟩ (by simp) rfl)
                have e3 := h3 (hd ⟨3, .data⟩ (by simp) rfl)
                refine wp_build_of 150 _ rfl (bcells 192 (c3 (resP p pa pb) (subP p pu (prd p (quoP p pa pb) px)) (subP p pv (prd p (quoP p pa pb) py)))) (by rw [Array.toList_map]; show Try.prog.built 150 [(0, v 1), (1, v 2), (2, v 3)] = some (bcells 192 (c3 (resP p pa pb) (subP p pu (prd p (quoP p pa pb) px)) (subP p pv (prd p (quoP p pa pb) py)))); rw [e1, e2, e3]; exact built_ruv _ _ _) ?_
                exact hK _ _ _ rfl ⟨hB, hz, s0, s1, s2, x3, q3, n3, x4, q4, n4, s5, s6, s7, s8, h0, h1, h2, h3, (fun _ => rfl)⟩
              · intro L v W7 hd hn ⟨hB, hz, s0, s1, s2, x3, q3, n3, x4, q4, n4, s5, s6, s7, s8, h0, h1, h2, h3, h4⟩ K hK
                have e0 := h0 (hd ⟨0, .data⟩ (by simp) rfl)
                obtain ⟨gz, hk⟩ := x3
                refine wp_store_blk 150 _ _ rfl _ 192 (c3 pb px py) rfl e0 150 gz hk Try.size150 ?_
                exact hK _ undef _ rfl ⟨below_row hB (by omega) _, (by simpa [World.setRow] using hz), (s0).rowOther (by omega), (s1).rowOther (by omega), (s2).rowOther (by omega), ⟨_, hk.row _⟩, (fun h => absurd h (by simp [setL])), (fun _ => hk.row _), (let ⟨g, h⟩ := x4; ⟨g, (h).rowOther (by omega)⟩), (fun h => (q4 h).rowOther (by omega)), (fun h => (n4 h).rowOther (by omega)), (s5).rowOther (by omega), (s6).rowOther (by omega), (s7).rowOther (by omega), (s8).rowOther (by omega), h0, h1, h2, h3, h4⟩
              · intro L v W7 hd hn ⟨hB, hz, s0, s1, s2, x3, q3, n3, x4, q4, n4, s5, s6, s7, s8, h0, h1, h2, h3, h4⟩ K hK
                have e4 := h4 (hd ⟨4, .data⟩ (by simp) rfl)
                obtain ⟨gz, hk⟩ := x4
                refine wp_store_blk 150 _ _ rfl _ 192 (c3 (resP p pa pb) (subP p pu (prd p (quoP p pa pb) px)) (subP p pv (prd p (quoP p pa pb) py))) rfl e4 150 gz hk Try.size150 ?_
                exact hK _ undef _ rfl ⟨below_row hB (by omega) _, (by simpa [World.setRow] using hz), (s0).rowOther (by omega), (s1).rowOther (by omega), (s2).rowOther (by omega), (let ⟨g, h⟩ := x3; ⟨g, (h).rowOther (by omega)⟩), (fun h => (q3 h).rowOther (by omega)), (fun h => (n3 h).rowOther (by omega)), ⟨_, hk.row _⟩, (fun h => absurd h (by simp [setL])), (fun _ => hk.row _), (s5).rowOther (by omega), (s6).rowOther (by omega), (s7).rowOther (by omega), (s8).rowOther (by omega), h0, h1, h2, h3, h4⟩
            · intro L v W7 hL ⟨hB, hz, s0, s1, s2, x3, q3, n3, x4, q4, n4, s5, s6, s7, s8, h0, h1, h2, h3, h4⟩
              have r3 := n3 (hL 5 (by decide))
              have r4 := n4 (hL 6 (by decide))
              have e0 := h0 (hL 0 (by decide))
              have e1 := h1 (hL 1 (by decide))
              have e2 := h2 (hL 2 (by decide))
              have e3 := h3 (hL 3 (by decide))
              have e4 := h4 (hL 4 (by decide))
              clear hL x3 q3 n3 x4 q4 n4 h0 h1 h2 h3 h4
              simp only [Exit.then, e0, e1, e2, e3, e4]
              clear e0 e1 e2 e3 e4
              clear B2
              have B2 := s0
              clear s0
              clear B3
              have B3 := s1
              clear s1
              clear B4
              have B4 := s2
              clear s2
              clear B5
              have B5 := r3
              clear r3
              clear B6
              have B6 := r4
              clear r4
              clear B7
              have B7 := s5
              clear s5
              clear B8
              have B8 := s6
              clear s6
              clear B9
              have B9 := s7
              clear s7
              clear B10
              have B10 := s8
              clear s8
              clear hb
              have hb := hB
              clear hB
              clear hbase hz lt_B2 lt_B3 lt_B4 lt_B5 lt_B6 lt_B7 lt_B8 lt_B9 lt_B10
              go_wp2_with fail
              go_roundw
              case rel => exact ⟨k, pb, (resP p pa pb), px, (subP p pu (prd p (quoP p pa pb) px)), py, (subP p pv (prd p (quoP p pa pb) py)), HRN.out, by have := HDR.out; omega, HI'.out, hb, B5, B6, B2, B3, B4⟩
              case measure =>
                rw [degAt_blk B6 (by omega), degAt_blk B6o (by omega), deg_congr (f := c3 (resP p pa pb) (subP p pu (prd p (quoP p pa pb) px)) (subP p pv (prd p (quoP p pa pb) py))) (g := (resP p pa pb)) (fun k hk => by have := c3_0 (resP p pa pb) (subP p pu (prd p (quoP p pa pb) px)) (subP p pv (prd p (quoP p pa pb) py)) k hk; rwa [Nat.zero_add] at this), deg_congr (f := c3 pb px py) (g := pb) (fun k hk => by have := c3_0 pb px py k hk; rwa [Nat.zero_add] at this)]
                have := HDR.out
                omega
end Go.Proofs.Ytbjpkmbhbpcbgaa
