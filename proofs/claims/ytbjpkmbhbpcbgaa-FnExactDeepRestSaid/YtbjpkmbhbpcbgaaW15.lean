/-
  Walks: long division.
-/
import Derived.Test.YtbjpkmbhbpcbgaaW14
namespace Go.Proofs.Ytbjpkmbhbpcbgaa
open Go.RowKit
set_option linter.unusedVariables false
set_option linter.unusedSimpArgs false
attribute [local irreducible] deg invN dS qS stp stpr
set_option maxRecDepth 100000 in
set_option maxHeartbeats 3200000 in
theorem ld_done (p m inv : Nat) (a b : Nat → Nat) (w : World) (v9 : Value) (u13 u14 u15 u16 u17 u18 u19 u20 u21 u22 u23 u24 u25 u26 u27 u28 u29 u30 u31 u32 u33 u34 u35 u36 u37 u38 u39 u40 u41 u42 u43 u44 u45 u46 u47 u48 u49 u50 u51 u52 u53 u54 u55 u56 u57 u58 u59 u60 u61 u62 u63 u64 u65 u66 u67 u68 u69 u70 u71 u72 u73 u74 u75 u76 u77 : Value) (x12 : Value) (wr : World) (J : Nat → Act → World → Prop) (A B : Nat → Nat) (hb : Below w.heap.size w wr) (b0 : Blk wr w.heap.size 128 118 A) (b1 : Blk wr (w.heap.size + 1) 64 23 b) (b2 : Blk wr (w.heap.size + 1 + 1) 128 118 (fun _ => 0)) (b3 : Blk wr (w.heap.size + 1 + 1 + 1) 64 23 (fun _ => 0)) (b4 : Blk wr (w.heap.size + 1 + 1 + 1 + 1) 128 118 B) (Q : Exit → Act → World → Prop)
    (hQ : Q = bodyPost Try.prog Try.f174 fun e w' => e = .returned (.tuple #[.agg (bcells 128 B), .agg (bcells 64 A)]) ∧ Below w.heap.size w w') :
    (behind Try.f174 0).wp Try.prog (Exit.jumps J Q) { tmps := #[.int .i64 (p : Int), .agg (bcells 128 a), .agg (bcells 64 b), undef, .pointer (some ⟨w.heap.size, 0, none⟩), .pointer (some ⟨w.heap.size + 1, 0, none⟩), .pointer (some ⟨w.heap.size + 1 + 1, 0, none⟩), .pointer (some ⟨w.heap.size + 1 + 1 + 1, 0, none⟩), .pointer (some ⟨w.heap.size + 1 + 1 + 1 + 1, 0, none⟩), v9, .int .i64 (m : Int), .int .u8 (inv : Int), x12, u13, u14, u15, u16, u17, u18, u19, u20, u21, u22, u23, u24, u25, u26, u27, u28, u29, u30, u31, u32, u33, u34, u35, u36, u37, u38, u39, u40, u41, u42, u43, u44, u45, u46, u47, u48, u49, u50, u51, u52, u53, u54, u55, u56, u57, u58, u59, u60, u61, u62, u63, u64, u65, u66, u67, u68, u69, u70, u71, u72, u73, u74, u75, u76, u77], defers := [] } wr := by
  have HQ := Lib.hid hQ
  clear hQ
  have hat := fun (W : World) (a : Option Addr) => run_arrayAt (P := Try.prog) (w := W) 23 5 64 a 64 128 Try.underlying23 (by omega)
  simp only [tailOf, behind, Try.f174, Option.bind_some, scopeIn, Option.getD_some, findLabel, Nat.reduceBEq, if_true, if_false, Bool.false_eq_true, beq_self_eq_true]
  go_wp2_with fail
  have lt_b0 : (w.heap.size) < wr.heap.size := b0.lt
  have lt_b4 : (w.heap.size + 1 + 1 + 1 + 1) < wr.heap.size := b4.lt
  have lt_b2 : (w.heap.size + 1 + 1) < wr.heap.size := b2.lt
  have lt_b3 : (w.heap.size + 1 + 1 + 1) < wr.heap.size := b3.lt
  have hbase : w.heap.size ≤ wr.heap.size := hb.size
  refine wp_region_steps0 Try.mixed (by kernel_rfl) (by kernel_rfl) (fun v => by (simp only [frL, Act.put, List.setIfInBounds_toArray, List.set_cons_zero, List.set_cons_succ, Nat.reduceAdd, Nat.zero_add]; exact rfl))
    (fun L v wx => Below w.heap.size w wx ∧ wr.heap.size ≤ wx.heap.size ∧ Blk wx (w.heap.size) 128 118 (A) ∧ Blk wx (w.heap.size + 1 + 1 + 1 + 1) 128 118 (B) ∧ (∃ g, Blk wx (w.heap.size + 1 + 1) 128 118 (g)) ∧ (L 4 = false → Blk wx (w.heap.size + 1 + 1) 128 118 (fun _ => 0)) ∧ (L 4 = true → Blk wx (w.heap.size + 1 + 1) 128 118 (B)) ∧ (∃ g, Blk wx (w.heap.size + 1 + 1 + 1) 64 23 (g)) ∧ (L 5 = false → Blk wx (w.heap.size + 1 + 1 + 1) 64 23 (fun _ => 0)) ∧ (L 5 = true → Blk wx (w.heap.size + 1 + 1 + 1) 64 23 (A)) ∧ (L 0 = true → v 0 = (.agg (bcells 128 (B)))) ∧ (L 1 = true → v 1 = (.slice (some ⟨w.heap.size, 0, none⟩) 64 128)) ∧ (L 2 = true → v 2 = (.pointer (some ⟨w.heap.size, 0, none⟩) )) ∧ (L 3 = true → v 3 = (.agg (bcells 64 (A))))) ?_ ?_ ?_
  · intro v hv0
    exact ⟨hb.drew, Nat.le_refl _, b0.drew, b4.drew, ⟨_, b2.drew⟩, (fun _ => b2.drew), (fun h => by cases h), ⟨_, b3.drew⟩, (fun _ => b3.drew), (fun h => by cases h), (fun h => by cases h), (fun h => by cases h), (fun h => by cases h), (fun h => by cases h)⟩
  · refine (.cons rfl ?_ (.cons rfl ?_ (.cons rfl ?_ (.cons rfl ?_ (.cons rfl ?_ (.cons rfl ?_ (.nil _)))))))
    · intro L v wx hd hn ⟨hB, hz, s0, s1, x2, q2, n2, x3, q3, n3, h0, h1, h2, h3⟩ K hK
      refine wp_load_blk 118 _ rfl _ rfl 128 118 _ s1 _ Try.underlying118 Try.size118 ?_
      exact hK _ _ _ rfl ⟨hB, hz, s0, s1, x2, q2, n2, x3, q3, n3, (fun _ => rfl), h1, h2, h3⟩
    · intro L v wx hd hn ⟨hB, hz, s0, s1, x2, q2, n2, x3, q3, n3, h0, h1, h2, h3⟩ K hK
      go_wp2_with fail
      exact hK _ (.slice (some ⟨w.heap.size, 0, none⟩) 64 128) _ (by simp only [Act.put, List.setIfInBounds_toArray, List.set_cons_zero, List.set_cons_succ ]) ⟨hB, hz, s0, s1, x2, q2, n2, x3, q3, n3, h0, (fun _ => rfl), h2, h3⟩
    · intro L v wx hd hn ⟨hB, hz, s0, s1, x2, q2, n2, x3, q3, n3, h0, h1, h2, h3⟩ K hK
      have e1 := h1 (hd ⟨1, .data⟩ (by simp) rfl)
      go_wp2_with fail
      exact hK _ (.pointer (some ⟨w.heap.size, 0, none⟩) ) _ (by simp only [Act.put, List.setIfInBounds_toArray, List.set_cons_zero, List.set_cons_succ, e1]) ⟨hB, hz, s0, s1, x2, q2, n2, x3, q3, n3, h0, h1, (fun _ => rfl), h3⟩
    · intro L v wx hd hn ⟨hB, hz, s0, s1, x2, q2, n2, x3, q3, n3, h0, h1, h2, h3⟩ K hK
      have e2 := h2 (hd ⟨2, .data⟩ (by simp) rfl)
      refine wp_load_mid 23 _ rfl _ (0) e2 _ _ (s0.pre (m := 64) (by omega)) Try.underlying23 rfl (by rw [bl_length]; exact Try.size23) ?_
      exact hK _ _ _ rfl ⟨hB, hz, s0, s1, x2, q2, n2, x3, q3, n3, h0, h1, h2, (fun _ => rfl)⟩
    · intro L v wx hd hn ⟨hB, hz, s0, s1, x2, q2, n2, x3, q3, n3, h0, h1, h2, h3⟩ K hK
      have e0 := h0 (hd ⟨0, .data⟩ (by simp) rfl)
      obtain ⟨gz, hk⟩ := x2
      refine wp_store_blk 118 _ _ rfl _ 128 (B) rfl e0 118 gz hk Try.size118 ?_
      exact hK _ undef _ rfl ⟨below_row hB (by omega) _, (by simpa [World.setRow] using hz), (s0).rowOther (by omega), (s1).rowOther (by omega), ⟨_, hk.row _⟩, (fun h => absurd h (by simp [setL])), (fun _ => hk.row _), (let ⟨g, h⟩ := x3; ⟨g, (h).rowOther (by omega)⟩), (fun h => (q3 h).rowOther (by omega)), (fun h => (n3 h).rowOther (by omega)), h0, h1, h2, h3⟩
    · intro L v wx hd hn ⟨hB, hz, s0, s1, x2, q2, n2, x3, q3, n3, h0, h1, h2, h3⟩ K hK
      have e3 := h3 (hd ⟨3, .data⟩ (by simp) rfl)
      obtain ⟨gz, hk⟩ := x3
      refine wp_store_blk 23 _ _ rfl _ 64 (A) rfl e3 23 gz hk Try.size23 ?_
      exact hK _ undef _ rfl ⟨below_row hB (by omega) _, (by simpa [World.setRow] using hz), (s0).rowOther (by omega), (s1).rowOther (by omega), (let ⟨g, h⟩ := x2; ⟨g, (h).rowOther (by omega)⟩), (fun h => (q2 h).rowOther (by omega)), (fun h => (n2 h).rowOther (by omega)), ⟨_, hk.row _⟩, (fun h => absurd h (by simp [setL])), (fun _ => hk.row _), h0, h1, h2, h3⟩
  · intro L v wx hL ⟨hB, hz, s0, s1, x2, q2, n2, x3, q3, n3, h0, h1, h2, h3⟩
    have r2 := n2 (hL 4 (by decide))
    have r3 := n3 (hL 5 (by decide))
    have e0 := h0 (hL 0 (by decide))
    have e1 := h1 (hL 1 (by decide))
    have e2 := h2 (hL 2 (by decide))
    have e3 := h3 (hL 3 (by decide))
    clear hL x2 q2 n2 x3 q3 n3 h0 h1 h2 h3
    simp only [Exit.then, e0, e1, e2, e3]
    clear e0 e1 e2 e3
    go_wp2_with fail
    show Q .ret _ _
    rw [HQ.out]
    refine bodyPost_ret (results_bb rfl _ _ _ 128 118 5 _ _ 64 23 5 _ rfl r2 Try.underlying118 Try.size118 rfl r3 Try.underlying23 Try.size23) rfl ⟨rfl, hB⟩
set_option maxRecDepth 100000 in
set_option maxHeartbeats 3200000 in
theorem longDivision_any (p m : Nat) (a b : Nat → Nat) (w : World) (hp : p = 2 ∨ p = 3 ∨ p = 5 ∨ p = 7) (ha : ∀ k, k < 128 → a k < p) (hb : ∀ k, k < 64 → b k < p) (hm : deg b = (m : Int)) (hbm : 0 < b m) (hm6 : m < 64) :
    Calls Try.prog 174 #[.int .i64 (p : Int), .agg (bcells 128 a), .agg (bcells 64 b)] w fun e w' => e = .returned (.tuple #[.agg (bcells 128 (quoW p (invN p (b m)) m b a)), .agg (bcells 64 (resW p (invN p (b m)) m b a))]) ∧ Below w.heap.size w w' := by
  obtain ⟨inv, hinv⟩ : ∃ v, v = invN p (b m) := ⟨_, rfl⟩
  have hi7 : inv < p := by have := (invF hp hbm (hb m hm6)).2.1; omega
  have p2 : 2 ≤ p := by omega
  have p7 : p ≤ 7 := by omega
  rw [← hinv]
  have HA := Lib.hid ha; clear ha
  have HB := Lib.hid hb; clear hb
  have HI := Lib.hid hinv; clear hinv
  have HM := Lib.hid hm; clear hm
  go_enter Try.func174, Try.ntmps174
  go_wp2
  refine wp_scope_labels (fun l a' w' => ldJ p m inv a b w l a' w') (fun l a' _ => ldM l a') ?_ ?_
  · go_upto_region 2 with (fail)
    rw [← zero128, ← zero64]
    obtain ⟨wo, hwo⟩ : ∃ wo : World, wo = (((((w.alloc (.cells (bcells 128 a) 118)).alloc (.cells (bcells 64 b) 23)).alloc (.cells (bcells 128 fun _ => 0) 118)).alloc (.cells (bcells 64 fun _ => 0) 23)).alloc (.cells (bcells 128 fun _ => 0) 118)) := ⟨_, rfl⟩
    have b0 : Blk wo (w.heap.size) 128 118 a := by subst hwo; have := (((((Blk.new w 128 118 a).alloc (.cells (bcells 64 b) 23)).alloc (.cells (bcells 128 fun _ => 0) 118)).alloc (.cells (bcells 64 fun _ => 0) 23)).alloc (.cells (bcells 128 fun _ => 0) 118)); simpa using this
    have b1 : Blk wo (w.heap.size + 1) 64 23 b := by subst hwo; have := ((((Blk.new (w.alloc (.cells (bcells 128 a) 118)) 64 23 b).alloc (.cells (bcells 128 fun _ => 0) 118)).alloc (.cells (bcells 64 fun _ => 0) 23)).alloc (.cells (bcells 128 fun _ => 0) 118)); simpa using this
    have b2 : Blk wo (w.heap.size + 1 + 1) 128 118 (fun _ => 0) := by subst hwo; have := (((Blk.new ((w.alloc (.cells (bcells 128 a) 118)).alloc (.cells (bcells 64 b) 23)) 128 118 (fun _ => 0)).alloc (.cells (bcells 64 fun _ => 0) 23)).alloc (.cells (bcells 128 fun _ => 0) 118)); simpa using this
    have b3 : Blk wo (w.heap.size + 1 + 1 + 1) 64 23 (fun _ => 0) := by subst hwo; have := ((Blk.new (((w.alloc (.cells (bcells 128 a) 118)).alloc (.cells (bcells 64 b) 23)).alloc (.cells (bcells 128 fun _ => 0) 118)) 64 23 (fun _ => 0)).alloc (.cells (bcells 128 fun _ => 0) 118)); simpa using this
    have b4 : Blk wo (w.heap.size + 1 + 1 + 1 + 1) 128 118 (fun _ => 0) := by subst hwo; have := (Blk.new ((((w.alloc (.cells (bcells 128 a) 118)).alloc (.cells (bcells 64 b) 23)).alloc (.cells (bcells 128 fun _ => 0) 118)).alloc (.cells (bcells 64 fun _ => 0) 23)) 128 118 (fun _ => 0)); simpa using this
    have hb : Below w.heap.size w wo := by subst hwo; exact ((((((Below.refl _ _).alloc (Nat.le_refl _) _).alloc (by simp) _).alloc (by simp; omega) _).alloc (by simp; omega) _).alloc (by simp; omega) _)
    rw [← hwo]
    clear hwo
    have ha : Below wo.heap.size wo wo := Below.refl _ _
    go_upto_region 4 with (first | refine wpList_load_blk rfl 23 _ rfl _ rfl 64 23 _ (b1.below (by assumption) b1.lt) 5 Try.underlying23 Try.size23 ?_ | (go_at_call 78; refine (acc (degree_any _ _) (by assumption)).mono ?_; rintro e w1 ⟨rfl, h1, ha⟩; rw [HM.out]))
    replace hb := hb.trans (ha.mono hb.size)
    replace b0 := b0.below ha b0.lt
    replace b1 := b1.below ha b1.lt
    replace b2 := b2.below ha b2.lt
    replace b3 := b3.below ha b3.lt
    replace b4 := b4.below ha b4.lt
    clear ha h1
    have c1 := b1.cell (i := m) hm6
    go_wp2_with (first | (go_at_call 193; refine (inverseNumber_any p (b m) _ hp hbm (HB.out m hm6)).mono ?_; rintro e w1 ⟨rfl, rfl⟩; rw [← HI.out]))
    go_step3
    simp only [Exit.then]
    apply_assumption
    have hA : a = dS p inv m b a (127 - 127) := by rw [Nat.sub_self, dS_zero]
    have b4' := b4.congr (g := qS p inv m b a (127 - 127)) (fun k _ => by rw [Nat.sub_self, qS_zero])
    by_cases h0 : a 127 = 0
    · exact wp_mono (ld_zero p m inv a b w _ _ _ _ _ _ _ _ _ _ _ _ _ _ _ _ _ _ _ _ _ _ _ _ _ _ _ _ _ _ _ _ _ _ _ _ _ _ _ _ _ _ _ _ _ _ _ _ _ _ _ _ _ _ _ _ _ _ _ _ _ _ _ _ _ _ 127 w1 _ a hb b0 b1 b2 b3 b4' (by omega) (by omega) hA HA.out h0) jumps_less
    · exact wp_mono (ld_take p m inv a b w _ _ _ _ _ _ _ _ _ _ _ _ _ _ _ _ _ _ _ _ _ _ _ _ _ _ _ _ _ _ _ _ _ _ _ _ _ _ _ _ _ _ _ _ _ _ _ _ _ _ _ _ _ _ _ _ _ _ _ _ _ _ _ _ _ _ 127 w1 _ a hb b0 b1 b2 b3 b4' (by omega) (by omega) hA HA.out h0 p2 p7 hi7 HB.out hm6) jumps_less
  · intro l a' w' hJ
    obtain ⟨t, v9, v12, u13, u14, u15, u16, u17, u18, u19, u20, u21, u22, u23, u24, u25, u26, u27, u28, u29, u30, u31, u32, u33, u34, u35, u36, u37, u38, u39, u40, u41, u42, u43, u44, u45, u46, u47, u48, u49, u50, u51, u52, u53, u54, u55, u56, u57, u58, u59, u60, u61, u62, u63, u64, u65, u66, u67, u68, u69, u70, u71, u72, u73, u74, u75, u76, u77, rfl, hb, b0, b1, b2, b3, b4, ht1, ht2, hl⟩ := hJ
    rcases hl with ⟨rfl, rfl⟩ | ⟨rfl, rfl, ht3⟩ | ⟨rfl, rfl⟩
    · refine ⟨behind Try.f174 1, rfl, ?_⟩
      by_cases hlt : m < t
      · obtain ⟨j, rfl⟩ : ∃ j, t = j + 1 := ⟨t - 1, by omega⟩
        rw [show ((j + 1 : Nat) : Int) - 1 = (j : Int) by omega]
        rw [show 128 - (j + 1) = 127 - j by omega] at b0 b4
        rw [show ldM 1 ({ tmps := #[.int .i64 (p : Int), .agg (bcells 128 a), .agg (bcells 64 b), undef, .pointer (some ⟨w.heap.size, 0, none⟩), .pointer (some ⟨w.heap.size + 1, 0, none⟩), .pointer (some ⟨w.heap.size + 1 + 1, 0, none⟩), .pointer (some ⟨w.heap.size + 1 + 1 + 1, 0, none⟩), .pointer (some ⟨w.heap.size + 1 + 1 + 1 + 1, 0, none⟩), v9, .int .i64 (m : Int), .int .u8 (inv : Int), .int .i64 (j : Int), u13, u14, u15, u16, u17, u18, u19, u20, u21, u22, u23, u24, u25, u26, u27, u28, u29, u30, u31, u32, u33, u34, u35, u36, u37, u38, u39, u40, u41, u42, u43, u44, u45, u46, u47, u48, u49, u50, u51, u52, u53, u54, u55, u56, u57, u58, u59, u60, u61, u62, u63, u64, u65, u66, u67, u68, u69, u70, u71, u72, u73, u74, u75, u76, u77], defers := [] } : Act) = 3 * (j + 1) + 2 by simp [ldM, intOf] <;> omega]
        by_cases h0 : dS p inv m b a (127 - j) j = 0
        · exact behind_tail rfl (ld_zero p m inv a b w v9 u13 u14 u15 u16 u17 u18 u19 u20 u21 u22 u23 u24 u25 u26 u27 u28 u29 u30 u31 u32 u33 u34 u35 u36 u37 u38 u39 u40 u41 u42 u43 u44 u45 u46 u47 u48 u49 u50 u51 u52 u53 u54 u55 u56 u57 u58 u59 u60 u61 u62 u63 u64 u65 u66 u67 u68 u69 u70 u71 u72 u73 u74 u75 u76 u77 j w' _ _ hb b0 b1 b2 b3 b4 (by omega) (by omega) rfl (dS_lt (by omega) HA.out _) h0)
        · exact behind_tail rfl (ld_take p m inv a b w v9 u13 u14 u15 u16 u17 u18 u19 u20 u21 u22 u23 u24 u25 u26 u27 u28 u29 u30 u31 u32 u33 u34 u35 u36 u37 u38 u39 u40 u41 u42 u43 u44 u45 u46 u47 u48 u49 u50 u51 u52 u53 u54 u55 u56 u57 u58 u59 u60 u61 u62 u63 u64 u65 u66 u67 u68 u69 u70 u71 u72 u73 u74 u75 u76 u77 j w' _ _ hb b0 b1 b2 b3 b4 (by omega) (by omega) rfl (dS_lt (by omega) HA.out _) h0 p2 p7 hi7 HB.out hm6)
      · have e : t = m := by omega
        subst e
        rw [show ldM 1 ({ tmps := #[.int .i64 (p : Int), .agg (bcells 128 a), .agg (bcells 64 b), undef, .pointer (some ⟨w.heap.size, 0, none⟩), .pointer (some ⟨w.heap.size + 1, 0, none⟩), .pointer (some ⟨w.heap.size + 1 + 1, 0, none⟩), .pointer (some ⟨w.heap.size + 1 + 1 + 1, 0, none⟩), .pointer (some ⟨w.heap.size + 1 + 1 + 1 + 1, 0, none⟩), v9, .int .i64 (t : Int), .int .u8 (inv : Int), .int .i64 ((t : Int) - 1), u13, u14, u15, u16, u17, u18, u19, u20, u21, u22, u23, u24, u25, u26, u27, u28, u29, u30, u31, u32, u33, u34, u35, u36, u37, u38, u39, u40, u41, u42, u43, u44, u45, u46, u47, u48, u49, u50, u51, u52, u53, u54, u55, u56, u57, u58, u59, u60, u61, u62, u63, u64, u65, u66, u67, u68, u69, u70, u71, u72, u73, u74, u75, u76, u77], defers := [] } : Act) = 3 * t + 2 by simp [ldM, intOf] <;> omega]
        exact ld_stop p t inv a b w v9 u13 u14 u15 u16 u17 u18 u19 u20 u21 u22 u23 u24 u25 u26 u27 u28 u29 u30 u31 u32 u33 u34 u35 u36 u37 u38 u39 u40 u41 u42 u43 u44 u45 u46 u47 u48 u49 u50 u51 u52 u53 u54 u55 u56 u57 u58 u59 u60 u61 u62 u63 u64 u65 u66 u67 u68 u69 u70 u71 u72 u73 u74 u75 u76 u77 w' _ hb b0 b1 b2 b3 b4 ht2
    · refine ⟨behind Try.f174 2, rfl, ?_⟩
      rw [show ldM 2 ({ tmps := #[.int .i64 (p : Int), .agg (bcells 128 a), .agg (bcells 64 b), undef, .pointer (some ⟨w.heap.size, 0, none⟩), .pointer (some ⟨w.heap.size + 1, 0, none⟩), .pointer (some ⟨w.heap.size + 1 + 1, 0, none⟩), .pointer (some ⟨w.heap.size + 1 + 1 + 1, 0, none⟩), .pointer (some ⟨w.heap.size + 1 + 1 + 1 + 1, 0, none⟩), v9, .int .i64 (m : Int), .int .u8 (inv : Int), .int .i64 (t : Int), u13, u14, u15, u16, u17, u18, u19, u20, u21, u22, u23, u24, u25, u26, u27, u28, u29, u30, u31, u32, u33, u34, u35, u36, u37, u38, u39, u40, u41, u42, u43, u44, u45, u46, u47, u48, u49, u50, u51, u52, u53, u54, u55, u56, u57, u58, u59, u60, u61, u62, u63, u64, u65, u66, u67, u68, u69, u70, u71, u72, u73, u74, u75, u76, u77], defers := [] } : Act) = 3 * (t + 1) + 1 by simp [ldM, intOf] <;> omega]
      exact ld_next p m inv a b w v9 u13 u14 u15 u16 u17 u18 u19 u20 u21 u22 u23 u24 u25 u26 u27 u28 u29 u30 u31 u32 u33 u34 u35 u36 u37 u38 u39 u40 u41 u42 u43 u44 u45 u46 u47 u48 u49 u50 u51 u52 u53 u54 u55 u56 u57 u58 u59 u60 u61 u62 u63 u64 u65 u66 u67 u68 u69 u70 u71 u72 u73 u74 u75 u76 u77 t w' _ hb b0 b1 b2 b3 b4 ht1 ht3
    · refine ⟨behind Try.f174 0, rfl, ?_⟩
      exact ld_done p t inv a b w v9 u13 u14 u15 u16 u17 u18 u19 u20 u21 u22 u23 u24 u25 u26 u27 u28 u29 u30 u31 u32 u33 u34 u35 u36 u37 u38 u39 u40 u41 u42 u43 u44 u45 u46 u47 u48 u49 u50 u51 u52 u53 u54 u55 u56 u57 u58 u59 u60 u61 u62 u63 u64 u65 u66 u67 u68 u69 u70 u71 u72 u73 u74 u75 u76 u77 _ w' _ _ _ hb b0 b1 b2 b3 b4 _ rfl
end Go.Proofs.Ytbjpkmbhbpcbgaa
