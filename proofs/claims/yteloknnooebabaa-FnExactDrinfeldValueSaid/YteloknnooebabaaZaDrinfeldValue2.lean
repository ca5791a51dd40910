/-
  What the rows of this claim rest on: arrays of bytes, walks of the functions, plain mathematics.
-/
import Derived.Test.YteloknnooebabaaZaDrinfeldValue1
section
namespace Go.Proofs.Yteloknnooebabaa
open Go Go.RowKit
set_option linter.unusedVariables false
set_option linter.unusedSimpArgs false
theorem built_tu (A B C : Nat → Nat) : Try.prog.built 26 [(0, .agg (zb 64 A)), (1, .agg (zb 64 B)), (2, .agg (zb 64 C))] = some (zb 512 (fl 64 (tu3 A B C))) := by
 unfold zb bl; kernel_rfl
theorem tuF_lt {p : Nat} {m G D : Nat → Nat} (hp : p = 2 ∨ p = 3 ∨ p = 5 ∨ p = 7) (lG : ∀ k, k < 64 → G k < p) (lD : ∀ k, k < 64 → D k < p) : ∀ i, i < 8 → ∀ k, k < 64 → tuF p m G D i k < p := by
 intro i hi k hk
 have h1 := resP_lt (p := p) (b := m) (by omega) (fun k _ => TP_lt (p := p) (by omega) k) k hk
 unfold tuF tu3
 split
 · exact h1
 · split
   · exact lG k hk
   · split
     · exact lD k hk
     · show 0 < p; omega
attribute [local irreducible] deg irB monUp monB okA drB frN mmP pmP bzU resP
attribute [local irreducible] drC fdC
set_option maxRecDepth 100000 in
set_option maxHeartbeats 1600000 in
theorem turn_any (n : Nat) (m G D : Nat → Nat) (w : World) (hpr : n = 2 ∨ n = 3 ∨ n = 5 ∨ n = 7) (lm : ∀ k, k < 64 → m k < n) (h0 : 0 ≤ deg m) :
 Calls Try.prog 216 #[.agg (drC (n : Int) m G D).toArray] w fun e w' => e = .returned (.agg (zb 512 (fl 64 (tuF n m G D)))) ∧ Below w.heap.size w w' := by
 have HRO := Lib.hid (fun W => restOf_any n TP m W hpr (fun k _ => TP_lt (by omega) k) lm h0)
 go_enter Try.func216, Try.ntmps216
 go_upto_region 1 with (fail)
 rw [← zero512]
 obtain ⟨W1, hwo⟩ : ∃ v : World, v = ((w.alloc (.cells (drC (n : Int) m G D).toArray 58)).alloc (.cells (zb 512 (fl 64 (fun _ _ => 0))) 26)) := ⟨_, rfl⟩
 have B0 : Row W1 (w.heap.size) 58 (drC (n : Int) m G D).toArray := by subst hwo; have := ((Row.new w 58 (drC (n : Int) m G D).toArray).alloc (.cells (zb 512 (fl 64 (fun _ _ => 0))) 26)); simpa using this
 have B1 : Blk W1 (w.heap.size + 1) 512 26 (fl 64 (fun _ _ => 0)) := by subst hwo; have := (Blk.new (w.alloc (.cells (drC (n : Int) m G D).toArray 58)) 512 26 (fl 64 (fun _ _ => 0))); simpa using this
 have hb : Below w.heap.size w W1 := by subst hwo; exact (((Below.refl _ _).alloc (Nat.le_refl _) _).alloc (by simp) _)
 rw [← hwo]
 clear hwo
 have lt_B0 : (w.heap.size) < W1.heap.size := B0.lt
 have lt_B1 : (w.heap.size + 1) < W1.heap.size := B1.lt
 have hbase : w.heap.size ≤ W1.heap.size := hb.size
 refine zq Try.mixed (by kernel_rfl) (by kernel_rfl) (fun v => by (simp only [frL, Act.put, pA, pB, pC, Nat.reduceAdd, Nat.zero_add]; exact rfl))
  (fun L v W2 => Below w.heap.size w W2 ∧ Kx [w.heap.size + 1] W1 W2 ∧ (∃ g, Blk W2 (w.heap.size + 1) 512 26 (g)) ∧ (L 11 = false → Blk W2 (w.heap.size + 1) 512 26 (fl 64 (fun _ _ => 0))) ∧ (L 11 = true → Blk W2 (w.heap.size + 1) 512 26 (fl 64 (tuF n m G D))) ∧ VF L v [some (.pointer (some ⟨w.heap.size, 0, none⟩)), some (.int .i64 (n : Int)), some (.agg (zb 64 (TP))), some (.pointer (some ⟨w.heap.size, 1, none⟩)), some (.agg (zb 64 (m))), some (.agg (zb 64 (resP n TP m))), some (.pointer (some ⟨w.heap.size, 65, none⟩)), some (.agg (zb 64 (G))), some (.pointer (some ⟨w.heap.size, 129, none⟩)), some (.agg (zb 64 (D))), some (.agg (zb 512 (fl 64 (tuF n m G D)))), none]) ?_ ?_ ?_
 · intro v hv0
   exact ⟨hb.drew, Kx.start _ _, ⟨_, B1.drew⟩, (fun _ => B1.drew), (fun h => by cases h), VF.start⟩
 · refine (.cons rfl ?_ (.cons rfl ?_ (.cons rfl ?_ (.cons rfl ?_ (.cons rfl ?_ (.cons rfl ?_ (.cons rfl ?_ (.cons rfl ?_ (.cons rfl ?_ (.cons rfl ?_ (.cons rfl ?_ (.cons rfl ?_ (.nil _)))))))))))))
   all_goals intro L v W2 hd hn ⟨hB, hX, x1, q1, n1, V⟩ K hK
   · go_wp2_with fail
     exact hK _ (.pointer (some ⟨w.heap.size, 0, none⟩)) _ (by simp only [Act.put, pA, pB, pC ]) ⟨hB, hX, x1, q1, n1, V.step 0 rfl⟩
   · have e0 := V.at (zdq hd 0 rfl) rfl
     refine wp_load_rowc 2 _ rfl _ 0 e0 58 _ (B0.kx hX (by simp <;> omega)) (.int .i64 (n : Int)) (drC_at _ _ _ _) _ Try.underlying2 rfl ?_
     exact hK _ _ _ rfl ⟨hB, hX, x1, q1, n1, V.step 1 rfl⟩
   · refine wp_build_of 24 _ rfl (zb 64 TP) (by rw [Array.toList_map]; exact built_T) ?_
     exact hK _ _ _ rfl ⟨hB, hX, x1, q1, n1, V.step 2 rfl⟩
   · go_wp2_with fail
     exact hK _ (.pointer (some ⟨w.heap.size, 1, none⟩)) _ (by simp only [Act.put, pA, pB, pC ]) ⟨hB, hX, x1, q1, n1, V.step 3 rfl⟩
   · have e3 := V.at (zdq hd 3 rfl) rfl
     refine wp_load_mid 24 _ rfl _ 1 e3 _ _ ((B0.kx hX (by simp <;> omega)).drm) Try.underlying24 rfl (by rw [zl]; exact Try.size24) ?_
     exact hK _ _ _ rfl ⟨hB, hX, x1, q1, n1, V.step 4 rfl⟩
   · have e1 := V.at (zdq hd 1 rfl) rfl
     have e2 := V.at (zdq hd 2 rfl) rfl
     have e4 := V.at (zdq hd 4 rfl) rfl
     go_wp2_with (go_at_call 121; refine (HRO.out _).mono ?_; rintro e wy ⟨rfl, hy⟩)
     exact hK _ (.agg (zb 64 (resP n TP m))) _ (by simp only [Act.put, pA, pB, pC, e1, e2, e4]) ⟨hB.trans (hy.mono hB.size), hX.below hy, (let ⟨g, h⟩ := x1; ⟨g, h.zw hy⟩), (fun h => (q1 h).below hy (q1 h).lt), (fun h => (n1 h).below hy (n1 h).lt), V.step 5 rfl⟩
   · go_wp2_with fail
     exact hK _ (.pointer (some ⟨w.heap.size, 65, none⟩)) _ (by simp only [Act.put, pA, pB, pC ]) ⟨hB, hX, x1, q1, n1, V.step 6 rfl⟩
   · have e6 := V.at (zdq hd 6 rfl) rfl
     refine wp_load_mid 24 _ rfl _ 65 e6 _ _ ((B0.kx hX (by simp <;> omega)).drg) Try.underlying24 rfl (by rw [zl]; exact Try.size24) ?_
     exact hK _ _ _ rfl ⟨hB, hX, x1, q1, n1, V.step 7 rfl⟩
   · go_wp2_with fail
     exact hK _ (.pointer (some ⟨w.heap.size, 129, none⟩)) _ (by simp only [Act.put, pA, pB, pC ]) ⟨hB, hX, x1, q1, n1, V.step 8 rfl⟩
   · have e8 := V.at (zdq hd 8 rfl) rfl
     refine wp_load_mid 24 _ rfl _ 129 e8 _ _ ((B0.kx hX (by simp <;> omega)).drd) Try.underlying24 rfl (by rw [zl]; exact Try.size24) ?_
     exact hK _ _ _ rfl ⟨hB, hX, x1, q1, n1, V.step 9 rfl⟩
   · have e5 := V.at (zdq hd 5 rfl) rfl
     have e7 := V.at (zdq hd 7 rfl) rfl
     have e9 := V.at (zdq hd 9 rfl) rfl
     refine wp_build_of 26 _ rfl (zb 512 (fl 64 (tuF n m G D))) (by rw [Array.toList_map]; simp only [e5, e7, e9, Act.eval]; exact built_tu _ _ _) ?_
     exact hK _ _ _ rfl ⟨hB, hX, x1, q1, n1, V.step 10 rfl⟩
   · have e10 := V.at (zdq hd 10 rfl) rfl
     obtain ⟨gz, hk⟩ := x1
     refine zsb 26 _ _ rfl _ 512 (fl 64 (tuF n m G D)) rfl e10 26 gz hk Try.size26 ?_
     exact hK _ undef _ rfl ⟨zr hB (by omega) _, hX.row (by simp) _, ⟨_, hk.row _⟩, (fun h => absurd h (by simp [setL])), (fun _ => hk.row _), V.skip 11 rfl⟩
 · intro L v W2 hL ⟨hB, hX, x1, q1, n1, V⟩
   have r1 := n1 (hL 11 (by decide))
   have e0 := V.at (hL 0 (by decide)) rfl
   have e1 := V.at (hL 1 (by decide)) rfl
   have e2 := V.at (hL 2 (by decide)) rfl
   have e3 := V.at (hL 3 (by decide)) rfl
   have e4 := V.at (hL 4 (by decide)) rfl
   have e5 := V.at (hL 5 (by decide)) rfl
   have e6 := V.at (hL 6 (by decide)) rfl
   have e7 := V.at (hL 7 (by decide)) rfl
   have e8 := V.at (hL 8 (by decide)) rfl
   have e9 := V.at (hL 9 (by decide)) rfl
   have e10 := V.at (hL 10 (by decide)) rfl
   clear hL x1 q1 n1 V
   replace B0 := B0.kx hX (by simp <;> omega)
   clear hX
   simp only [Exit.then, e0, e1, e2, e3, e4, e5, e6, e7, e8, e9, e10]
   clear e0 e1 e2 e3 e4 e5 e6 e7 e8 e9 e10
   replace B1 := r1
   clear r1
   replace hb := hB
   clear hB
   clear hbase lt_B0 lt_B1
   go_wp2_with fail
   refine bodyPost_ret (results_any rfl _ _ _ 512 _ _ rfl B1 _ Try.underlying26 rfl Try.size26) rfl ⟨rfl, hb⟩
set_option maxRecDepth 100000 in
set_option maxHeartbeats 1600000 in
theorem turned_any (n : Nat) (m G D x : Nat → Nat) (bs bk : Nat) (w : World) (hpr : n = 2 ∨ n = 3 ∨ n = 5 ∨ n = 7) (lm : ∀ k, k < 64 → m k < n) (d : Nat) (hmon : mon m d) (hd1 : 1 ≤ d) (hd4 : d ≤ 4) (hi : irr n (cut m) d) (lG : ∀ k, k < 64 → G k < n) (lD : ∀ k, k < 64 → D k < n) (hx : rsd n m x) (hS : Blk w bs 512 26 (fl 64 (tuF n m G D))) (hK : Row w bk 96 (fdC (n : Int) m).toArray) :
 Calls Try.prog 219 #[.agg (zb 64 x), .pointer (some ⟨bs, 0, none⟩), .pointer (some ⟨bk, 0, none⟩)] w fun e w' => e = .returned (.agg (zb 64 (tuT n m d G D x))) ∧ Below w.heap.size w w' := by
 have hd := hmon.1
 have lF := tuF_lt (m := m) hpr lG lD
 have HVL := Lib.hid (fun W => skValue_any n m (tuF n m G D) x W hpr lm d hd hd1 (by omega) lF hx hi)
 unfold tuT
 clear lF
 go_enter Try.func219, Try.ntmps219
 go_upto_region 1 with (fail)
 rw [← z64]
 obtain ⟨W1, hwo⟩ : ∃ v : World, v = ((w.alloc (.cells (zb 64 (x)) 24)).alloc (.cells (zb 64 (fun _ => 0)) 24)) := ⟨_, rfl⟩
 have B0 : Blk W1 (w.heap.size) 64 24 (x) := by subst hwo; have := ((Blk.new w 64 24 (x)).alloc (.cells (zb 64 (fun _ => 0)) 24)); simpa using this
 have B1 : Blk W1 (w.heap.size + 1) 64 24 (fun _ => 0) := by subst hwo; have := (Blk.new (w.alloc (.cells (zb 64 (x)) 24)) 64 24 (fun _ => 0)); simpa using this
 have hb : Below w.heap.size w W1 := by subst hwo; exact (((Below.refl _ _).alloc (Nat.le_refl _) _).alloc (by simp) _)
 rw [← hwo]
 clear hwo
 have S1 := hS.zw hb
 have K1 := hK.zw hb
 clear hS hK
 have lt_B0 := B0.lt
 have lt_B1 := B1.lt
 go_wp2_with (first | rw [← z64] | (refine zla (.tmp 1) S1 Try.underlying26 Try.size26 ?_) | (refine zlr rfl 96 (.tmp 2) rfl _ rfl 96 (fdC (n : Int) m).toArray K1 _ Try.underlying96 rfl 65 Try.size96 (by simp [fdC_len]) ?_) | (refine zla (.tmp 3) B0 Try.underlying24 Try.size24 ?_) | (go_at_call 202; refine (HVL.out _).mono ?_; rintro e W2 ⟨rfl, hW2⟩; replace B0 := B0.zw hW2; replace B1 := B1.zw hW2; replace hb := (hb).trans (hW2.mono (hb).size)) | (refine zsr (.tmp 4) (.tmp 8) (vlR n m d (tuF n m G D) x 8) B1 Try.size24 ?_; try simp only [Act.put]))
 obtain ⟨W3, hwo, hzQ⟩ : ∃ v : World, v = (W2.setRow (w.heap.size + 1) (zb 64 (vlR n m d (tuF n m G D) x 8))) ∧ Blk v (w.heap.size) 64 24 (x) ∧ Blk v (w.heap.size + 1) 64 24 (vlR n m d (tuF n m G D) x 8) ∧ Below w.heap.size w v := ⟨_, rfl, (B0.rowOther (by omega)), (B1.row (vlR n m d (tuF n m G D) x 8)), (zr hb (by omega) _)⟩
 rw [← hwo]
 clear hwo B0 B1 hb
 obtain ⟨B0, B1, hb⟩ := hzQ
 try simp only [Act.put, pA, pB, pC]
 refine bodyPost_ret (zrb rfl _ _ _ 64 24 5 _ rfl B1 Try.underlying24 Try.size24) rfl ⟨rfl, hb⟩
set_option maxRecDepth 100000 in
set_option maxHeartbeats 1600000 in
theorem dmodule_any (n : Nat) (m G D : Nat → Nat) (w : World) (hpr : n = 2 ∨ n = 3 ∨ n = 5 ∨ n = 7) (lm : ∀ k, k < 64 → m k < n) (h0 : 0 ≤ deg m) :
 Calls Try.prog 153 #[.agg (drC (n : Int) m G D).toArray] w fun e w' => ∃ bs bk, e = .returned (.agg (moC (n : Int) (deg m) (.func (.func 219) #[] #[.pointer (some ⟨bs, 0, none⟩), .pointer (some ⟨bk, 0, none⟩)])).toArray) ∧ Blk w' bs 512 26 (fl 64 (tuF n m G D)) ∧ Row w' bk 96 (fdC (n : Int) m).toArray ∧ Below w.heap.size w w' := by
 have hmf : ∀ (fn : Fn) (first cap : Array Value) (w : World), (Instr.makeFunc fn first cap).run Try.prog w = .ok (.func fn first cap) w := fun _ _ _ _ => rfl
 have HFD := Lib.hid (fun W => drField_any (n : Int) m G D W)
 have HTU := Lib.hid (fun W => turn_any n m G D W hpr lm h0)
 go_enter Try.func153, Try.ntmps153
 go_upto_region 1 with (fail)
 obtain ⟨W1, hwo⟩ : ∃ v : World, v = ((w.alloc (.cells (drC (n : Int) m G D).toArray 58)).alloc (.cells ([.int .i64 0, .int .i64 0, .nilFunc]).toArray 118)) := ⟨_, rfl⟩
 have B0 : Row W1 (w.heap.size) 58 (drC (n : Int) m G D).toArray := by subst hwo; have := ((Row.new w 58 (drC (n : Int) m G D).toArray).alloc (.cells ([.int .i64 0, .int .i64 0, .nilFunc]).toArray 118)); simpa using this
 have B1 : Row W1 (w.heap.size + 1) 118 ([.int .i64 0, .int .i64 0, .nilFunc]).toArray := by subst hwo; have := (Row.new (w.alloc (.cells (drC (n : Int) m G D).toArray 58)) 118 ([.int .i64 0, .int .i64 0, .nilFunc]).toArray); simpa using this
 have hb : Below w.heap.size w W1 := by subst hwo; exact (((Below.refl _ _).alloc (Nat.le_refl _) _).alloc (by simp) _)
 rw [← hwo]
 clear hwo
 have lt_B0 : (w.heap.size) < W1.heap.size := B0.lt
 have lt_B1 : (w.heap.size + 1) < W1.heap.size := B1.lt
 refine zq Try.mixed (by kernel_rfl) (by kernel_rfl) (fun v => by (simp only [frL, Act.put, pA, pB, pC, Nat.reduceAdd, Nat.zero_add]; exact rfl))
  (fun L v W2 => Below W1.heap.size W1 W2 ∧ (L 4 = true → AR (v 4) W2 W1.heap.size 65 96) ∧ (L 5 = true → AF (v 5) W2 W1.heap.size 512 26) ∧ (L 6 = true → PR (v 4) W2 W1.heap.size 96 (fdC (n : Int) m).toArray) ∧ (L 7 = true → PF (v 5) W2 W1.heap.size 512 26 (fl 64 (tuF n m G D))) ∧ (L 4 = true → L 5 = true → v 4 ≠ v 5) ∧ VF L v [some (.agg (drC (n : Int) m G D).toArray), some (.agg (fdC (n : Int) m).toArray), some (.agg (drC (n : Int) m G D).toArray), some (.agg (zb 512 (fl 64 (tuF n m G D)))), none, none, none, none]) ?_ ?_ ?_
 · intro v hv0
   exact ⟨(Below.refl _ W1).drew, (fun h => by cases h), (fun h => by cases h), (fun h => by cases h), (fun h => by cases h), (fun h => by cases h), VF.start⟩
 · refine (.cons rfl ?_ (.cons rfl ?_ (.cons rfl ?_ (.cons rfl ?_ (.cons rfl ?_ (.cons rfl ?_ (.cons rfl ?_ (.cons rfl ?_ (.nil _)))))))))
   all_goals intro L v W2 hd hn ⟨hY, h4, h5, h6, h7, d4_5, V⟩ K hK
   · refine wp_load_rowv 58 _ rfl _ rfl 58 _ (B0.zw hY) _ Try.underlying58 rfl 193 Try.size58 (by simp [drC_len]) ?_
     exact hK _ _ _ rfl ⟨hY, h4, h5, h6, h7, d4_5, V.step 0 rfl⟩
   · have e0 := V.at (zdq hd 0 rfl) rfl
     go_wp2_with (go_at_call 146; refine (HFD.out _).mono ?_; rintro e wy ⟨rfl, hy⟩)
     exact hK _ (.agg (fdC (n : Int) m).toArray) _ (by simp only [Act.put, pA, pB, pC, e0]) ⟨hY.trans (hy.mono hY.size), (fun h => (h4 h).belowR hy), (fun h => (h5 h).below hy), (fun h => (h6 h).belowR hy), (fun h => (h7 h).below hy), d4_5, V.step 1 rfl⟩
   · refine wp_load_rowv 58 _ rfl _ rfl 58 _ (B0.zw hY) _ Try.underlying58 rfl 193 Try.size58 (by simp [drC_len]) ?_
     exact hK _ _ _ rfl ⟨hY, h4, h5, h6, h7, d4_5, V.step 2 rfl⟩
   · have e2 := V.at (zdq hd 2 rfl) rfl
     go_wp2_with (go_at_call 216; refine (HTU.out _).mono ?_; rintro e wy ⟨rfl, hy⟩)
     exact hK _ (.agg (zb 512 (fl 64 (tuF n m G D)))) _ (by simp only [Act.put, pA, pB, pC, e2]) ⟨hY.trans (hy.mono hY.size), (fun h => (h4 h).belowR hy), (fun h => (h5 h).below hy), (fun h => (h6 h).belowR hy), (fun h => (h7 h).below hy), d4_5, V.step 3 rfl⟩
   · go_wp2_with fail
     rw [← fdC_zero]
     exact hK _ (.pointer (some ⟨W2.heap.size, 0, none⟩)) _ (by simp only [Act.put, pA, pB, pC ]) ⟨hY.alloc hY.size _, (fun _ => (PR.newR W2 96 _ hY.size).ar (by simp [fdC_len])), (fun h => (h5 h).below (zal _ _)), (fun h => absurd rfl (hn 6 _ rfl h ⟨4, .data⟩ (by simp) rfl)), (fun h => (h7 h).below (zal _ _)), (fun h g1 => Ne.symm ((h5 g1).ne_new)), V.skip 4 rfl⟩
   · go_wp2_with fail
     rw [← zero512]
     exact hK _ (.pointer (some ⟨W2.heap.size, 0, none⟩)) _ (by simp only [Act.put, pA, pB, pC ]) ⟨hY.alloc hY.size _, (fun h => (h4 h).belowR (zal _ _)), (fun _ => (PF.new W2 512 26 _ hY.size).af), (fun h => (h6 h).belowR (zal _ _)), (fun h => absurd rfl (hn 7 _ rfl h ⟨5, .data⟩ (by simp) rfl)), (fun h g1 => (h4 h).ne_newR), V.skip 5 rfl⟩
   · have e1 := V.at (zdq hd 1 rfl) rfl
     obtain ⟨gz, b, ea, hN, hgz, hk⟩ := (h4 (zdq hd 4 rfl)).outR
     refine wp_store_rowv 96 _ _ rfl b ea (fdC (n : Int) m).toArray e1 96 gz hk 65 Try.size96 hgz (by simp [fdC_len]) (fdC_all _ _) ?_
     exact hK _ undef _ rfl ⟨zr hY hN _, (fun h => (h4 h).rowR hk _ (by simp [fdC_len])), (fun h => (h5 h).rowX hk (by decide) _), (fun _ => by rw [show updV v 6 undef 4 = v 4 from rfl, ea]; exact PR.rowR hk hN _), (fun h => (h7 h).rowOther (by rw [← ea]; exact (Ne.symm (d4_5 (zdq hd 4 rfl) (zdq hd 5 rfl))))), d4_5, V.skip 6 rfl⟩
   · have e3 := V.at (zdq hd 3 rfl) rfl
     obtain ⟨gz, b, ea, hN, hk⟩ := (h5 (zdq hd 5 rfl)).out
     refine zsb 26 _ _ rfl b 512 (fl 64 (tuF n m G D)) ea e3 26 gz hk Try.size26 ?_
     exact hK _ undef _ rfl ⟨zr hY hN _, (fun h => (h4 h).rowX hk (by decide) _), (fun h => (h5 h).row hk), (fun h => (h6 h).rowOtherR (by rw [← ea]; exact (d4_5 (zdq hd 4 rfl) (zdq hd 5 rfl)))), (fun _ => by rw [show updV v 7 undef 5 = v 5 from rfl, ea]; exact PF.row hk hN _), d4_5, V.skip 7 rfl⟩
 · intro L v W2 hL ⟨hY, h4, h5, h6, h7, d4_5, V⟩
   obtain ⟨k1_4, e4, hNk1_4, hk1_4⟩ := (h6 (hL 6 (by decide))).outR
   obtain ⟨k1_5, e5, hNk1_5, hk1_5⟩ := (h7 (hL 7 (by decide))).out
   have n4_5 := d4_5 (hL 4 (by decide)) (hL 5 (by decide))
   have e0 := V.at (hL 0 (by decide)) rfl
   have e1 := V.at (hL 1 (by decide)) rfl
   have e2 := V.at (hL 2 (by decide)) rfl
   have e3 := V.at (hL 3 (by decide)) rfl
   clear hL h4 h5 h6 h7 d4_5 V
   replace B0 := B0.zw hY
   replace B1 := B1.zw hY
   replace hb := hb.trans (hY.mono hb.size)
   clear hY
   rw [e4, e5] at n4_5
   have mk1_4_5 : k1_4 ≠ k1_5 := fun h => n4_5 (by rw [h])
   clear n4_5
   simp only [Exit.then, e4, e5, e0, e1, e2, e3]
   clear e4 e5 e0 e1 e2 e3
   have B2 := hk1_4
   clear hk1_4
   have zk1_4_0 : w.heap.size < k1_4 := by omega
   have zk1_4_1 : w.heap.size + 1 < k1_4 := by omega
   have B3 := hk1_5
   clear hk1_5
   have zk1_5_0 : w.heap.size < k1_5 := by omega
   have zk1_5_1 : w.heap.size + 1 < k1_5 := by omega
   clear lt_B0 lt_B1
   go_upto_region 2 with (fail)
   have lt_B0 : (w.heap.size) < W2.heap.size := B0.lt
   have lt_B1 : (w.heap.size + 1) < W2.heap.size := B1.lt
   have lt_B2 : (k1_4) < W2.heap.size := B2.lt
   have lt_B3 : (k1_5) < W2.heap.size := B3.lt
   have hbase : w.heap.size ≤ W2.heap.size := hb.size
   refine zq Try.mixed (by kernel_rfl) (by kernel_rfl) (fun v => by (simp only [frL, Act.put, pA, pB, pC, Nat.reduceAdd, Nat.zero_add]; exact rfl))
    (fun L v W3 => Below w.heap.size w W3 ∧ Kx [w.heap.size + 1] W2 W3 ∧ (∃ g : Array Value, g.size = 3 ∧ Row W3 (w.heap.size + 1) 118 (g)) ∧ (L 7 = false → Row W3 (w.heap.size + 1) 118 (([.int .i64 0, .int .i64 0, .nilFunc]).toArray)) ∧ (L 7 = true → Row W3 (w.heap.size + 1) 118 ((moC (n : Int) (deg m) (.func (.func 219) #[] #[.pointer (some ⟨k1_5, 0, none⟩), .pointer (some ⟨k1_4, 0, none⟩)])).toArray)) ∧ VF L v [some (.pointer (some ⟨k1_4, 0, none⟩)), some (.int .i64 (n : Int)), some (.pointer (some ⟨k1_4, 1, none⟩)), some (.agg (zb 64 (m))), some (.int .i64 (deg m)), some (.func (.func 219) #[] #[.pointer (some ⟨k1_5, 0, none⟩), .pointer (some ⟨k1_4, 0, none⟩)]), some (.agg (moC (n : Int) (deg m) (.func (.func 219) #[] #[.pointer (some ⟨k1_5, 0, none⟩), .pointer (some ⟨k1_4, 0, none⟩)])).toArray), none]) ?_ ?_ ?_
   · intro v hv0
     exact ⟨hb.drew, Kx.start _ _, ⟨_, by simp [moC_len], B1.drew⟩, (fun _ => B1.drew), (fun h => by cases h), VF.start⟩
   · refine (.cons rfl ?_ (.cons rfl ?_ (.cons rfl ?_ (.cons rfl ?_ (.cons rfl ?_ (.cons rfl ?_ (.cons rfl ?_ (.cons rfl ?_ (.nil _)))))))))
     all_goals intro L v W3 hd hn ⟨hB, hX, x1, q1, n1, V⟩ K hK
     · go_wp2_with fail
       exact hK _ (.pointer (some ⟨k1_4, 0, none⟩)) _ (by simp only [Act.put, pA, pB, pC ]) ⟨hB, hX, x1, q1, n1, V.step 0 rfl⟩
     · have e0 := V.at (zdq hd 0 rfl) rfl
       refine wp_load_rowc 2 _ rfl _ 0 e0 96 _ (B2.kx hX (by simp <;> omega)) (.int .i64 (n : Int)) (fdC_at _ _) _ Try.underlying2 rfl ?_
       exact hK _ _ _ rfl ⟨hB, hX, x1, q1, n1, V.step 1 rfl⟩
     · go_wp2_with fail
       exact hK _ (.pointer (some ⟨k1_4, 1, none⟩)) _ (by simp only [Act.put, pA, pB, pC ]) ⟨hB, hX, x1, q1, n1, V.step 2 rfl⟩
     · have e2 := V.at (zdq hd 2 rfl) rfl
       refine wp_load_mid 24 _ rfl _ 1 e2 _ _ ((B2.kx hX (by simp <;> omega)).fd) Try.underlying24 rfl (by rw [zl]; exact Try.size24) ?_
       exact hK _ _ _ rfl ⟨hB, hX, x1, q1, n1, V.step 3 rfl⟩
     · have e3 := V.at (zdq hd 3 rfl) rfl
       go_wp2_with (go_at_call 150; refine (degree_any m _).mono ?_; rintro e wy ⟨rfl, hy⟩)
       exact hK _ (.int .i64 (deg m)) _ (by simp only [Act.put, pA, pB, pC, e3]) ⟨hB.trans (hy.mono hB.size), hX.below hy, (let ⟨g, hg, h⟩ := x1; ⟨g, hg, h.zw hy⟩), (fun h => (q1 h).below hy (q1 h).lt), (fun h => (n1 h).below hy (n1 h).lt), V.step 4 rfl⟩
     · go_wp2_with fail
       exact hK _ (.func (.func 219) #[] #[.pointer (some ⟨k1_5, 0, none⟩), .pointer (some ⟨k1_4, 0, none⟩)]) _ (by simp only [Act.put, pA, pB, pC ]) ⟨hB, hX, x1, q1, n1, V.step 5 rfl⟩
     · have e1 := V.at (zdq hd 1 rfl) rfl
       have e4 := V.at (zdq hd 4 rfl) rfl
       have e5 := V.at (zdq hd 5 rfl) rfl
       refine wp_build_of 118 _ rfl (moC (n : Int) (deg m) (.func (.func 219) #[] #[.pointer (some ⟨k1_5, 0, none⟩), .pointer (some ⟨k1_4, 0, none⟩)])).toArray (by rw [Array.toList_map]; simp only [e1, e4, e5, Act.eval]; exact built_mo _ _ _ _ _) ?_
       exact hK _ _ _ rfl ⟨hB, hX, x1, q1, n1, V.step 6 rfl⟩
     · have e6 := V.at (zdq hd 6 rfl) rfl
       obtain ⟨gz, hgz, hk⟩ := x1
       refine wp_store_rowv 118 _ _ rfl _ rfl ((moC (n : Int) (deg m) (.func (.func 219) #[] #[.pointer (some ⟨k1_5, 0, none⟩), .pointer (some ⟨k1_4, 0, none⟩)])).toArray) e6 118 gz hk 3 Try.size118 hgz (by simp [moC_len]) (moC_all _ _ _ rfl) ?_
       exact hK _ undef _ rfl ⟨zr hB (by omega) _, hX.row (by simp) _, ⟨_, by simp [moC_len], hk.row _⟩, (fun h => absurd h (by simp [setL])), (fun _ => hk.row _), V.skip 7 rfl⟩
   · intro L v W3 hL ⟨hB, hX, x1, q1, n1, V⟩
     have r1 := n1 (hL 7 (by decide))
     have e0 := V.at (hL 0 (by decide)) rfl
     have e1 := V.at (hL 1 (by decide)) rfl
     have e2 := V.at (hL 2 (by decide)) rfl
     have e3 := V.at (hL 3 (by decide)) rfl
     have e4 := V.at (hL 4 (by decide)) rfl
     have e5 := V.at (hL 5 (by decide)) rfl
     have e6 := V.at (hL 6 (by decide)) rfl
     clear hL x1 q1 n1 V
     replace B0 := B0.kx hX (by simp <;> omega)
     replace B2 := B2.kx hX (by simp <;> omega)
     replace B3 := B3.kx hX (by simp <;> omega)
     clear hX
     simp only [Exit.then, e0, e1, e2, e3, e4, e5, e6]
     clear e0 e1 e2 e3 e4 e5 e6
     replace B1 := r1
     clear r1
     replace hb := hB
     clear hB
     clear hbase lt_B0 lt_B1 lt_B2 lt_B3
     go_wp2_with fail
     refine bodyPost_ret (results_row rfl _ _ _ _ _ rfl B1 _ Try.underlying118 rfl (by rw [Try.size118]; rfl)) rfl ⟨_, _, rfl, B3, B2, hb⟩
attribute [local irreducible] hoG sgG tuT
set_option maxRecDepth 100000 in
set_option maxHeartbeats 1600000 in
theorem gact_any (p : Nat) (m G D a f : Nat → Nat) (bs bk : Nat) (w : World) (la : ∀ k, k < 64 → a k < p) (hpr : p = 2 ∨ p = 3 ∨ p = 5 ∨ p = 7) (lm : ∀ k, k < 64 → m k < p) (d : Nat) (hmon : mon m d) (hd1 : 1 ≤ d) (hd4 : d ≤ 4) (hi : irr p (cut m) d) (lG : ∀ k, k < 64 → G k < p) (lD : ∀ k, k < 64 → D k < p) (hx : rsd p m f) (hS : Blk w bs 512 26 (fl 64 (tuF p m G D))) (hK : Row w bk 96 (fdC (p : Int) m).toArray) :
 Calls Try.prog 120 #[.agg (moC (p : Int) (deg m) (.func (.func 219) #[] #[.pointer (some ⟨bs, 0, none⟩), .pointer (some ⟨bk, 0, none⟩)])).toArray, .agg (zb 64 a), .agg (zb 64 f)] w fun e w' => e = .returned (.agg (zb 64 (sgG (tuT p m d G D) p a f (deg a + 1).toNat))) ∧ Below w.heap.size w w' := by
 have p0 : 0 < p := by omega
 have p2 : 2 ≤ p := by omega
 have p7 : p ≤ 7 := by omega
 have h0 : 0 ≤ deg m := by rw [hmon.1]; omega
 obtain ⟨gb1, gb2⟩ := zdb a
 obtain ⟨NN, hNN⟩ : ∃ NN : Nat, deg a = (NN : Int) - 1 := ⟨(deg a + 1).toNat, by omega⟩
 have HD := Lib.hid hNN
 have hN6 : NN ≤ 64 := by omega
 have HT := Lib.hid (show (deg a + 1).toNat = NN by omega)
 have HST := Lib.hid (fun (x : Nat → Nat) (hx : rsd p m x) W (hW : Below w.heap.size w W) => turned_any p m G D x bs bk W hpr lm d hmon hd1 hd4 hi lG lD hx (hS.zw hW) (hK.zw hW))
 have HTK := Lib.hid (fun (x : Nat → Nat) (hx : rsd p m x) => (tuT_ok hpr lm hmon hi (show d ≤ 9 by omega) (G := G) (D := D) hx).1)
 have HH := Lib.hid (fun j (hj : j ≤ NN - 1 + 1) => (hoG_ok hpr h0 (T := tuT p m d G D) (fun y hy => tuT_ok hpr lm hmon hi (show d ≤ 9 by omega) (G := G) (D := D) hy) (a := a) (n := NN - 1) hx j hj).1)
 have HV := Lib.hid (show zb 64 (hoG (tuT p m d G D) p a f (NN - 1) NN) = zb 64 (sgG (tuT p m d G D) p a f NN) from by
  rcases Nat.eq_zero_or_pos NN with h | h
  · subst h; unfold hoG sgG; rfl
  · have := zbc (tu_act hpr lm hmon hi (show d ≤ 9 by omega) (G := G) (D := D) (a := a) hx (NN - 1))
    rw [show NN - 1 + 1 = NN by omega] at this; exact this)
 have HHS := Lib.hid (show ∀ j, hoG (tuT p m d G D) p a f (NN - 1) (j + 1) = addK p (tuT p m d G D (hoG (tuT p m d G D) p a f (NN - 1) j)) (sclP p f (a (NN - 1 - j))) 1 from fun j => by rw [hoG])
 have HZ := Lib.hid (show hoG (tuT p m d G D) p a f (NN - 1) 0 = fun _ => 0 by unfold hoG; rfl)
 have lf := hx.1
 clear hNN hS hK hx hi hmon lG lD
 go_enter Try.func120, Try.ntmps120
 go_upto_region 1 with (fail)
 rw [← z64]
 obtain ⟨W1, hwo⟩ : ∃ v : World, v = ((((w.alloc (.cells (moC (p : Int) (deg m) (.func (.func 219) #[] #[.pointer (some ⟨bs, 0, none⟩), .pointer (some ⟨bk, 0, none⟩)])).toArray 118)).alloc (.cells (zb 64 (a)) 24)).alloc (.cells (zb 64 (f)) 24)).alloc (.cells (zb 64 (fun _ => 0)) 24)) := ⟨_, rfl⟩
 have B0 : Row W1 (w.heap.size) 118 (moC (p : Int) (deg m) (.func (.func 219) #[] #[.pointer (some ⟨bs, 0, none⟩), .pointer (some ⟨bk, 0, none⟩)])).toArray := by subst hwo; have := ((((Row.new w 118 (moC (p : Int) (deg m) (.func (.func 219) #[] #[.pointer (some ⟨bs, 0, none⟩), .pointer (some ⟨bk, 0, none⟩)])).toArray).alloc (.cells (zb 64 (a)) 24)).alloc (.cells (zb 64 (f)) 24)).alloc (.cells (zb 64 (fun _ => 0)) 24)); simpa using this
 have B1 : Blk W1 (w.heap.size + 1) 64 24 (a) := by subst hwo; have := (((Blk.new (w.alloc (.cells (moC (p : Int) (deg m) (.func (.func 219) #[] #[.pointer (some ⟨bs, 0, none⟩), .pointer (some ⟨bk, 0, none⟩)])).toArray 118)) 64 24 (a)).alloc (.cells (zb 64 (f)) 24)).alloc (.cells (zb 64 (fun _ => 0)) 24)); simpa using this
 have B2 : Blk W1 (w.heap.size + 1 + 1) 64 24 (f) := by subst hwo; have := ((Blk.new ((w.alloc (.cells (moC (p : Int) (deg m) (.func (.func 219) #[] #[.pointer (some ⟨bs, 0, none⟩), .pointer (some ⟨bk, 0, none⟩)])).toArray 118)).alloc (.cells (zb 64 (a)) 24)) 64 24 (f)).alloc (.cells (zb 64 (fun _ => 0)) 24)); simpa using this
 have B3 : Blk W1 (w.heap.size + 1 + 1 + 1) 64 24 (fun _ => 0) := by subst hwo; have := (Blk.new (((w.alloc (.cells (moC (p : Int) (deg m) (.func (.func 219) #[] #[.pointer (some ⟨bs, 0, none⟩), .pointer (some ⟨bk, 0, none⟩)])).toArray 118)).alloc (.cells (zb 64 (a)) 24)).alloc (.cells (zb 64 (f)) 24)) 64 24 (fun _ => 0)); simpa using this
 have hb : Below w.heap.size w W1 := by subst hwo; exact (((((Below.refl _ _).alloc (Nat.le_refl _) _).alloc (by simp) _).alloc (by simp; omega) _).alloc (by simp; omega) _)
 rw [← hwo]
 clear hwo
 go_upto_region 2 with (first | rw [← z64])
 have lt_B0 := B0.lt
 have lt_B1 := B1.lt
 have lt_B2 := B2.lt
 have lt_B3 := B3.lt
 have lhb := hb.size
 obtain ⟨W2, hwo, hzQ⟩ : ∃ v : World, v = (W1.alloc (.cells (zb 64 (fun _ => 0)) 24)) ∧ Row v (w.heap.size) 118 (moC (p : Int) (deg m) (.func (.func 219) #[] #[.pointer (some ⟨bs, 0, none⟩), .pointer (some ⟨bk, 0, none⟩)])).toArray ∧ Blk v (w.heap.size + 1) 64 24 (a) ∧ Blk v (w.heap.size + 1 + 1) 64 24 (f) ∧ Blk v (w.heap.size + 1 + 1 + 1) 64 24 (fun _ => 0) ∧ Blk v (W1.heap.size) 64 24 (fun _ => 0) ∧ Below w.heap.size w v := ⟨_, rfl, (B0.alloc (.cells (zb 64 (fun _ => 0)) 24)), (B1.alloc (.cells (zb 64 (fun _ => 0)) 24)), (B2.alloc (.cells (zb 64 (fun _ => 0)) 24)), (B3.alloc (.cells (zb 64 (fun _ => 0)) 24)), (Blk.new W1 64 24 (fun _ => 0)), (hb.alloc (by have := hb.size; simp; omega) (.cells (zb 64 (fun _ => 0)) 24))⟩
 rw [← hwo]
 clear hwo B0 B1 B2 B3 hb
 obtain ⟨B0, B1, B2, B3, B4, hb⟩ := hzQ
 obtain ⟨N1, hNN⟩ : ∃ n : Nat, n = W1.heap.size := ⟨_, rfl⟩
 rw [← hNN] at lt_B0 lt_B1 lt_B2 lt_B3 lhb B4 ⊢
 clear hNN
 have zN1_0 := lt_B0
 have zN1_1 := lt_B1
 have zN1_2 := lt_B2
 have zN1_3 := lt_B3
 have zN1 := lhb
 clear lt_B0 lt_B1 lt_B2 lt_B3 lhb
 try simp only [Act.put, pA, pB, pC]
 go_upto_region 99 with (first | (refine zla (.tmp 4) B1 Try.underlying24 Try.size24 ?_) | (go_at_call 150; refine (degree_any a _).mono ?_; rintro e W3 ⟨rfl, hW3⟩; replace B0 := B0.zw hW3; replace B1 := B1.zw hW3; replace B2 := B2.zw hW3; replace B3 := B3.zw hW3; replace B4 := B4.zw hW3; replace hb := (hb).trans (hW3.mono (hb).size); rw [HD.out]))
 go_loopw [8] (fun i wr => ∃ q j : Nat, Hid (q + j = NN) ∧ i = .int .i64 ((q : Int) - 1) ∧ Below w.heap.size w wr ∧ Row wr (w.heap.size) 118 (moC (p : Int) (deg m) (.func (.func 219) #[] #[.pointer (some ⟨bs, 0, none⟩), .pointer (some ⟨bk, 0, none⟩)])).toArray ∧ Blk wr (w.heap.size + 1) 64 24 a ∧ Blk wr (w.heap.size + 1 + 1) 64 24 f ∧ Blk wr (w.heap.size + 1 + 1 + 1) 64 24 (fun _ => 0) ∧ Blk wr (N1) 64 24 (hoG (tuT p m d G D) p a f (NN - 1) j)) (fun i _ => (intOf i + 1).toNat)
 case atStart => exact ⟨NN, 0, Lib.hid (by omega), rfl, hb, B0, B1, B2, B3, by rw [HZ.out]; exact B4⟩
 case round =>
  clear hb B0 B1 B2 B3 B4
  obtain ⟨q, j, hqj, rfl, hb, B0, B1, B2, B3, B4⟩ := hrel
  by_cases hq0 : q = 0
  · subst hq0
    have ej : j = NN := by have := hqj.out; omega
    rw [ej] at B4
    clear hqj ej
    go_upto_region 6 with (fail)
    have lt_B0 := B0.lt
    have lt_B1 := B1.lt
    have lt_B2 := B2.lt
    have lt_B3 := B3.lt
    have lt_B4 := B4.lt
    go_wp2_with (first | rw [← z64] | (refine zla (.tmp 7) B4 Try.underlying24 Try.size24 ?_) | (refine zsr (.tmp 6) (.tmp 29) (hoG (tuT p m d G D) p a f (NN - 1) NN) B3 Try.size24 ?_; try simp only [Act.put]))
    obtain ⟨W4, hwo, hzQ⟩ : ∃ v : World, v = (wr.setRow (w.heap.size + 1 + 1 + 1) (zb 64 (hoG (tuT p m d G D) p a f (NN - 1) NN))) ∧ Row v (w.heap.size) 118 (moC (p : Int) (deg m) (.func (.func 219) #[] #[.pointer (some ⟨bs, 0, none⟩), .pointer (some ⟨bk, 0, none⟩)])).toArray ∧ Blk v (w.heap.size + 1) 64 24 (a) ∧ Blk v (w.heap.size + 1 + 1) 64 24 (f) ∧ Blk v (w.heap.size + 1 + 1 + 1) 64 24 (hoG (tuT p m d G D) p a f (NN - 1) NN) ∧ Blk v (N1) 64 24 (hoG (tuT p m d G D) p a f (NN - 1) NN) ∧ Below w.heap.size w v := ⟨_, rfl, (B0.rowOther (by omega)), (B1.rowOther (by omega)), (B2.rowOther (by omega)), (B3.row (hoG (tuT p m d G D) p a f (NN - 1) NN)), (B4.rowOther (by omega)), (zr hb (by omega) _)⟩
    rw [← hwo]
    clear hwo B0 B1 B2 B3 B4 hb
    obtain ⟨B0, B1, B2, B3, B4, hb⟩ := hzQ
    try simp only [Act.put, pA, pB, pC]
    refine bodyPost_ret (zrb rfl _ _ _ 64 24 5 _ rfl B3 Try.underlying24 Try.size24) rfl ⟨by rw [HV.out, HT.out], hb⟩
  · obtain ⟨q, rfl⟩ : ∃ t, q = t + 1 := ⟨q - 1, by omega⟩
    rw [show ((q + 1 : Nat) : Int) - 1 = (q : Int) by omega]
    have hq6 : q < 64 := by have := hqj.out; omega
    have s1 := HH.out j (by have := hqj.out; omega)
    have r1 := HTK.out _ s1
    have laq := la q hq6
    obtain ⟨C, hC⟩ : ∃ C, C = a q := ⟨_, rfl⟩
    rw [← hC] at laq
    have HC := Lib.hid hC
    have HS1 := Lib.hid (fun W hW => HST.out (hoG (tuT p m d G D) p a f (NN - 1) j) s1 W hW)
    have HSC := Lib.hid (fun W => scaled_any p f C W p2 p7 lf laq)
    have HSU := Lib.hid (show ∀ W, Calls Try.prog 177 #[.int .i64 (p : Int), .agg (zb 64 (tuT p m d G D (hoG (tuT p m d G D) p a f (NN - 1) j))), .agg (zb 64 (sclP p f C))] W fun e w' => e = .returned (.agg (zb 64 (hoG (tuT p m d G D) p a f (NN - 1) (j + 1)))) ∧ Below W.heap.size W w' from fun W => by
     have e : hoG (tuT p m d G D) p a f (NN - 1) (j + 1) = fun i => (tuT p m d G D (hoG (tuT p m d G D) p a f (NN - 1) j) i + sclP p f C i) % p := by rw [HHS.out, addK_one, HC.out, show NN - 1 - j = q by have := hqj.out; omega]
     rw [e]; exact sum_any p _ _ W p2 p7 r1.1 (fun k _ => Nat.mod_lt _ p0))
    clear hC s1 r1
    go_upto_region 5 with (fail)
    have lt_B0 : (w.heap.size) < wr.heap.size := B0.lt
    have lt_B1 : (w.heap.size + 1) < wr.heap.size := B1.lt
    have lt_B2 : (w.heap.size + 1 + 1) < wr.heap.size := B2.lt
    have lt_B3 : (w.heap.size + 1 + 1 + 1) < wr.heap.size := B3.lt
    have lt_B4 : (N1) < wr.heap.size := B4.lt
    have hbase : w.heap.size ≤ wr.heap.size := hb.size
    refine zq Try.mixed (by kernel_rfl) (by kernel_rfl) (fun v => by (simp only [frL, Act.put, pA, pB, pC, Nat.reduceAdd, Nat.zero_add]; exact rfl))
     (fun L v W4 => Below w.heap.size w W4 ∧ Kx [N1] wr W4 ∧ (∃ g, Blk W4 (N1) 64 24 (g)) ∧ (L 14 = false → Blk W4 (N1) 64 24 (hoG (tuT p m d G D) p a f (NN - 1) j)) ∧ (L 14 = true → Blk W4 (N1) 64 24 (hoG (tuT p m d G D) p a f (NN - 1) (j + 1))) ∧ VF L v [some (.pointer (some ⟨w.heap.size, 0, none⟩)), some (.int .i64 (p : Int)), some (.pointer (some ⟨w.heap.size, 2, none⟩)), some (.func (.func 219) #[] #[.pointer (some ⟨bs, 0, none⟩), .pointer (some ⟨bk, 0, none⟩)]), some (.agg (zb 64 (hoG (tuT p m d G D) p a f (NN - 1) j))), some (.agg (zb 64 (tuT p m d G D (hoG (tuT p m d G D) p a f (NN - 1) j)))), some (.pointer (some ⟨w.heap.size, 0, none⟩)), some (.int .i64 (p : Int)), some (.agg (zb 64 (f))), some (.int .i64 (q : Int)), some (.pointer (some ⟨w.heap.size + 1, q, none⟩)), some (.int .u8 (C : Int)), some (.agg (zb 64 (sclP p f C))), some (.agg (zb 64 (hoG (tuT p m d G D) p a f (NN - 1) (j + 1)))), none]) ?_ ?_ ?_
    · intro v hv0
      exact ⟨hb.drew, Kx.start _ _, ⟨_, B4.drew⟩, (fun _ => B4.drew), (fun h => by cases h), VF.start⟩
    · refine (.cons rfl ?_ (.cons rfl ?_ (.cons rfl ?_ (.cons rfl ?_ (.cons rfl ?_ (.cons rfl ?_ (.cons rfl ?_ (.cons rfl ?_ (.cons rfl ?_ (.cons rfl ?_ (.cons rfl ?_ (.cons rfl ?_ (.cons rfl ?_ (.cons rfl ?_ (.cons rfl ?_ (.nil _))))))))))))))))
      all_goals intro L v W4 hd hn ⟨hB, hX, x4, q4, n4, V⟩ K hK
      · go_wp2_with fail
        exact hK _ (.pointer (some ⟨w.heap.size, 0, none⟩)) _ (by simp only [Act.put, pA, pB, pC ]) ⟨hB, hX, x4, q4, n4, V.step 0 rfl⟩
      · have e0 := V.at (zdq hd 0 rfl) rfl
        refine wp_load_rowc 2 _ rfl _ 0 e0 118 _ (B0.kx hX (by simp <;> omega)) (.int .i64 (p : Int)) (moC_at _ _ _) _ Try.underlying2 rfl ?_
        exact hK _ _ _ rfl ⟨hB, hX, x4, q4, n4, V.step 1 rfl⟩
      · go_wp2_with fail
        exact hK _ (.pointer (some ⟨w.heap.size, 2, none⟩)) _ (by simp only [Act.put, pA, pB, pC ]) ⟨hB, hX, x4, q4, n4, V.step 2 rfl⟩
      · have e2 := V.at (zdq hd 2 rfl) rfl
        refine wp_load_rowc 116 _ rfl _ 2 e2 118 _ (B0.kx hX (by simp <;> omega)) (.func (.func 219) #[] #[.pointer (some ⟨bs, 0, none⟩), .pointer (some ⟨bk, 0, none⟩)]) (moC_at2 _ _ _) _ Try.underlying116 rfl ?_
        exact hK _ _ _ rfl ⟨hB, hX, x4, q4, n4, V.step 3 rfl⟩
      · have s4 := q4 (by
         cases hL : L 14 with
         | false => rfl
         | true => exact absurd rfl (hn 14 _ rfl hL ⟨4, .phase⟩ (by simp) rfl))
        refine zlc s4 Try.underlying24 Try.size24 ?_
        exact hK _ _ _ rfl ⟨hB, hX, x4, q4, n4, V.step 4 rfl⟩
      · have e3 := V.at (zdq hd 3 rfl) rfl
        have e4 := V.at (zdq hd 4 rfl) rfl
        go_wp2_with (go_at_call 219; refine (HS1.out _ hB).mono ?_; rintro e wy ⟨rfl, hy⟩)
        exact hK _ (.agg (zb 64 (tuT p m d G D (hoG (tuT p m d G D) p a f (NN - 1) j)))) _ (by simp only [Act.put, pA, pB, pC, e3, e4]) ⟨hB.trans (hy.mono hB.size), hX.below hy, (let ⟨g, h⟩ := x4; ⟨g, h.zw hy⟩), (fun h => (q4 h).below hy (q4 h).lt), (fun h => (n4 h).below hy (n4 h).lt), V.step 5 rfl⟩
      · go_wp2_with fail
        exact hK _ (.pointer (some ⟨w.heap.size, 0, none⟩)) _ (by simp only [Act.put, pA, pB, pC ]) ⟨hB, hX, x4, q4, n4, V.step 6 rfl⟩
      · have e6 := V.at (zdq hd 6 rfl) rfl
        refine wp_load_rowc 2 _ rfl _ 0 e6 118 _ (B0.kx hX (by simp <;> omega)) (.int .i64 (p : Int)) (moC_at _ _ _) _ Try.underlying2 rfl ?_
        exact hK _ _ _ rfl ⟨hB, hX, x4, q4, n4, V.step 7 rfl⟩
      · refine wp_load_any 24 _ rfl _ rfl 64 24 _ (B2.kx hX (by simp <;> omega)) _ Try.underlying24 rfl Try.size24 ?_
        exact hK _ _ _ rfl ⟨hB, hX, x4, q4, n4, V.step 8 rfl⟩
      · go_wp2_with fail
        exact hK _ (.int .i64 (q : Int)) _ (by simp only [Act.put, pA, pB, pC ]) ⟨hB, hX, x4, q4, n4, V.step 9 rfl⟩
      · have e9 := V.at (zdq hd 9 rfl) rfl
        go_wp2_with fail
        exact hK _ (.pointer (some ⟨w.heap.size + 1, q, none⟩)) _ (by simp only [Act.put, pA, pB, pC, e9]) ⟨hB, hX, x4, q4, n4, V.step 10 rfl⟩
      · have e10 := V.at (zdq hd 10 rfl) rfl
        have cc := (B1.kx hX (by simp <;> omega)).cell (i := q) hq6
        rw [← HC.out] at cc
        go_wp2_with fail
        exact hK _ (.int .u8 (C : Int)) _ (by simp only [Act.put, pA, pB, pC, e10]) ⟨hB, hX, x4, q4, n4, V.step 11 rfl⟩
      · have e7 := V.at (zdq hd 7 rfl) rfl
        have e8 := V.at (zdq hd 8 rfl) rfl
        have e11 := V.at (zdq hd 11 rfl) rfl
        go_wp2_with (go_at_call 178; refine (HSC.out _).mono ?_; rintro e wy ⟨rfl, hy⟩)
        exact hK _ (.agg (zb 64 (sclP p f C))) _ (by simp only [Act.put, pA, pB, pC, e7, e8, e11]) ⟨hB.trans (hy.mono hB.size), hX.below hy, (let ⟨g, h⟩ := x4; ⟨g, h.zw hy⟩), (fun h => (q4 h).below hy (q4 h).lt), (fun h => (n4 h).below hy (n4 h).lt), V.step 12 rfl⟩
      · have e1 := V.at (zdq hd 1 rfl) rfl
        have e5 := V.at (zdq hd 5 rfl) rfl
        have e12 := V.at (zdq hd 12 rfl) rfl
        go_wp2_with (go_at_call 177; refine (HSU.out _).mono ?_; rintro e wy ⟨rfl, hy⟩)
        exact hK _ (.agg (zb 64 (hoG (tuT p m d G D) p a f (NN - 1) (j + 1)))) _ (by simp only [Act.put, pA, pB, pC, e1, e5, e12]) ⟨hB.trans (hy.mono hB.size), hX.below hy, (let ⟨g, h⟩ := x4; ⟨g, h.zw hy⟩), (fun h => (q4 h).below hy (q4 h).lt), (fun h => (n4 h).below hy (n4 h).lt), V.step 13 rfl⟩
      · have e13 := V.at (zdq hd 13 rfl) rfl
        obtain ⟨gz, hk⟩ := x4
        refine zsb 24 _ _ rfl _ 64 (hoG (tuT p m d G D) p a f (NN - 1) (j + 1)) rfl e13 24 gz hk Try.size24 ?_
        exact hK _ undef _ rfl ⟨zr hB (by omega) _, hX.row (by simp) _, ⟨_, hk.row _⟩, (fun h => absurd h (by simp [setL])), (fun _ => hk.row _), V.skip 14 rfl⟩
    · intro L v W4 hL ⟨hB, hX, x4, q4, n4, V⟩
      have r4 := n4 (hL 14 (by decide))
      have e0 := V.at (hL 0 (by decide)) rfl
      have e1 := V.at (hL 1 (by decide)) rfl
      have e2 := V.at (hL 2 (by decide)) rfl
      have e3 := V.at (hL 3 (by decide)) rfl
      have e4 := V.at (hL 4 (by decide)) rfl
      have e5 := V.at (hL 5 (by decide)) rfl
      have e6 := V.at (hL 6 (by decide)) rfl
      have e7 := V.at (hL 7 (by decide)) rfl
      have e8 := V.at (hL 8 (by decide)) rfl
      have e9 := V.at (hL 9 (by decide)) rfl
      have e10 := V.at (hL 10 (by decide)) rfl
      have e11 := V.at (hL 11 (by decide)) rfl
      have e12 := V.at (hL 12 (by decide)) rfl
      have e13 := V.at (hL 13 (by decide)) rfl
      clear hL x4 q4 n4 V
      replace B0 := B0.kx hX (by simp <;> omega)
      replace B1 := B1.kx hX (by simp <;> omega)
      replace B2 := B2.kx hX (by simp <;> omega)
      replace B3 := B3.kx hX (by simp <;> omega)
      clear hX
      simp only [Exit.then, e0, e1, e2, e3, e4, e5, e6, e7, e8, e9, e10, e11, e12, e13]
      clear e0 e1 e2 e3 e4 e5 e6 e7 e8 e9 e10 e11 e12 e13
      replace B4 := r4
      clear r4
      replace hb := hB
      clear hB
      clear hbase lt_B0 lt_B1 lt_B2 lt_B3 lt_B4
      go_wp2_with fail
      go_roundw
      case rel => exact ⟨q, j + 1, Lib.hid (by have := hqj.out; omega), rfl, hb, B0, B1, B2, B3, B4⟩
      case measure => simp [intOf] <;> omega
attribute [local irreducible] poG
set_option maxRecDepth 100000 in
set_option maxHeartbeats 6400000 in
theorem l06Value_any (p : Nat) (m G D a f : Nat → Nat) (w : World) (la : ∀ k, k < 64 → a k < p) (lf : ∀ k, k < 64 → f k < p) (hpr : p = 2 ∨ p = 3 ∨ p = 5 ∨ p = 7) (lm : ∀ k, k < 64 → m k < p) (d : Nat) (hmon : mon m d) (hd1 : 1 ≤ d) (hd4 : d ≤ 4) (hi : irr p (cut m) d) (lG : ∀ k, k < 64 → G k < p) (lD : ∀ k, k < 64 → D k < p) :
 Calls Try.prog 152 #[.agg (drC (p : Int) m G D).toArray, .agg (zb 64 a), .agg (zb 64 f)] w fun e w' => e = .returned (.agg (zb 64 (sgG (tuT p m d G D) p a (resP p f m) (deg a + 1).toNat))) ∧ Below w.heap.size w w' := by
 have p0 : 0 < p := by omega
 have p2 : 2 ≤ p := by omega
 have p7 : p ≤ 7 := by omega
 have hd := hmon.1
 have h0 : 0 ≤ deg m := by rw [hmon.1]; omega
 have h9 : deg m ≤ 9 := by omega
 obtain ⟨gb1, gb2⟩ := zdb a
 obtain ⟨NN, hNN⟩ : ∃ NN : Nat, deg a = (NN : Int) - 1 := ⟨(deg a + 1).toNat, by omega⟩
 have HD := Lib.hid hNN
 have hN6 : NN ≤ 64 := by omega
 have HT := Lib.hid (show (deg a + 1).toNat = NN by omega)
 have hx : rsd p m (resP p f m) := ⟨resP_lt p0 lf, (resP_deg hpr lf lm h0).1⟩
 have lT : ∀ k, k < 64 → resP p TP m k < p := resP_lt p0 (fun k _ => TP_lt (by omega) k)
 have HMO := Lib.hid (fun W => l01Mod_any p f m W hpr lf lm h0)
 have HMT := Lib.hid (fun W => l01Mod_any p TP m W hpr (fun k _ => TP_lt (by omega) k) lm h0)
 have HSS := Lib.hid (fun j => (sgG_ok hpr h0 (T := tuT p m d G D) (fun y hy => tuT_ok hpr lm hmon hi (show d ≤ 9 by omega) (G := G) (D := D) hy) (a := a) hx j).1)
 have HNN := Lib.hid (fun j => (poG_ok hpr h0 (T := tuT p m d G D) (fun y hy => tuT_ok hpr lm hmon hi (show d ≤ 9 by omega) (G := G) (D := D) hy) hx j).1)
 have HZ := Lib.hid (show sgG (tuT p m d G D) p a (resP p f m) 0 = fun _ => 0 by unfold sgG; rfl)
 have HN0 := Lib.hid (show poG (tuT p m d G D) (resP p f m) 0 = (resP p f m) by unfold poG; rfl)
 have HSQ := Lib.hid (show ∀ j, sgG (tuT p m d G D) p a (resP p f m) (j + 1) = addK p (sgG (tuT p m d G D) p a (resP p f m) j) (poG (tuT p m d G D) (resP p f m) j) (a j : Int) from fun j => by rw [sgG])
 have HNQ := Lib.hid (show ∀ j, poG (tuT p m d G D) (resP p f m) (j + 1) = tuT p m d G D (poG (tuT p m d G D) (resP p f m) j) from fun j => by rw [poG])
 have HUP := Lib.hid (fun (i : Nat) (h : i ≤ 1000) (x : Nat → Nat) (hx : rsd p m x) W => l06Up_any p m G D x i W hpr lm d hd hd1 (by omega) hx h)
 have HTM := Lib.hid (fun (f g : Nat → Nat) (lf : ∀ k, k < 64 → f k < p) (lg : ∀ k, k < 64 → g k < p) W => l06Times_any p m G D f g W hpr lm h0 lf lg)
 have HFO := Lib.hid (fun (x : Nat → Nat) (hx : rsd p m x) i => (frN_ok hpr lm h0 h9 hx i).1.1)
 have HTS := Lib.hid (fun (x : Nat → Nat) (hx : rsd p m x) => zbc (tu_same hpr lm hmon hi (show d ≤ 9 by omega) lG lD hx))
 have HMP := Lib.hid (fun (f g : Nat → Nat) k (hk : k < 64) => mmP_lt (a := f) (b := g) (m := m) p0 k (show k < 128 by omega))
 clear hNN hmon hi hd h0 h9 hx
 go_enter Try.func152, Try.ntmps152
 go_upto_region 1 with (fail)
 rw [← z64]
 obtain ⟨W1, hwo⟩ : ∃ v : World, v = ((((w.alloc (.cells (drC (p : Int) m G D).toArray 58)).alloc (.cells (zb 64 (a)) 24)).alloc (.cells (zb 64 (f)) 24)).alloc (.cells (zb 64 (fun _ => 0)) 24)) := ⟨_, rfl⟩
 have B0 : Row W1 (w.heap.size) 58 (drC (p : Int) m G D).toArray := by subst hwo; have := ((((Row.new w 58 (drC (p : Int) m G D).toArray).alloc (.cells (zb 64 (a)) 24)).alloc (.cells (zb 64 (f)) 24)).alloc (.cells (zb 64 (fun _ => 0)) 24)); simpa using this
 have B1 : Blk W1 (w.heap.size + 1) 64 24 (a) := by subst hwo; have := (((Blk.new (w.alloc (.cells (drC (p : Int) m G D).toArray 58)) 64 24 (a)).alloc (.cells (zb 64 (f)) 24)).alloc (.cells (zb 64 (fun _ => 0)) 24)); simpa using this
 have B2 : Blk W1 (w.heap.size + 1 + 1) 64 24 (f) := by subst hwo; have := ((Blk.new ((w.alloc (.cells (drC (p : Int) m G D).toArray 58)).alloc (.cells (zb 64 (a)) 24)) 64 24 (f)).alloc (.cells (zb 64 (fun _ => 0)) 24)); simpa using this
 have B3 : Blk W1 (w.heap.size + 1 + 1 + 1) 64 24 (fun _ => 0) := by subst hwo; have := (Blk.new (((w.alloc (.cells (drC (p : Int) m G D).toArray 58)).alloc (.cells (zb 64 (a)) 24)).alloc (.cells (zb 64 (f)) 24)) 64 24 (fun _ => 0)); simpa using this
 have hb : Below w.heap.size w W1 := by subst hwo; exact (((((Below.refl _ _).alloc (Nat.le_refl _) _).alloc (by simp) _).alloc (by simp; omega) _).alloc (by simp; omega) _)
 rw [← hwo]
 clear hwo
 have lt_B0 : (w.heap.size) < W1.heap.size := B0.lt
 have lt_B1 : (w.heap.size + 1) < W1.heap.size := B1.lt
 have lt_B2 : (w.heap.size + 1 + 1) < W1.heap.size := B2.lt
 have lt_B3 : (w.heap.size + 1 + 1 + 1) < W1.heap.size := B3.lt
 refine zq Try.mixed (by kernel_rfl) (by kernel_rfl) (fun v => by (simp only [frL, Act.put, pA, pB, pC, Nat.reduceAdd, Nat.zero_add]; exact rfl))
  (fun L v W2 => Below W1.heap.size W1 W2 ∧ (L 9 = true → AF (v 9) W2 W1.heap.size 64 24) ∧ (L 10 = true → AF (v 10) W2 W1.heap.size 64 24) ∧ (L 11 = true → PF (v 9) W2 W1.heap.size 64 24 (fun _ => 0)) ∧ (L 12 = true → PF (v 10) W2 W1.heap.size 64 24 (resP p f m)) ∧ (L 9 = true → L 10 = true → v 9 ≠ v 10) ∧ VF L v [some (.agg (zb 64 (fun _ => 0))), some (.pointer (some ⟨w.heap.size, 0, none⟩)), some (.int .i64 (p : Int)), some (.agg (zb 64 (f))), some (.pointer (some ⟨w.heap.size, 1, none⟩)), some (.agg (zb 64 (m))), some (.agg (zb 64 (resP p f m))), some (.pointer (some ⟨w.heap.size, 0, none⟩)), some (.int .i64 (p : Int)), none, none, none, none, some (.int .i64 (p : Int))]) ?_ ?_ ?_
 · intro v hv0
   exact ⟨(Below.refl _ W1).drew, (fun h => by cases h), (fun h => by cases h), (fun h => by cases h), (fun h => by cases h), (fun h => by cases h), VF.start⟩
 · refine (.cons rfl ?_ (.cons rfl ?_ (.cons rfl ?_ (.cons rfl ?_ (.cons rfl ?_ (.cons rfl ?_ (.cons rfl ?_ (.cons rfl ?_ (.cons rfl ?_ (.cons rfl ?_ (.cons rfl ?_ (.cons rfl ?_ (.cons rfl ?_ (.cons rfl ?_ (.nil _)))))))))))))))
   all_goals intro L v W2 hd hn ⟨hY, h9, h10, h11, h12, d9_10, V⟩ K hK
   · go_wp2_with fail
     rw [← z64]
     exact hK _ (.agg (zb 64 (fun _ => 0))) _ (by simp only [Act.put, pA, pB, pC ]) ⟨hY, h9, h10, h11, h12, d9_10, V.step 0 rfl⟩
   · go_wp2_with fail
     exact hK _ (.pointer (some ⟨w.heap.size, 0, none⟩)) _ (by simp only [Act.put, pA, pB, pC ]) ⟨hY, h9, h10, h11, h12, d9_10, V.step 1 rfl⟩
   · have e1 := V.at (zdq hd 1 rfl) rfl
     refine wp_load_rowc 2 _ rfl _ 0 e1 58 _ (B0.zw hY) (.int .i64 (p : Int)) (drC_at _ _ _ _) _ Try.underlying2 rfl ?_
     exact hK _ _ _ rfl ⟨hY, h9, h10, h11, h12, d9_10, V.step 2 rfl⟩
   · refine zlc (B2.zw hY) Try.underlying24 Try.size24 ?_
     exact hK _ _ _ rfl ⟨hY, h9, h10, h11, h12, d9_10, V.step 3 rfl⟩
   · go_wp2_with fail
     exact hK _ (.pointer (some ⟨w.heap.size, 1, none⟩)) _ (by simp only [Act.put, pA, pB, pC ]) ⟨hY, h9, h10, h11, h12, d9_10, V.step 4 rfl⟩
   · have e4 := V.at (zdq hd 4 rfl) rfl
     refine wp_load_mid 24 _ rfl _ 1 e4 _ _ ((B0.zw hY).drm) Try.underlying24 rfl (by rw [zl]; exact Try.size24) ?_
     exact hK _ _ _ rfl ⟨hY, h9, h10, h11, h12, d9_10, V.step 5 rfl⟩
   · have e2 := V.at (zdq hd 2 rfl) rfl
     have e3 := V.at (zdq hd 3 rfl) rfl
     have e5 := V.at (zdq hd 5 rfl) rfl
     go_wp2_with (go_at_call 129; refine (HMO.out _).mono ?_; rintro e wy ⟨rfl, hy⟩)
     exact hK _ (.agg (zb 64 (resP p f m))) _ (by simp only [Act.put, pA, pB, pC, e2, e3, e5]) ⟨hY.trans (hy.mono hY.size), (fun h => (h9 h).below hy), (fun h => (h10 h).below hy), (fun h => (h11 h).below hy), (fun h => (h12 h).below hy), d9_10, V.step 6 rfl⟩
   · go_wp2_with fail
     exact hK _ (.pointer (some ⟨w.heap.size, 0, none⟩)) _ (by simp only [Act.put, pA, pB, pC ]) ⟨hY, h9, h10, h11, h12, d9_10, V.step 7 rfl⟩
   · have e7 := V.at (zdq hd 7 rfl) rfl
     refine wp_load_rowc 2 _ rfl _ 0 e7 58 _ (B0.zw hY) (.int .i64 (p : Int)) (drC_at _ _ _ _) _ Try.underlying2 rfl ?_
     exact hK _ _ _ rfl ⟨hY, h9, h10, h11, h12, d9_10, V.step 8 rfl⟩
   · go_wp2_with fail
     rw [← z64]
     exact hK _ (.pointer (some ⟨W2.heap.size, 0, none⟩)) _ (by simp only [Act.put, pA, pB, pC ]) ⟨hY.alloc hY.size _, (fun _ => (PF.new W2 64 24 _ hY.size).af), (fun h => (h10 h).below (zal _ _)), (fun h => absurd rfl (hn 11 _ rfl h ⟨9, .data⟩ (by simp) rfl)), (fun h => (h12 h).below (zal _ _)), (fun h g1 => Ne.symm ((h10 g1).ne_new)), V.skip 9 rfl⟩
   · go_wp2_with fail
     rw [← z64]
     exact hK _ (.pointer (some ⟨W2.heap.size, 0, none⟩)) _ (by simp only [Act.put, pA, pB, pC ]) ⟨hY.alloc hY.size _, (fun h => (h9 h).below (zal _ _)), (fun _ => (PF.new W2 64 24 _ hY.size).af), (fun h => (h11 h).below (zal _ _)), (fun h => absurd rfl (hn 12 _ rfl h ⟨10, .data⟩ (by simp) rfl)), (fun h g1 => (h9 h).ne_new), V.skip 10 rfl⟩
   · have e0 := V.at (zdq hd 0 rfl) rfl
     obtain ⟨gz, b, ea, hN, hk⟩ := (h9 (zdq hd 9 rfl)).out
     refine zsb 24 _ _ rfl b 64 (fun _ => 0) ea e0 24 gz hk Try.size24 ?_
     exact hK _ undef _ rfl ⟨zr hY hN _, (fun h => (h9 h).row hk), (fun h => (h10 h).row hk), (fun _ => by rw [show updV v 11 undef 9 = v 9 from rfl, ea]; exact PF.row hk hN _), (fun h => (h12 h).rowOther (by rw [← ea]; exact (Ne.symm (d9_10 (zdq hd 9 rfl) (zdq hd 10 rfl))))), d9_10, V.skip 11 rfl⟩
   · have e6 := V.at (zdq hd 6 rfl) rfl
     obtain ⟨gz, b, ea, hN, hk⟩ := (h10 (zdq hd 10 rfl)).out
     refine zsb 24 _ _ rfl b 64 (resP p f m) ea e6 24 gz hk Try.size24 ?_
     exact hK _ undef _ rfl ⟨zr hY hN _, (fun h => (h9 h).row hk), (fun h => (h10 h).row hk), (fun h => (h11 h).rowOther (by rw [← ea]; exact (d9_10 (zdq hd 9 rfl) (zdq hd 10 rfl)))), (fun _ => by rw [show updV v 12 undef 10 = v 10 from rfl, ea]; exact PF.row hk hN _), d9_10, V.skip 12 rfl⟩
   · have e8 := V.at (zdq hd 8 rfl) rfl
     go_wp2_with fail
     exact hK _ (.int .i64 (p : Int)) _ (by simp only [Act.put, pA, pB, pC, e8]) ⟨hY, h9, h10, h11, h12, d9_10, V.step 13 rfl⟩
 · intro L v W2 hL ⟨hY, h9, h10, h11, h12, d9_10, V⟩
   obtain ⟨k1_9, e9, hNk1_9, hk1_9⟩ := (h11 (hL 11 (by decide))).out
   obtain ⟨k1_10, e10, hNk1_10, hk1_10⟩ := (h12 (hL 12 (by decide))).out
   have n9_10 := d9_10 (hL 9 (by decide)) (hL 10 (by decide))
   have e0 := V.at (hL 0 (by decide)) rfl
   have e1 := V.at (hL 1 (by decide)) rfl
   have e2 := V.at (hL 2 (by decide)) rfl
   have e3 := V.at (hL 3 (by decide)) rfl
   have e4 := V.at (hL 4 (by decide)) rfl
   have e5 := V.at (hL 5 (by decide)) rfl
   have e6 := V.at (hL 6 (by decide)) rfl
   have e7 := V.at (hL 7 (by decide)) rfl
   have e8 := V.at (hL 8 (by decide)) rfl
   have e13 := V.at (hL 13 (by decide)) rfl
   clear hL h9 h10 h11 h12 d9_10 V
   replace B0 := B0.zw hY
   replace B1 := B1.zw hY
   replace B2 := B2.zw hY
   replace B3 := B3.zw hY
   replace hb := hb.trans (hY.mono hb.size)
   clear hY
   rw [e9, e10] at n9_10
   have mk1_9_10 : k1_9 ≠ k1_10 := fun h => n9_10 (by rw [h])
   clear n9_10
   simp only [Exit.then, e9, e10, e0, e1, e2, e3, e4, e5, e6, e7, e8, e13]
   clear e9 e10 e0 e1 e2 e3 e4 e5 e6 e7 e8 e13
   have B4 := hk1_9
   clear hk1_9
   have zk1_9_0 : w.heap.size < k1_9 := by omega
   have zk1_9_1 : w.heap.size + 1 < k1_9 := by omega
   have zk1_9_2 : w.heap.size + 1 + 1 < k1_9 := by omega
   have zk1_9_3 : w.heap.size + 1 + 1 + 1 < k1_9 := by omega
   have B5 := hk1_10
   clear hk1_10
   have zk1_10_0 : w.heap.size < k1_10 := by omega
   have zk1_10_1 : w.heap.size + 1 < k1_10 := by omega
   have zk1_10_2 : w.heap.size + 1 + 1 < k1_10 := by omega
   have zk1_10_3 : w.heap.size + 1 + 1 + 1 < k1_10 := by omega
   clear lt_B0 lt_B1 lt_B2 lt_B3
   go_wp2_with fail
   go_loopw [10] (fun i wr => ∃ j : Nat, i = .int .i64 (j : Int) ∧ j ≤ NN ∧ Below w.heap.size w wr ∧ Row wr (w.heap.size) 58 (drC (p : Int) m G D).toArray ∧ Blk wr (w.heap.size + 1) 64 24 a ∧ Blk wr (w.heap.size + 1 + 1 + 1) 64 24 (fun _ => 0) ∧ Blk wr (k1_9) 64 24 (sgG (tuT p m d G D) p a (resP p f m) j) ∧ Blk wr (k1_10) 64 24 (poG (tuT p m d G D) (resP p f m) j)) (fun i _ => NN - (intOf i).toNat)
   case atStart => exact ⟨0, rfl, Nat.zero_le _, hb, B0, B1, B3, by rw [HZ.out]; exact B4, by rw [HN0.out]; exact B5⟩
   case round =>
    clear hb B0 B1 B2 B3 B4 B5
    obtain ⟨j, rfl, hjn, hb, B0, B1, B3, B4, B5⟩ := hrel
    by_cases hj : j < NN
    · have hji : (j : Int) ≤ (NN : Int) - 1 := by omega
      have hj6 : j < 64 := by omega
      have s1 := HSS.out j
      have t1 := HNN.out j
      obtain ⟨Y, hY0⟩ : ∃ Y, Y = poG (tuT p m d G D) (resP p f m) j := ⟨_, rfl⟩
      have HSQJ := Lib.hid (HSQ.out j)
      have HNQJ := Lib.hid (HNQ.out j)
      rw [← hY0] at B5 t1 HSQJ HNQJ
      clear hY0
      have laj := la j hj6
      obtain ⟨C, hC⟩ : ∃ C, C = a j := ⟨_, rfl⟩
      rw [← hC] at laj
      have HC := Lib.hid hC
      clear hC
      have HA := Lib.hid (fun W => l01Add_any p (sgG (tuT p m d G D) p a (resP p f m) j) Y (C : Int) W p2 p7 (by omega) (by omega) s1.1 t1.1)
      have HE := Lib.hid (show addK p (sgG (tuT p m d G D) p a (resP p f m) j) Y (C : Int) = sgG (tuT p m d G D) p a (resP p f m) (j + 1) by rw [HC.out, HSQJ.out])
      have HU1 := Lib.hid (fun W => HUP.out 1 (by omega) Y t1 W)
      have HU2 := Lib.hid (fun W => HUP.out 2 (by omega) Y t1 W)
      have HT1 := Lib.hid (fun W => HTM.out (resP p TP m) Y lT t1.1 W)
      have HT2 := Lib.hid (fun W => HTM.out G (frN p m Y 1) lG (HFO.out Y t1 1) W)
      have HT3 := Lib.hid (fun W => HTM.out D (frN p m Y 2) lD (HFO.out Y t1 2) W)
      have HA2 := Lib.hid (fun W => l01Add_any p (mmP p (resP p TP m) Y m) (mmP p G (frN p m Y 1) m) 1 W p2 p7 (by omega) (by omega) (HMP.out _ _) (HMP.out _ _))
      have HA3 := Lib.hid (show ∀ W, Calls Try.prog 127 #[.int .i64 (p : Int), .agg (zb 64 (addK p (mmP p (resP p TP m) Y m) (mmP p G (frN p m Y 1) m) 1)), .agg (zb 64 (mmP p D (frN p m Y 2) m)), .int .i64 1] W fun e w' => e = .returned (.agg (zb 64 (poG (tuT p m d G D) (resP p f m) (j + 1)))) ∧ Below W.heap.size W w' from fun W => by
       have h := l01Add_any p (addK p (mmP p (resP p TP m) Y m) (mmP p G (frN p m Y 1) m) 1) (mmP p D (frN p m Y 2) m) 1 W p2 p7 (by omega) (by omega) (fun k _ => addK_lt p0 k) (HMP.out _ _)
       have h2 := HTS.out Y t1
       unfold tuS at h2
       rw [h2, ← HNQJ.out] at h
       exact h)
      clear s1 t1
      go_upto_region 5 with (first | (refine zla (.tmp 4) B1 Try.underlying24 Try.size24 ?_) | (go_at_call 124; refine (l01Deg_any a _).mono ?_; rintro e W3 ⟨rfl, hW3⟩; replace B0 := B0.zw hW3; replace B1 := B1.zw hW3; replace B3 := B3.zw hW3; replace B4 := B4.zw hW3; replace B5 := B5.zw hW3; replace hb := (hb).trans (hW3.mono (hb).size); rw [HD.out]))
      have lt_B0 : (w.heap.size) < W3.heap.size := B0.lt
      have lt_B1 : (w.heap.size + 1) < W3.heap.size := B1.lt
      have lt_B3 : (w.heap.size + 1 + 1 + 1) < W3.heap.size := B3.lt
      have lt_B4 : (k1_9) < W3.heap.size := B4.lt
      have lt_B5 : (k1_10) < W3.heap.size := B5.lt
      have hbase : w.heap.size ≤ W3.heap.size := hb.size
      refine zq Try.mixed (by kernel_rfl) (by kernel_rfl) (fun v => by (simp only [frL, Act.put, pA, pB, pC, Nat.reduceAdd, Nat.zero_add]; exact rfl))
       (fun L v W4 => Below w.heap.size w W4 ∧ Kx [k1_9] W3 W4 ∧ (∃ g, Blk W4 (k1_9) 64 24 (g)) ∧ (L 8 = false → Blk W4 (k1_9) 64 24 (sgG (tuT p m d G D) p a (resP p f m) j)) ∧ (L 8 = true → Blk W4 (k1_9) 64 24 (addK p (sgG (tuT p m d G D) p a (resP p f m) j) Y (C : Int))) ∧ VF L v [some (.int .i64 (p : Int)), some (.agg (zb 64 (sgG (tuT p m d G D) p a (resP p f m) j))), some (.agg (zb 64 (Y))), some (.int .i64 (j : Int)), some (.pointer (some ⟨w.heap.size + 1, j, none⟩)), some (.int .u8 (C : Int)), some (.int .i64 (C : Int)), some (.agg (zb 64 (addK p (sgG (tuT p m d G D) p a (resP p f m) j) Y (C : Int)))), none]) ?_ ?_ ?_
      · intro v hv0
        exact ⟨hb.drew, Kx.start _ _, ⟨_, B4.drew⟩, (fun _ => B4.drew), (fun h => by cases h), VF.start⟩
      · refine (.cons rfl ?_ (.cons rfl ?_ (.cons rfl ?_ (.cons rfl ?_ (.cons rfl ?_ (.cons rfl ?_ (.cons rfl ?_ (.cons rfl ?_ (.cons rfl ?_ (.nil _))))))))))
        all_goals intro L v W4 hd hn ⟨hB, hX, x3, q3, n3, V⟩ K hK
        · go_wp2_with fail
          exact hK _ (.int .i64 (p : Int)) _ (by simp only [Act.put, pA, pB, pC ]) ⟨hB, hX, x3, q3, n3, V.step 0 rfl⟩
        · have s3 := q3 (by
           cases hL : L 8 with
           | false => rfl
           | true => exact absurd rfl (hn 8 _ rfl hL ⟨1, .phase⟩ (by simp) rfl))
          refine zlc s3 Try.underlying24 Try.size24 ?_
          exact hK _ _ _ rfl ⟨hB, hX, x3, q3, n3, V.step 1 rfl⟩
        · refine wp_load_any 24 _ rfl _ rfl 64 24 _ (B5.kx hX (by simp <;> omega)) _ Try.underlying24 rfl Try.size24 ?_
          exact hK _ _ _ rfl ⟨hB, hX, x3, q3, n3, V.step 2 rfl⟩
        · go_wp2_with fail
          exact hK _ (.int .i64 (j : Int)) _ (by simp only [Act.put, pA, pB, pC ]) ⟨hB, hX, x3, q3, n3, V.step 3 rfl⟩
        · have e3 := V.at (zdq hd 3 rfl) rfl
          go_wp2_with fail
          exact hK _ (.pointer (some ⟨w.heap.size + 1, j, none⟩)) _ (by simp only [Act.put, pA, pB, pC, e3]) ⟨hB, hX, x3, q3, n3, V.step 4 rfl⟩
        · have e4 := V.at (zdq hd 4 rfl) rfl
          have cc := (B1.kx hX (by simp <;> omega)).cell (i := j) hj6
          rw [← HC.out] at cc
          go_wp2_with fail
          exact hK _ (.int .u8 (C : Int)) _ (by simp only [Act.put, pA, pB, pC, e4]) ⟨hB, hX, x3, q3, n3, V.step 5 rfl⟩
        · have e5 := V.at (zdq hd 5 rfl) rfl
          go_wp2_with fail
          exact hK _ (.int .i64 (C : Int)) _ (by simp only [Act.put, pA, pB, pC, e5]) ⟨hB, hX, x3, q3, n3, V.step 6 rfl⟩
        · have e0 := V.at (zdq hd 0 rfl) rfl
          have e1 := V.at (zdq hd 1 rfl) rfl
          have e2 := V.at (zdq hd 2 rfl) rfl
          have e6 := V.at (zdq hd 6 rfl) rfl
          go_wp2_with (go_at_call 127; refine (HA.out _).mono ?_; rintro e wy ⟨rfl, hy⟩)
          exact hK _ (.agg (zb 64 (addK p (sgG (tuT p m d G D) p a (resP p f m) j) Y (C : Int)))) _ (by simp only [Act.put, pA, pB, pC, e0, e1, e2, e6]) ⟨hB.trans (hy.mono hB.size), hX.below hy, (let ⟨g, h⟩ := x3; ⟨g, h.zw hy⟩), (fun h => (q3 h).below hy (q3 h).lt), (fun h => (n3 h).below hy (n3 h).lt), V.step 7 rfl⟩
        · have e7 := V.at (zdq hd 7 rfl) rfl
          obtain ⟨gz, hk⟩ := x3
          refine zsb 24 _ _ rfl _ 64 (addK p (sgG (tuT p m d G D) p a (resP p f m) j) Y (C : Int)) rfl e7 24 gz hk Try.size24 ?_
          exact hK _ undef _ rfl ⟨zr hB (by omega) _, hX.row (by simp) _, ⟨_, hk.row _⟩, (fun h => absurd h (by simp [setL])), (fun _ => hk.row _), V.skip 8 rfl⟩
      · intro L v W4 hL ⟨hB, hX, x3, q3, n3, V⟩
        have r3 := n3 (hL 8 (by decide))
        have e0 := V.at (hL 0 (by decide)) rfl
        have e1 := V.at (hL 1 (by decide)) rfl
        have e2 := V.at (hL 2 (by decide)) rfl
        have e3 := V.at (hL 3 (by decide)) rfl
        have e4 := V.at (hL 4 (by decide)) rfl
        have e5 := V.at (hL 5 (by decide)) rfl
        have e6 := V.at (hL 6 (by decide)) rfl
        have e7 := V.at (hL 7 (by decide)) rfl
        clear hL x3 q3 n3 V
        replace B0 := B0.kx hX (by simp <;> omega)
        replace B1 := B1.kx hX (by simp <;> omega)
        replace B3 := B3.kx hX (by simp <;> omega)
        replace B5 := B5.kx hX (by simp <;> omega)
        clear hX
        simp only [Exit.then, e0, e1, e2, e3, e4, e5, e6, e7]
        clear e0 e1 e2 e3 e4 e5 e6 e7
        replace B4 := r3
        clear r3
        replace hb := hB
        clear hB
        clear hbase lt_B0 lt_B1 lt_B3 lt_B4 lt_B5
        go_upto_region 6 with (fail)
        have lt_B0 : (w.heap.size) < W4.heap.size := B0.lt
        have lt_B1 : (w.heap.size + 1) < W4.heap.size := B1.lt
        have lt_B3 : (w.heap.size + 1 + 1 + 1) < W4.heap.size := B3.lt
        have lt_B4 : (k1_9) < W4.heap.size := B4.lt
        have lt_B5 : (k1_10) < W4.heap.size := B5.lt
        refine zq Try.mixed (by kernel_rfl) (by kernel_rfl) (fun v => by (simp only [frL, Act.put, pA, pB, pC, Nat.reduceAdd, Nat.zero_add]; exact rfl))
         (fun L v W5 => Below W4.heap.size W4 W5 ∧ (L 6 = true → AF (v 6) W5 W4.heap.size 64 24) ∧ (L 7 = true → AF (v 7) W5 W4.heap.size 64 24) ∧ (L 8 = true → PF (v 6) W5 W4.heap.size 64 24 (frN p m Y 1)) ∧ (L 9 = true → PF (v 7) W5 W4.heap.size 64 24 (frN p m Y 2)) ∧ (L 6 = true → L 7 = true → v 6 ≠ v 7) ∧ VF L v [some (.agg (drC (p : Int) m G D).toArray), some (.agg (zb 64 (Y))), some (.agg (zb 64 (frN p m Y 1))), some (.agg (drC (p : Int) m G D).toArray), some (.agg (zb 64 (Y))), some (.agg (zb 64 (frN p m Y 2))), none, none, none, none]) ?_ ?_ ?_
        · intro v hv0
          exact ⟨(Below.refl _ W4).drew, (fun h => by cases h), (fun h => by cases h), (fun h => by cases h), (fun h => by cases h), (fun h => by cases h), VF.start⟩
        · refine (.cons rfl ?_ (.cons rfl ?_ (.cons rfl ?_ (.cons rfl ?_ (.cons rfl ?_ (.cons rfl ?_ (.cons rfl ?_ (.cons rfl ?_ (.cons rfl ?_ (.cons rfl ?_ (.nil _)))))))))))
          all_goals intro L v W5 hd hn ⟨hY, h6, h7, h8, h9, d6_7, V⟩ K hK
          · refine wp_load_rowv 58 _ rfl _ rfl 58 _ (B0.zw hY) _ Try.underlying58 rfl 193 Try.size58 (by simp [drC_len]) ?_
            exact hK _ _ _ rfl ⟨hY, h6, h7, h8, h9, d6_7, V.step 0 rfl⟩
          · refine zlc (B5.zw hY) Try.underlying24 Try.size24 ?_
            exact hK _ _ _ rfl ⟨hY, h6, h7, h8, h9, d6_7, V.step 1 rfl⟩
          · have e0 := V.at (zdq hd 0 rfl) rfl
            have e1 := V.at (zdq hd 1 rfl) rfl
            go_wp2_with (go_at_call 218; refine (HU1.out _).mono ?_; rintro e wy ⟨rfl, hy⟩)
            exact hK _ (.agg (zb 64 (frN p m Y 1))) _ (by simp only [Act.put, pA, pB, pC, e0, e1]) ⟨hY.trans (hy.mono hY.size), (fun h => (h6 h).below hy), (fun h => (h7 h).below hy), (fun h => (h8 h).below hy), (fun h => (h9 h).below hy), d6_7, V.step 2 rfl⟩
          · refine wp_load_rowv 58 _ rfl _ rfl 58 _ (B0.zw hY) _ Try.underlying58 rfl 193 Try.size58 (by simp [drC_len]) ?_
            exact hK _ _ _ rfl ⟨hY, h6, h7, h8, h9, d6_7, V.step 3 rfl⟩
          · refine zlc (B5.zw hY) Try.underlying24 Try.size24 ?_
            exact hK _ _ _ rfl ⟨hY, h6, h7, h8, h9, d6_7, V.step 4 rfl⟩
          · have e3 := V.at (zdq hd 3 rfl) rfl
            have e4 := V.at (zdq hd 4 rfl) rfl
            go_wp2_with (go_at_call 218; refine (HU2.out _).mono ?_; rintro e wy ⟨rfl, hy⟩)
            exact hK _ (.agg (zb 64 (frN p m Y 2))) _ (by simp only [Act.put, pA, pB, pC, e3, e4]) ⟨hY.trans (hy.mono hY.size), (fun h => (h6 h).below hy), (fun h => (h7 h).below hy), (fun h => (h8 h).below hy), (fun h => (h9 h).below hy), d6_7, V.step 5 rfl⟩
          · go_wp2_with fail
            rw [← z64]
            exact hK _ (.pointer (some ⟨W5.heap.size, 0, none⟩)) _ (by simp only [Act.put, pA, pB, pC ]) ⟨hY.alloc hY.size _, (fun _ => (PF.new W5 64 24 _ hY.size).af), (fun h => (h7 h).below (zal _ _)), (fun h => absurd rfl (hn 8 _ rfl h ⟨6, .data⟩ (by simp) rfl)), (fun h => (h9 h).below (zal _ _)), (fun h g1 => Ne.symm ((h7 g1).ne_new)), V.skip 6 rfl⟩
          · go_wp2_with fail
            rw [← z64]
            exact hK _ (.pointer (some ⟨W5.heap.size, 0, none⟩)) _ (by simp only [Act.put, pA, pB, pC ]) ⟨hY.alloc hY.size _, (fun h => (h6 h).below (zal _ _)), (fun _ => (PF.new W5 64 24 _ hY.size).af), (fun h => (h8 h).below (zal _ _)), (fun h => absurd rfl (hn 9 _ rfl h ⟨7, .data⟩ (by simp) rfl)), (fun h g1 => (h6 h).ne_new), V.skip 7 rfl⟩
          · have e2 := V.at (zdq hd 2 rfl) rfl
            obtain ⟨gz, b, ea, hN, hk⟩ := (h6 (zdq hd 6 rfl)).out
            refine zsb 24 _ _ rfl b 64 (frN p m Y 1) ea e2 24 gz hk Try.size24 ?_
            exact hK _ undef _ rfl ⟨zr hY hN _, (fun h => (h6 h).row hk), (fun h => (h7 h).row hk), (fun _ => by rw [show updV v 8 undef 6 = v 6 from rfl, ea]; exact PF.row hk hN _), (fun h => (h9 h).rowOther (by rw [← ea]; exact (Ne.symm (d6_7 (zdq hd 6 rfl) (zdq hd 7 rfl))))), d6_7, V.skip 8 rfl⟩
          · have e5 := V.at (zdq hd 5 rfl) rfl
            obtain ⟨gz, b, ea, hN, hk⟩ := (h7 (zdq hd 7 rfl)).out
            refine zsb 24 _ _ rfl b 64 (frN p m Y 2) ea e5 24 gz hk Try.size24 ?_
            exact hK _ undef _ rfl ⟨zr hY hN _, (fun h => (h6 h).row hk), (fun h => (h7 h).row hk), (fun h => (h8 h).rowOther (by rw [← ea]; exact (d6_7 (zdq hd 6 rfl) (zdq hd 7 rfl)))), (fun _ => by rw [show updV v 9 undef 7 = v 7 from rfl, ea]; exact PF.row hk hN _), d6_7, V.skip 9 rfl⟩
        · intro L v W5 hL ⟨hY, h6, h7, h8, h9, d6_7, V⟩
          obtain ⟨k6_6, e6, hNk6_6, hk6_6⟩ := (h8 (hL 8 (by decide))).out
          obtain ⟨k6_7, e7, hNk6_7, hk6_7⟩ := (h9 (hL 9 (by decide))).out
          have n6_7 := d6_7 (hL 6 (by decide)) (hL 7 (by decide))
          have e0 := V.at (hL 0 (by decide)) rfl
          have e1 := V.at (hL 1 (by decide)) rfl
          have e2 := V.at (hL 2 (by decide)) rfl
          have e3 := V.at (hL 3 (by decide)) rfl
          have e4 := V.at (hL 4 (by decide)) rfl
          have e5 := V.at (hL 5 (by decide)) rfl
          clear hL h6 h7 h8 h9 d6_7 V
          replace B0 := B0.zw hY
          replace B1 := B1.zw hY
          replace B3 := B3.zw hY
          replace B4 := B4.zw hY
          replace B5 := B5.zw hY
          replace hb := hb.trans (hY.mono hb.size)
          clear hY
          rw [e6, e7] at n6_7
          have mk6_6_7 : k6_6 ≠ k6_7 := fun h => n6_7 (by rw [h])
          clear n6_7
          simp only [Exit.then, e6, e7, e0, e1, e2, e3, e4, e5]
          clear e6 e7 e0 e1 e2 e3 e4 e5
          have B6 := hk6_6
          clear hk6_6
          have zk6_6_0 : w.heap.size < k6_6 := by omega
          have zk6_6_1 : w.heap.size + 1 < k6_6 := by omega
          have zk6_6_3 : w.heap.size + 1 + 1 + 1 < k6_6 := by omega
          have zk6_6_4 : k1_9 < k6_6 := by omega
          have zk6_6_5 : k1_10 < k6_6 := by omega
          have B7 := hk6_7
          clear hk6_7
          have zk6_7_0 : w.heap.size < k6_7 := by omega
          have zk6_7_1 : w.heap.size + 1 < k6_7 := by omega
          have zk6_7_3 : w.heap.size + 1 + 1 + 1 < k6_7 := by omega
          have zk6_7_4 : k1_9 < k6_7 := by omega
          have zk6_7_5 : k1_10 < k6_7 := by omega
          clear lt_B0 lt_B1 lt_B3 lt_B4 lt_B5
          go_upto_region 7 with (fail)
          have lt_B0 : (w.heap.size) < W5.heap.size := B0.lt
          have lt_B1 : (w.heap.size + 1) < W5.heap.size := B1.lt
          have lt_B3 : (w.heap.size + 1 + 1 + 1) < W5.heap.size := B3.lt
          have lt_B4 : (k1_9) < W5.heap.size := B4.lt
          have lt_B5 : (k1_10) < W5.heap.size := B5.lt
          have lt_B6 : (k6_6) < W5.heap.size := B6.lt
          have lt_B7 : (k6_7) < W5.heap.size := B7.lt
          refine zq Try.mixed (by kernel_rfl) (by kernel_rfl) (fun v => by (simp only [frL, Act.put, pA, pB, pC, Nat.reduceAdd, Nat.zero_add]; exact rfl))
           (fun L v W6 => Below W5.heap.size W5 W6 ∧ (L 8 = true → AF (v 8) W6 W5.heap.size 64 24) ∧ (L 9 = true → PF (v 8) W6 W5.heap.size 64 24 (mmP p (resP p TP m) Y m)) ∧ VF L v [some (.agg (drC (p : Int) m G D).toArray), some (.int .i64 (p : Int)), some (.agg (zb 64 (TP))), some (.pointer (some ⟨w.heap.size, 1, none⟩)), some (.agg (zb 64 (m))), some (.agg (zb 64 (resP p TP m))), some (.agg (zb 64 (Y))), some (.agg (zb 64 (mmP p (resP p TP m) Y m))), none, none]) ?_ ?_ ?_
          · intro v hv0
            exact ⟨(Below.refl _ W5).drew, (fun h => by cases h), (fun h => by cases h), VF.start⟩
          · refine (.cons rfl ?_ (.cons rfl ?_ (.cons rfl ?_ (.cons rfl ?_ (.cons rfl ?_ (.cons rfl ?_ (.cons rfl ?_ (.cons rfl ?_ (.cons rfl ?_ (.cons rfl ?_ (.nil _)))))))))))
            all_goals intro L v W6 hd hn ⟨hY, h8, h9, V⟩ K hK
            · refine wp_load_rowv 58 _ rfl _ rfl 58 _ (B0.zw hY) _ Try.underlying58 rfl 193 Try.size58 (by simp [drC_len]) ?_
              exact hK _ _ _ rfl ⟨hY, h8, h9, V.step 0 rfl⟩
            · go_wp2_with fail
              exact hK _ (.int .i64 (p : Int)) _ (by simp only [Act.put, pA, pB, pC ]) ⟨hY, h8, h9, V.step 1 rfl⟩
            · go_wp2_with (go_at_call 208; refine (l01T_any _).mono ?_; rintro e wy ⟨rfl, hy⟩)
              exact hK _ (.agg (zb 64 (TP))) _ (by simp only [Act.put, pA, pB, pC ]) ⟨hY.trans (hy.mono hY.size), (fun h => (h8 h).below hy), (fun h => (h9 h).below hy), V.step 2 rfl⟩
            · go_wp2_with fail
              exact hK _ (.pointer (some ⟨w.heap.size, 1, none⟩)) _ (by simp only [Act.put, pA, pB, pC ]) ⟨hY, h8, h9, V.step 3 rfl⟩
            · have e3 := V.at (zdq hd 3 rfl) rfl
              refine wp_load_mid 24 _ rfl _ 1 e3 _ _ ((B0.zw hY).drm) Try.underlying24 rfl (by rw [zl]; exact Try.size24) ?_
              exact hK _ _ _ rfl ⟨hY, h8, h9, V.step 4 rfl⟩
            · have e1 := V.at (zdq hd 1 rfl) rfl
              have e2 := V.at (zdq hd 2 rfl) rfl
              have e4 := V.at (zdq hd 4 rfl) rfl
              go_wp2_with (go_at_call 129; refine (HMT.out _).mono ?_; rintro e wy ⟨rfl, hy⟩)
              exact hK _ (.agg (zb 64 (resP p TP m))) _ (by simp only [Act.put, pA, pB, pC, e1, e2, e4]) ⟨hY.trans (hy.mono hY.size), (fun h => (h8 h).below hy), (fun h => (h9 h).below hy), V.step 5 rfl⟩
            · refine zlc (B5.zw hY) Try.underlying24 Try.size24 ?_
              exact hK _ _ _ rfl ⟨hY, h8, h9, V.step 6 rfl⟩
            · have e0 := V.at (zdq hd 0 rfl) rfl
              have e5 := V.at (zdq hd 5 rfl) rfl
              have e6 := V.at (zdq hd 6 rfl) rfl
              go_wp2_with (go_at_call 154; refine (HT1.out _).mono ?_; rintro e wy ⟨rfl, hy⟩)
              exact hK _ (.agg (zb 64 (mmP p (resP p TP m) Y m))) _ (by simp only [Act.put, pA, pB, pC, e0, e5, e6]) ⟨hY.trans (hy.mono hY.size), (fun h => (h8 h).below hy), (fun h => (h9 h).below hy), V.step 7 rfl⟩
            · go_wp2_with fail
              rw [← z64]
              exact hK _ (.pointer (some ⟨W6.heap.size, 0, none⟩)) _ (by simp only [Act.put, pA, pB, pC ]) ⟨hY.alloc hY.size _, (fun _ => (PF.new W6 64 24 _ hY.size).af), (fun h => absurd rfl (hn 9 _ rfl h ⟨8, .data⟩ (by simp) rfl)), V.skip 8 rfl⟩
            · have e7 := V.at (zdq hd 7 rfl) rfl
              obtain ⟨gz, b, ea, hN, hk⟩ := (h8 (zdq hd 8 rfl)).out
              refine zsb 24 _ _ rfl b 64 (mmP p (resP p TP m) Y m) ea e7 24 gz hk Try.size24 ?_
              exact hK _ undef _ rfl ⟨zr hY hN _, (fun h => (h8 h).row hk), (fun _ => by rw [show updV v 9 undef 8 = v 8 from rfl, ea]; exact PF.row hk hN _), V.skip 9 rfl⟩
          · intro L v W6 hL ⟨hY, h8, h9, V⟩
            obtain ⟨k7_8, e8, hNk7_8, hk7_8⟩ := (h9 (hL 9 (by decide))).out
            have e0 := V.at (hL 0 (by decide)) rfl
            have e1 := V.at (hL 1 (by decide)) rfl
            have e2 := V.at (hL 2 (by decide)) rfl
            have e3 := V.at (hL 3 (by decide)) rfl
            have e4 := V.at (hL 4 (by decide)) rfl
            have e5 := V.at (hL 5 (by decide)) rfl
            have e6 := V.at (hL 6 (by decide)) rfl
            have e7 := V.at (hL 7 (by decide)) rfl
            clear hL h8 h9 V
            replace B0 := B0.zw hY
            replace B1 := B1.zw hY
            replace B3 := B3.zw hY
            replace B4 := B4.zw hY
            replace B5 := B5.zw hY
            replace B6 := B6.zw hY
            replace B7 := B7.zw hY
            replace hb := hb.trans (hY.mono hb.size)
            clear hY
            simp only [Exit.then, e8, e0, e1, e2, e3, e4, e5, e6, e7]
            clear e8 e0 e1 e2 e3 e4 e5 e6 e7
            have B8 := hk7_8
            clear hk7_8
            have zk7_8_0 : w.heap.size < k7_8 := by omega
            have zk7_8_1 : w.heap.size + 1 < k7_8 := by omega
            have zk7_8_3 : w.heap.size + 1 + 1 + 1 < k7_8 := by omega
            have zk7_8_4 : k1_9 < k7_8 := by omega
            have zk7_8_5 : k1_10 < k7_8 := by omega
            have zk7_8_6 : k6_6 < k7_8 := by omega
            have zk7_8_7 : k6_7 < k7_8 := by omega
            clear lt_B0 lt_B1 lt_B3 lt_B4 lt_B5 lt_B6 lt_B7
            go_upto_region 8 with (fail)
            have lt_B0 : (w.heap.size) < W6.heap.size := B0.lt
            have lt_B1 : (w.heap.size + 1) < W6.heap.size := B1.lt
            have lt_B3 : (w.heap.size + 1 + 1 + 1) < W6.heap.size := B3.lt
            have lt_B4 : (k1_9) < W6.heap.size := B4.lt
            have lt_B5 : (k1_10) < W6.heap.size := B5.lt
            have lt_B6 : (k6_6) < W6.heap.size := B6.lt
            have lt_B7 : (k6_7) < W6.heap.size := B7.lt
            have lt_B8 : (k7_8) < W6.heap.size := B8.lt
            have hbase : w.heap.size ≤ W6.heap.size := hb.size
            refine zq Try.mixed (by kernel_rfl) (by kernel_rfl) (fun v => by (simp only [frL, Act.put, pA, pB, pC, Nat.reduceAdd, Nat.zero_add]; exact rfl))
             (fun L v W7 => Below w.heap.size w W7 ∧ Kx [k7_8] W6 W7 ∧ (∃ g, Blk W7 (k7_8) 64 24 (g)) ∧ (L 8 = false → Blk W7 (k7_8) 64 24 (mmP p (resP p TP m) Y m)) ∧ (L 8 = true → Blk W7 (k7_8) 64 24 (addK p (mmP p (resP p TP m) Y m) (mmP p G (frN p m Y 1) m) 1)) ∧ VF L v [some (.int .i64 (p : Int)), some (.agg (zb 64 (mmP p (resP p TP m) Y m))), some (.agg (drC (p : Int) m G D).toArray), some (.pointer (some ⟨w.heap.size, 65, none⟩)), some (.agg (zb 64 (G))), some (.agg (zb 64 (frN p m Y 1))), some (.agg (zb 64 (mmP p G (frN p m Y 1) m))), some (.agg (zb 64 (addK p (mmP p (resP p TP m) Y m) (mmP p G (frN p m Y 1) m) 1))), none]) ?_ ?_ ?_
            · intro v hv0
              exact ⟨hb.drew, Kx.start _ _, ⟨_, B8.drew⟩, (fun _ => B8.drew), (fun h => by cases h), VF.start⟩
            · refine (.cons rfl ?_ (.cons rfl ?_ (.cons rfl ?_ (.cons rfl ?_ (.cons rfl ?_ (.cons rfl ?_ (.cons rfl ?_ (.cons rfl ?_ (.cons rfl ?_ (.nil _))))))))))
              all_goals intro L v W7 hd hn ⟨hB, hX, x7, q7, n7, V⟩ K hK
              · go_wp2_with fail
                exact hK _ (.int .i64 (p : Int)) _ (by simp only [Act.put, pA, pB, pC ]) ⟨hB, hX, x7, q7, n7, V.step 0 rfl⟩
              · have s7 := q7 (by
                 cases hL : L 8 with
                 | false => rfl
                 | true => exact absurd rfl (hn 8 _ rfl hL ⟨1, .phase⟩ (by simp) rfl))
                refine zlc s7 Try.underlying24 Try.size24 ?_
                exact hK _ _ _ rfl ⟨hB, hX, x7, q7, n7, V.step 1 rfl⟩
              · refine wp_load_rowv 58 _ rfl _ rfl 58 _ (B0.kx hX (by simp <;> omega)) _ Try.underlying58 rfl 193 Try.size58 (by simp [drC_len]) ?_
                exact hK _ _ _ rfl ⟨hB, hX, x7, q7, n7, V.step 2 rfl⟩
              · go_wp2_with fail
                exact hK _ (.pointer (some ⟨w.heap.size, 65, none⟩)) _ (by simp only [Act.put, pA, pB, pC ]) ⟨hB, hX, x7, q7, n7, V.step 3 rfl⟩
              · have e3 := V.at (zdq hd 3 rfl) rfl
                refine wp_load_mid 24 _ rfl _ 65 e3 _ _ ((B0.kx hX (by simp <;> omega)).drg) Try.underlying24 rfl (by rw [zl]; exact Try.size24) ?_
                exact hK _ _ _ rfl ⟨hB, hX, x7, q7, n7, V.step 4 rfl⟩
              · refine wp_load_any 24 _ rfl _ rfl 64 24 _ (B6.kx hX (by simp <;> omega)) _ Try.underlying24 rfl Try.size24 ?_
                exact hK _ _ _ rfl ⟨hB, hX, x7, q7, n7, V.step 5 rfl⟩
              · have e2 := V.at (zdq hd 2 rfl) rfl
                have e4 := V.at (zdq hd 4 rfl) rfl
                have e5 := V.at (zdq hd 5 rfl) rfl
                go_wp2_with (go_at_call 154; refine (HT2.out _).mono ?_; rintro e wy ⟨rfl, hy⟩)
                exact hK _ (.agg (zb 64 (mmP p G (frN p m Y 1) m))) _ (by simp only [Act.put, pA, pB, pC, e2, e4, e5]) ⟨hB.trans (hy.mono hB.size), hX.below hy, (let ⟨g, h⟩ := x7; ⟨g, h.zw hy⟩), (fun h => (q7 h).below hy (q7 h).lt), (fun h => (n7 h).below hy (n7 h).lt), V.step 6 rfl⟩
              · have e0 := V.at (zdq hd 0 rfl) rfl
                have e1 := V.at (zdq hd 1 rfl) rfl
                have e6 := V.at (zdq hd 6 rfl) rfl
                go_wp2_with (go_at_call 127; refine (HA2.out _).mono ?_; rintro e wy ⟨rfl, hy⟩)
                exact hK _ (.agg (zb 64 (addK p (mmP p (resP p TP m) Y m) (mmP p G (frN p m Y 1) m) 1))) _ (by simp only [Act.put, pA, pB, pC, e0, e1, e6]) ⟨hB.trans (hy.mono hB.size), hX.below hy, (let ⟨g, h⟩ := x7; ⟨g, h.zw hy⟩), (fun h => (q7 h).below hy (q7 h).lt), (fun h => (n7 h).below hy (n7 h).lt), V.step 7 rfl⟩
              · have e7 := V.at (zdq hd 7 rfl) rfl
                obtain ⟨gz, hk⟩ := x7
                refine zsb 24 _ _ rfl _ 64 (addK p (mmP p (resP p TP m) Y m) (mmP p G (frN p m Y 1) m) 1) rfl e7 24 gz hk Try.size24 ?_
                exact hK _ undef _ rfl ⟨zr hB (by omega) _, hX.row (by simp) _, ⟨_, hk.row _⟩, (fun h => absurd h (by simp [setL])), (fun _ => hk.row _), V.skip 8 rfl⟩
            · intro L v W7 hL ⟨hB, hX, x7, q7, n7, V⟩
              have r7 := n7 (hL 8 (by decide))
              have e0 := V.at (hL 0 (by decide)) rfl
              have e1 := V.at (hL 1 (by decide)) rfl
              have e2 := V.at (hL 2 (by decide)) rfl
              have e3 := V.at (hL 3 (by decide)) rfl
              have e4 := V.at (hL 4 (by decide)) rfl
              have e5 := V.at (hL 5 (by decide)) rfl
              have e6 := V.at (hL 6 (by decide)) rfl
              have e7 := V.at (hL 7 (by decide)) rfl
              clear hL x7 q7 n7 V
              replace B0 := B0.kx hX (by simp <;> omega)
              replace B1 := B1.kx hX (by simp <;> omega)
              replace B3 := B3.kx hX (by simp <;> omega)
              replace B4 := B4.kx hX (by simp <;> omega)
              replace B5 := B5.kx hX (by simp <;> omega)
              replace B6 := B6.kx hX (by simp <;> omega)
              replace B7 := B7.kx hX (by simp <;> omega)
              clear hX
              simp only [Exit.then, e0, e1, e2, e3, e4, e5, e6, e7]
              clear e0 e1 e2 e3 e4 e5 e6 e7
              replace B8 := r7
              clear r7
              replace hb := hB
              clear hB
              clear hbase lt_B0 lt_B1 lt_B3 lt_B4 lt_B5 lt_B6 lt_B7 lt_B8
              go_upto_region 9 with (fail)
              have lt_B0 : (w.heap.size) < W7.heap.size := B0.lt
              have lt_B1 : (w.heap.size + 1) < W7.heap.size := B1.lt
              have lt_B3 : (w.heap.size + 1 + 1 + 1) < W7.heap.size := B3.lt
              have lt_B4 : (k1_9) < W7.heap.size := B4.lt
              have lt_B5 : (k1_10) < W7.heap.size := B5.lt
              have lt_B6 : (k6_6) < W7.heap.size := B6.lt
              have lt_B7 : (k6_7) < W7.heap.size := B7.lt
              have lt_B8 : (k7_8) < W7.heap.size := B8.lt
              have hbase : w.heap.size ≤ W7.heap.size := hb.size
              refine zq Try.mixed (by kernel_rfl) (by kernel_rfl) (fun v => by (simp only [frL, Act.put, pA, pB, pC, Nat.reduceAdd, Nat.zero_add]; exact rfl))
               (fun L v W8 => Below w.heap.size w W8 ∧ Kx [k1_10] W7 W8 ∧ (∃ g, Blk W8 (k1_10) 64 24 (g)) ∧ (L 8 = false → Blk W8 (k1_10) 64 24 (Y)) ∧ (L 8 = true → Blk W8 (k1_10) 64 24 (poG (tuT p m d G D) (resP p f m) (j + 1))) ∧ VF L v [some (.int .i64 (p : Int)), some (.agg (zb 64 (addK p (mmP p (resP p TP m) Y m) (mmP p G (frN p m Y 1) m) 1))), some (.agg (drC (p : Int) m G D).toArray), some (.pointer (some ⟨w.heap.size, 129, none⟩)), some (.agg (zb 64 (D))), some (.agg (zb 64 (frN p m Y 2))), some (.agg (zb 64 (mmP p D (frN p m Y 2) m))), some (.agg (zb 64 (poG (tuT p m d G D) (resP p f m) (j + 1)))), none]) ?_ ?_ ?_
              · intro v hv0
                exact ⟨hb.drew, Kx.start _ _, ⟨_, B5.drew⟩, (fun _ => B5.drew), (fun h => by cases h), VF.start⟩
              · refine (.cons rfl ?_ (.cons rfl ?_ (.cons rfl ?_ (.cons rfl ?_ (.cons rfl ?_ (.cons rfl ?_ (.cons rfl ?_ (.cons rfl ?_ (.cons rfl ?_ (.nil _))))))))))
                all_goals intro L v W8 hd hn ⟨hB, hX, x4, q4, n4, V⟩ K hK
                · go_wp2_with fail
                  exact hK _ (.int .i64 (p : Int)) _ (by simp only [Act.put, pA, pB, pC ]) ⟨hB, hX, x4, q4, n4, V.step 0 rfl⟩
                · refine wp_load_any 24 _ rfl _ rfl 64 24 _ (B8.kx hX (by simp <;> omega)) _ Try.underlying24 rfl Try.size24 ?_
                  exact hK _ _ _ rfl ⟨hB, hX, x4, q4, n4, V.step 1 rfl⟩
                · refine wp_load_rowv 58 _ rfl _ rfl 58 _ (B0.kx hX (by simp <;> omega)) _ Try.underlying58 rfl 193 Try.size58 (by simp [drC_len]) ?_
                  exact hK _ _ _ rfl ⟨hB, hX, x4, q4, n4, V.step 2 rfl⟩
                · go_wp2_with fail
                  exact hK _ (.pointer (some ⟨w.heap.size, 129, none⟩)) _ (by simp only [Act.put, pA, pB, pC ]) ⟨hB, hX, x4, q4, n4, V.step 3 rfl⟩
                · have e3 := V.at (zdq hd 3 rfl) rfl
                  refine wp_load_mid 24 _ rfl _ 129 e3 _ _ ((B0.kx hX (by simp <;> omega)).drd) Try.underlying24 rfl (by rw [zl]; exact Try.size24) ?_
                  exact hK _ _ _ rfl ⟨hB, hX, x4, q4, n4, V.step 4 rfl⟩
                · refine wp_load_any 24 _ rfl _ rfl 64 24 _ (B7.kx hX (by simp <;> omega)) _ Try.underlying24 rfl Try.size24 ?_
                  exact hK _ _ _ rfl ⟨hB, hX, x4, q4, n4, V.step 5 rfl⟩
                · have e2 := V.at (zdq hd 2 rfl) rfl
                  have e4 := V.at (zdq hd 4 rfl) rfl
                  have e5 := V.at (zdq hd 5 rfl) rfl
                  go_wp2_with (go_at_call 154; refine (HT3.out _).mono ?_; rintro e wy ⟨rfl, hy⟩)
                  exact hK _ (.agg (zb 64 (mmP p D (frN p m Y 2) m))) _ (by simp only [Act.put, pA, pB, pC, e2, e4, e5]) ⟨hB.trans (hy.mono hB.size), hX.below hy, (let ⟨g, h⟩ := x4; ⟨g, h.zw hy⟩), (fun h => (q4 h).below hy (q4 h).lt), (fun h => (n4 h).below hy (n4 h).lt), V.step 6 rfl⟩
                · have e0 := V.at (zdq hd 0 rfl) rfl
                  have e1 := V.at (zdq hd 1 rfl) rfl
                  have e6 := V.at (zdq hd 6 rfl) rfl
                  go_wp2_with (go_at_call 127; refine (HA3.out _).mono ?_; rintro e wy ⟨rfl, hy⟩)
                  exact hK _ (.agg (zb 64 (poG (tuT p m d G D) (resP p f m) (j + 1)))) _ (by simp only [Act.put, pA, pB, pC, e0, e1, e6]) ⟨hB.trans (hy.mono hB.size), hX.below hy, (let ⟨g, h⟩ := x4; ⟨g, h.zw hy⟩), (fun h => (q4 h).below hy (q4 h).lt), (fun h => (n4 h).below hy (n4 h).lt), V.step 7 rfl⟩
                · have e7 := V.at (zdq hd 7 rfl) rfl
                  obtain ⟨gz, hk⟩ := x4
                  refine zsb 24 _ _ rfl _ 64 (poG (tuT p m d G D) (resP p f m) (j + 1)) rfl e7 24 gz hk Try.size24 ?_
                  exact hK _ undef _ rfl ⟨zr hB (by omega) _, hX.row (by simp) _, ⟨_, hk.row _⟩, (fun h => absurd h (by simp [setL])), (fun _ => hk.row _), V.skip 8 rfl⟩
              · intro L v W8 hL ⟨hB, hX, x4, q4, n4, V⟩
                have r4 := n4 (hL 8 (by decide))
                have e0 := V.at (hL 0 (by decide)) rfl
                have e1 := V.at (hL 1 (by decide)) rfl
                have e2 := V.at (hL 2 (by decide)) rfl
                have e3 := V.at (hL 3 (by decide)) rfl
                have e4 := V.at (hL 4 (by decide)) rfl
                have e5 := V.at (hL 5 (by decide)) rfl
                have e6 := V.at (hL 6 (by decide)) rfl
                have e7 := V.at (hL 7 (by decide)) rfl
                clear hL x4 q4 n4 V
                replace B0 := B0.kx hX (by simp <;> omega)
                replace B1 := B1.kx hX (by simp <;> omega)
                replace B3 := B3.kx hX (by simp <;> omega)
                replace B4 := B4.kx hX (by simp <;> omega)
                replace B6 := B6.kx hX (by simp <;> omega)
                replace B7 := B7.kx hX (by simp <;> omega)
                replace B8 := B8.kx hX (by simp <;> omega)
                clear hX
                simp only [Exit.then, e0, e1, e2, e3, e4, e5, e6, e7]
                clear e0 e1 e2 e3 e4 e5 e6 e7
                replace B5 := r4
                clear r4
                replace hb := hB
                clear hB
                clear hbase lt_B0 lt_B1 lt_B3 lt_B4 lt_B5 lt_B6 lt_B7 lt_B8
                go_wp2_with fail
                go_roundw
                case rel => exact ⟨j + 1, by go_num, by omega, hb, B0, B1, B3, by rw [← HE.out]; exact B4, B5⟩
                case measure => simp [intOf] <;> omega
    · have hji : ¬ (j : Int) ≤ (NN : Int) - 1 := by omega
      obtain rfl : j = NN := by omega
      go_upto_region 10 with (first | (refine zla (.tmp 4) B1 Try.underlying24 Try.size24 ?_) | (go_at_call 124; refine (l01Deg_any a _).mono ?_; rintro e W3 ⟨rfl, hW3⟩; replace B0 := B0.zw hW3; replace B1 := B1.zw hW3; replace B3 := B3.zw hW3; replace B4 := B4.zw hW3; replace B5 := B5.zw hW3; replace hb := (hb).trans (hW3.mono (hb).size); rw [HD.out]))
      have lt_B0 := B0.lt
      have lt_B1 := B1.lt
      have lt_B3 := B3.lt
      have lt_B4 := B4.lt
      have lt_B5 := B5.lt
      go_wp2_with (first | rw [← z64] | (refine zla (.tmp 7) B4 Try.underlying24 Try.size24 ?_) | (refine zsr (.tmp 6) (.tmp 67) (sgG (tuT p m d G D) p a (resP p f m) j) B3 Try.size24 ?_; try simp only [Act.put]))
      obtain ⟨W4, hwo, hzQ⟩ : ∃ v : World, v = (W3.setRow (w.heap.size + 1 + 1 + 1) (zb 64 (sgG (tuT p m d G D) p a (resP p f m) j))) ∧ Row v (w.heap.size) 58 (drC (p : Int) m G D).toArray ∧ Blk v (w.heap.size + 1) 64 24 (a) ∧ Blk v (w.heap.size + 1 + 1 + 1) 64 24 (sgG (tuT p m d G D) p a (resP p f m) j) ∧ Blk v (k1_9) 64 24 (sgG (tuT p m d G D) p a (resP p f m) j) ∧ Blk v (k1_10) 64 24 (poG (tuT p m d G D) (resP p f m) j) ∧ Below w.heap.size w v := ⟨_, rfl, (B0.rowOther (by omega)), (B1.rowOther (by omega)), (B3.row (sgG (tuT p m d G D) p a (resP p f m) j)), (B4.rowOther (by omega)), (B5.rowOther (by omega)), (zr hb (by omega) _)⟩
      rw [← hwo]
      clear hwo B0 B1 B3 B4 B5 hb
      obtain ⟨B0, B1, B3, B4, B5, hb⟩ := hzQ
      try simp only [Act.put, pA, pB, pC]
      refine bodyPost_ret (zrb rfl _ _ _ 64 24 5 _ rfl B3 Try.underlying24 Try.size24) rfl ⟨by rw [HT.out], hb⟩
noncomputable def dwV (p : Int) (m G D a x : Nat → Nat) : (Nat → Nat) × Int :=
 if drCo p m G D [a, x] = 0 then (sgG (tuT p.toNat m (deg m).toNat G D) p.toNat a (resP p.toNat x m) (deg a + 1).toNat, 0) else (fun _ => 0, 1)
theorem dwV_1 {p : Int} {m G D a x : Nat → Nat} (h : drCo p m G D [a, x] = 1) : dwV p m G D a x = (fun _ => 0, 1) := if_neg (by omega)
theorem dwV_0 {n d : Nat} {m G D a x : Nat → Nat} (h : drCo (n : Int) m G D [a, x] = 0) (hd : deg m = (d : Int)) : dwV (n : Int) m G D a x = (sgG (tuT n m d G D) n a (resP n x m) (deg a + 1).toNat, 0) := by
 unfold dwV; rw [if_pos h, hd]; rfl
attribute [irreducible] dwV
set_option maxRecDepth 100000 in
set_option maxHeartbeats 6400000 in
theorem impl_DrinfeldValue_any (p : Int) (m G D a x : Nat → Nat) (hm : byte m) (hG : byte G) (hD : byte D) (ha : byte a) (hx : byte x) (w : World) :
 Calls Try.prog 64 #[(.agg (drC p m G D).toArray), .agg (zb 64 a), .agg (zb 64 x)] w fun e w' => e = .returned (.tuple #[.agg (zb 64 (dwV p m G D a x).1), .int .i64 (dwV p m G D a x).2]) ∧ Below w.heap.size w w' := by
 go_enter Try.func64, Try.ntmps64
 go_upto_region 1 with (fail)
 rw [← z64]
 obtain ⟨W1, hwo⟩ : ∃ v : World, v = ((((w.alloc (.cells (drC p m G D).toArray 58)).alloc (.cells (zb 64 (a)) 24)).alloc (.cells (zb 64 (x)) 24)).alloc (.cells (zb 64 (fun _ => 0)) 24)) := ⟨_, rfl⟩
 have B0 : Row W1 (w.heap.size) 58 (drC p m G D).toArray := by subst hwo; have := ((((Row.new w 58 (drC p m G D).toArray).alloc (.cells (zb 64 (a)) 24)).alloc (.cells (zb 64 (x)) 24)).alloc (.cells (zb 64 (fun _ => 0)) 24)); simpa using this
 have B1 : Blk W1 (w.heap.size + 1) 64 24 (a) := by subst hwo; have := (((Blk.new (w.alloc (.cells (drC p m G D).toArray 58)) 64 24 (a)).alloc (.cells (zb 64 (x)) 24)).alloc (.cells (zb 64 (fun _ => 0)) 24)); simpa using this
 have B2 : Blk W1 (w.heap.size + 1 + 1) 64 24 (x) := by subst hwo; have := ((Blk.new ((w.alloc (.cells (drC p m G D).toArray 58)).alloc (.cells (zb 64 (a)) 24)) 64 24 (x)).alloc (.cells (zb 64 (fun _ => 0)) 24)); simpa using this
 have B3 : Blk W1 (w.heap.size + 1 + 1 + 1) 64 24 (fun _ => 0) := by subst hwo; have := (Blk.new (((w.alloc (.cells (drC p m G D).toArray 58)).alloc (.cells (zb 64 (a)) 24)).alloc (.cells (zb 64 (x)) 24)) 64 24 (fun _ => 0)); simpa using this
 have hb : Below w.heap.size w W1 := by subst hwo; exact (((((Below.refl _ _).alloc (Nat.le_refl _) _).alloc (by simp) _).alloc (by simp; omega) _).alloc (by simp; omega) _)
 rw [← hwo]
 clear hwo
 rcases drCo_two p m G D [a, x] with hc | hc
 · obtain ⟨hdr, hcx⟩ := drCo_zero hc
   obtain ⟨hfl, hrg, hrd, hdz⟩ := drB_all hdr
   obtain ⟨n, rfl, hpr, lm, d, hmon, hd1, hd4⟩ := flV_fld hfl
   have la := lt_of_code hcx (f := a) (by simp)
   have lx := lt_of_code hcx (f := x) (by simp)
   have hi := drB_irr hdr hmon
   have lG := (rsB_rsd hrg).1
   have lD := (rsB_rsd hrd).1
   have h0 : 0 ≤ deg m := by rw [hmon.1]; omega
   have HV := Lib.hid (dwV_0 hc hmon.1)
   clear hdr hfl hrg hrd hdz hcx
   have HMD := Lib.hid (fun W => dmodule_any n m G D W hpr lm h0)
   have HRO := Lib.hid (fun W => restOf_any n x m W hpr lx lm h0)
   have hxr : rsd n m (resP n x m) := ⟨resP_lt (by omega) lx, (resP_deg hpr lx lm h0).1⟩
   have HAC := Lib.hid (fun bs bk W (hS : Blk W bs 512 26 (fl 64 (tuF n m G D))) (hK : Row W bk 96 (fdC (n : Int) m).toArray) => gact_any n m G D a (resP n x m) bs bk W la hpr lm d hmon hd1 hd4 hi lG lD hxr hS hK)
   go_upto_region 4 with (first | (refine zlr rfl 58 (.tmp 3) rfl _ rfl 58 (drC (n : Int) m G D).toArray (B0) _ Try.underlying58 rfl 193 Try.size58 (by simp [drC_len]) ?_) | (refine zla (.tmp 4) B1 Try.underlying24 Try.size24 ?_) | (refine zla (.tmp 5) B2 Try.underlying24 Try.size24 ?_) | (refine wpList_build_polys rfl 40 _ [a, x] rfl 24 rfl Try.underlying40 Try.elem24 (by simp) (by simp) rfl ?_; intro wa hwa hps hba; clear hwa; replace B0 := B0.zw hba; replace B1 := B1.zw hba; replace B2 := B2.zw hba; replace B3 := B3.zw hba; replace hb := hb.trans (hba.mono hb.size)) | (go_at_call 149; refine (checkDrinfeld_any (n : Int) m G D hm hG hD [a, x] (by simp [ha, hx]) _ _ hps (by simp)).mono ?_; rintro e W8 ⟨rfl, hbb⟩; replace B0 := B0.zw hbb; replace B1 := B1.zw hbb; replace B2 := B2.zw hbb; replace B3 := B3.zw hbb; replace hb := hb.trans (hbb.mono hb.size); rw [hc]))
   clear hps hba hbb
   clear hc hi hmon lG lD la lx hxr
   refine wp_region_stepsU Try.mixed (by kernel_rfl) (by kernel_rfl) (fun v => by (simp only [frL, Act.put, pA, pB, pC, Nat.reduceAdd, Nat.zero_add]; exact rfl))
    (fun L v wx => Below w.heap.size w wx ∧ Row wx (w.heap.size) 58 (drC (n : Int) m G D).toArray ∧ Blk wx (w.heap.size + 1) 64 24 a ∧ Blk wx (w.heap.size + 1 + 1) 64 24 x ∧ (∃ g, Blk wx (w.heap.size + 1 + 1 + 1) 64 24 g) ∧ (L 10 = true → Blk wx (w.heap.size + 1 + 1 + 1) 64 24 (sgG (tuT n m d G D) n a (resP n x m) (deg a + 1).toNat)) ∧ (L 10 = false → L 1 = true → ∃ bs bk, v 1 = .agg (moC (n : Int) (deg m) (.func (.func 219) #[] #[.pointer (some ⟨bs, 0, none⟩), .pointer (some ⟨bk, 0, none⟩)])).toArray ∧ Blk wx bs 512 26 (fl 64 (tuF n m G D)) ∧ Row wx bk 96 (fdC (n : Int) m).toArray) ∧ (L 0 = true → v 0 = (.agg (drC (n : Int) m G D).toArray)) ∧ (L 2 = true → v 2 = (.agg (zb 64 a))) ∧ (L 3 = true → v 3 = (.pointer (some ⟨w.heap.size, 0, none⟩))) ∧ (L 4 = true → v 4 = (.int .i64 (n : Int))) ∧ (L 5 = true → v 5 = (.agg (zb 64 x))) ∧ (L 6 = true → v 6 = (.pointer (some ⟨w.heap.size, 1, none⟩))) ∧ (L 7 = true → v 7 = (.agg (zb 64 m))) ∧ (L 8 = true → v 8 = (.agg (zb 64 (resP n x m)))) ∧ (L 9 = true → v 9 = (.agg (zb 64 (sgG (tuT n m d G D) n a (resP n x m) (deg a + 1).toNat)))) ∧ (L 11 = true → v 11 = (.int .i64 0))) ?_ ?_ ?_
   · exact ⟨hb.drew, B0.drew, B1.drew, B2.drew, ⟨_, B3.drew⟩, (fun h => by cases h), (fun _ h => by cases h), (fun h => by cases h), (fun h => by cases h), (fun h => by cases h), (fun h => by cases h), (fun h => by cases h), (fun h => by cases h), (fun h => by cases h), (fun h => by cases h), (fun h => by cases h), (fun h => by cases h)⟩
   · refine (.cons rfl ?_ (.cons rfl ?_ (.cons rfl ?_ (.cons rfl ?_ (.cons rfl ?_ (.cons rfl ?_ (.cons rfl ?_ (.cons rfl ?_ (.cons rfl ?_ (.cons rfl ?_ (.cons rfl ?_ (.cons rfl ?_ (.nil _)))))))))))))
     · intro L v wx hd hn hU ⟨hB, s0, s1, s2, s3, s4, hE, h0, h2, h3, h4, h5, h6, h7, h8, h9, h11⟩ K hK
       refine wp_load_rowv 58 _ rfl _ rfl 58 _ s0 _ Try.underlying58 rfl 193 Try.size58 (by simp [drC_len]) ?_
       exact hK _ _ _ rfl ⟨hB, s0, s1, s2, s3, s4, hE, (fun _ => rfl), h2, h3, h4, h5, h6, h7, h8, h9, h11⟩
     · intro L v wx hd hn hU ⟨hB, s0, s1, s2, s3, s4, hE, h0, h2, h3, h4, h5, h6, h7, h8, h9, h11⟩ K hK
       have e0 := h0 (zdq hd 0 rfl)
       go_wp2_with (go_at_call 153; refine (HMD.out _).mono ?_; rintro e wy ⟨bs, bk, rfl, q2, q3, hy⟩)
       exact hK _ (.agg (moC (n : Int) (deg m) (.func (.func 219) #[] #[.pointer (some ⟨bs, 0, none⟩), .pointer (some ⟨bk, 0, none⟩)])).toArray) _ (by simp only [Act.put, pA, pB, pC, e0]) ⟨hB.trans (hy.mono hB.size), s0.zw hy, s1.zw hy, s2.zw hy, (let ⟨g, h⟩ := s3; ⟨g, h.zw hy⟩), (fun h => (s4 h).below hy (s4 h).lt), (fun _ _ => ⟨bs, bk, rfl, q2, q3⟩), h0, h2, h3, h4, h5, h6, h7, h8, h9, h11⟩
     · intro L v wx hd hn hU ⟨hB, s0, s1, s2, s3, s4, hE, h0, h2, h3, h4, h5, h6, h7, h8, h9, h11⟩ K hK
       refine zlc s1 Try.underlying24 Try.size24 ?_
       exact hK _ _ _ rfl ⟨hB, s0, s1, s2, s3, s4, hE, h0, (fun _ => rfl), h3, h4, h5, h6, h7, h8, h9, h11⟩
     · intro L v wx hd hn hU ⟨hB, s0, s1, s2, s3, s4, hE, h0, h2, h3, h4, h5, h6, h7, h8, h9, h11⟩ K hK
       go_wp2_with fail
       exact hK _ (.pointer (some ⟨w.heap.size, 0, none⟩)) _ (by simp only [Act.put, pA, pB, pC]) ⟨hB, s0, s1, s2, s3, s4, hE, h0, h2, (fun _ => rfl), h4, h5, h6, h7, h8, h9, h11⟩
     · intro L v wx hd hn hU ⟨hB, s0, s1, s2, s3, s4, hE, h0, h2, h3, h4, h5, h6, h7, h8, h9, h11⟩ K hK
       have e3 := h3 (zdq hd 3 rfl)
       refine wp_load_rowc 2 _ rfl _ 0 e3 58 _ s0 (.int .i64 (n : Int)) (drC_at _ _ _ _) _ Try.underlying2 rfl ?_
       exact hK _ _ _ rfl ⟨hB, s0, s1, s2, s3, s4, hE, h0, h2, h3, (fun _ => rfl), h5, h6, h7, h8, h9, h11⟩
     · intro L v wx hd hn hU ⟨hB, s0, s1, s2, s3, s4, hE, h0, h2, h3, h4, h5, h6, h7, h8, h9, h11⟩ K hK
       refine zlc s2 Try.underlying24 Try.size24 ?_
       exact hK _ _ _ rfl ⟨hB, s0, s1, s2, s3, s4, hE, h0, h2, h3, h4, (fun _ => rfl), h6, h7, h8, h9, h11⟩
     · intro L v wx hd hn hU ⟨hB, s0, s1, s2, s3, s4, hE, h0, h2, h3, h4, h5, h6, h7, h8, h9, h11⟩ K hK
       go_wp2_with fail
       exact hK _ (.pointer (some ⟨w.heap.size, 1, none⟩)) _ (by simp only [Act.put, pA, pB, pC]) ⟨hB, s0, s1, s2, s3, s4, hE, h0, h2, h3, h4, h5, (fun _ => rfl), h7, h8, h9, h11⟩
     · intro L v wx hd hn hU ⟨hB, s0, s1, s2, s3, s4, hE, h0, h2, h3, h4, h5, h6, h7, h8, h9, h11⟩ K hK
       have e6 := h6 (zdq hd 6 rfl)
       refine wp_load_mid 24 _ rfl _ 1 e6 _ _ (s0.drm) Try.underlying24 rfl (by rw [zl]; exact Try.size24) ?_
       exact hK _ _ _ rfl ⟨hB, s0, s1, s2, s3, s4, hE, h0, h2, h3, h4, h5, h6, (fun _ => rfl), h8, h9, h11⟩
     · intro L v wx hd hn hU ⟨hB, s0, s1, s2, s3, s4, hE, h0, h2, h3, h4, h5, h6, h7, h8, h9, h11⟩ K hK
       have e4 := h4 (zdq hd 4 rfl)
       have e5 := h5 (zdq hd 5 rfl)
       have e7 := h7 (zdq hd 7 rfl)
       go_wp2_with (go_at_call 121; refine (HRO.out _).mono ?_; rintro e wy ⟨rfl, hy⟩)
       exact hK _ (.agg (zb 64 (resP n x m))) _ (by simp only [Act.put, pA, pB, pC, e4, e5, e7]) ⟨hB.trans (hy.mono hB.size), s0.zw hy, s1.zw hy, s2.zw hy, (let ⟨g, h⟩ := s3; ⟨g, h.zw hy⟩), (fun h => (s4 h).below hy (s4 h).lt), (fun u v => let ⟨bs, bk, q1, q2, q3⟩ := hE u v; ⟨bs, bk, q1, q2.zw hy, q3.zw hy⟩), h0, h2, h3, h4, h5, h6, h7, (fun _ => rfl), h9, h11⟩
     · intro L v wx hd hn hU ⟨hB, s0, s1, s2, s3, s4, hE, h0, h2, h3, h4, h5, h6, h7, h8, h9, h11⟩ K hK
       have e2 := h2 (zdq hd 2 rfl)
       have e8 := h8 (zdq hd 8 rfl)
       have u10 : L 10 = false := by
        cases hl : L 10 with
        | false => rfl
        | true => exact absurd rfl (hn 10 _ rfl hl ⟨9, .data⟩ (by simp) rfl)
       obtain ⟨bs, bk, e1, hS1, hK1⟩ := hE u10 (zdq hd 1 rfl)
       go_wp2_with (go_at_call 120; refine (HAC.out bs bk _ hS1 hK1).mono ?_; rintro e wy ⟨rfl, hy⟩)
       exact hK _ (.agg (zb 64 (sgG (tuT n m d G D) n a (resP n x m) (deg a + 1).toNat))) _ (by simp only [Act.put, pA, pB, pC, e2, e8, e1]) ⟨hB.trans (hy.mono hB.size), s0.zw hy, s1.zw hy, s2.zw hy, (let ⟨g, h⟩ := s3; ⟨g, h.zw hy⟩), (fun h => (s4 h).below hy (s4 h).lt), (fun u v => let ⟨bs, bk, q1, q2, q3⟩ := hE u v; ⟨bs, bk, q1, q2.zw hy, q3.zw hy⟩), h0, h2, h3, h4, h5, h6, h7, h8, (fun _ => rfl), h11⟩
     · intro L v wx hd hn hU ⟨hB, s0, s1, s2, s3, s4, hE, h0, h2, h3, h4, h5, h6, h7, h8, h9, h11⟩ K hK
       have e9 := h9 (zdq hd 9 rfl)
       obtain ⟨gz, hk⟩ := s3
       have lt0 := s0.lt
       have hbs := hB.size
       refine zsb 24 _ _ rfl _ 64 (sgG (tuT n m d G D) n a (resP n x m) (deg a + 1).toNat) rfl e9 24 gz hk Try.size24 ?_
       exact hK _ undef _ rfl ⟨zr hB (by omega) _, s0.rowOther (by omega), s1.rowOther (by omega), s2.rowOther (by omega), ⟨_, hk.row _⟩, (fun _ => hk.row _), (fun h => absurd h (by simp [setL])), h0, h2, h3, h4, h5, h6, h7, h8, h9, h11⟩
     · intro L v wx hd hn hU ⟨hB, s0, s1, s2, s3, s4, hE, h0, h2, h3, h4, h5, h6, h7, h8, h9, h11⟩ K hK
       go_wp2_with fail
       exact hK _ (.int .i64 0) _ (by simp only [Act.put, pA, pB, pC]) ⟨hB, s0, s1, s2, s3, s4, hE, h0, h2, h3, h4, h5, h6, h7, h8, h9, (fun _ => rfl)⟩
   · intro L v wx hL ⟨hB, s0, s1, s2, s3, s4, hE, h0, h2, h3, h4, h5, h6, h7, h8, h9, h11⟩
     have s5 := s4 (hL 10 (by decide))
     have e11 := h11 (hL 11 (by decide))
     clear hL s3 s4 hE hb B0 B1 B2 B3 h0 h2 h3 h4 h5 h6 h7 h8 h9 h11
     have hb := hB
     have B3 := s5
     simp only [e11]
     go_wp2_with fail
     refine bodyPost_ret (results_bt rfl _ _ _ 64 24 5 _ rfl B3 Try.underlying24 Try.size24) rfl ⟨by first | (rw [HV.out]; rfl) | rw [HV.out], hb⟩
 · have HV := Lib.hid (dwV_1 hc)
   go_upto_region 3 with (first | (refine zlr rfl 58 (.tmp 3) rfl _ rfl 58 (drC p m G D).toArray (B0) _ Try.underlying58 rfl 193 Try.size58 (by simp [drC_len]) ?_) | (refine zla (.tmp 4) B1 Try.underlying24 Try.size24 ?_) | (refine zla (.tmp 5) B2 Try.underlying24 Try.size24 ?_) | (refine wpList_build_polys rfl 40 _ [a, x] rfl 24 rfl Try.underlying40 Try.elem24 (by simp) (by simp) rfl ?_; intro wa hwa hps hba; clear hwa; replace B0 := B0.zw hba; replace B1 := B1.zw hba; replace B2 := B2.zw hba; replace B3 := B3.zw hba; replace hb := hb.trans (hba.mono hb.size)) | (go_at_call 149; refine (checkDrinfeld_any p m G D hm hG hD [a, x] (by simp [ha, hx]) _ _ hps (by simp)).mono ?_; rintro e W8 ⟨rfl, hbb⟩; replace B0 := B0.zw hbb; replace B1 := B1.zw hbb; replace B2 := B2.zw hbb; replace B3 := B3.zw hbb; replace hb := hb.trans (hbb.mono hb.size); rw [hc]))
   clear hps hba hbb
   clear hc
   have lt_B0 := B0.lt
   have lt_B1 := B1.lt
   have lt_B2 := B2.lt
   have lt_B3 := B3.lt
   go_wp2_with (first | rw [← z64] | rw [← z64] | (refine zsr (.tmp 6) (.tmp 16) (fun _ => 0) B3 Try.size24 ?_; try simp only [Act.put]; go_wp2_with fail))
   obtain ⟨W21, hwo, hzQ⟩ : ∃ v : World, v = (W8.setRow (w.heap.size + 1 + 1 + 1) (zb 64 (fun _ => 0))) ∧ Row v (w.heap.size) 58 (drC p m G D).toArray ∧ Blk v (w.heap.size + 1) 64 24 (a) ∧ Blk v (w.heap.size + 1 + 1) 64 24 (x) ∧ Blk v (w.heap.size + 1 + 1 + 1) 64 24 (fun _ => 0) ∧ Below w.heap.size w v := ⟨_, rfl, (B0.rowOther (by omega)), (B1.rowOther (by omega)), (B2.rowOther (by omega)), (B3.row (fun _ => 0)), (zr hb (by omega) _)⟩
   rw [← hwo]
   clear hwo B0 B1 B2 B3 hb
   obtain ⟨B0, B1, B2, B3, hb⟩ := hzQ
   try simp only [Act.put, pA, pB, pC]
   refine bodyPost_ret (results_bt rfl _ _ _ 64 24 5 _ rfl B3 Try.underlying24 Try.size24) rfl ⟨by first | (rw [HV.out]; rfl) | rw [HV.out], hb⟩
set_option maxRecDepth 100000 in
set_option maxHeartbeats 6400000 in
theorem spec_DrinfeldValue_any (p : Int) (m G D a x : Nat → Nat) (hm : byte m) (hG : byte G) (hD : byte D) (ha : byte a) (hx : byte x) (w : World) :
 Calls Try.prog 63 #[(.agg (drC p m G D).toArray), .agg (zb 64 a), .agg (zb 64 x)] w fun e w' => e = .returned (.tuple #[.agg (zb 64 (dwV p m G D a x).1), .int .i64 (dwV p m G D a x).2]) ∧ Below w.heap.size w w' := by
 go_enter Try.func63, Try.ntmps63
 go_upto_region 1 with (fail)
 rw [← z64]
 obtain ⟨W1, hwo⟩ : ∃ v : World, v = ((((w.alloc (.cells (drC p m G D).toArray 58)).alloc (.cells (zb 64 (a)) 24)).alloc (.cells (zb 64 (x)) 24)).alloc (.cells (zb 64 (fun _ => 0)) 24)) := ⟨_, rfl⟩
 have B0 : Row W1 (w.heap.size) 58 (drC p m G D).toArray := by subst hwo; have := ((((Row.new w 58 (drC p m G D).toArray).alloc (.cells (zb 64 (a)) 24)).alloc (.cells (zb 64 (x)) 24)).alloc (.cells (zb 64 (fun _ => 0)) 24)); simpa using this
 have B1 : Blk W1 (w.heap.size + 1) 64 24 (a) := by subst hwo; have := (((Blk.new (w.alloc (.cells (drC p m G D).toArray 58)) 64 24 (a)).alloc (.cells (zb 64 (x)) 24)).alloc (.cells (zb 64 (fun _ => 0)) 24)); simpa using this
 have B2 : Blk W1 (w.heap.size + 1 + 1) 64 24 (x) := by subst hwo; have := ((Blk.new ((w.alloc (.cells (drC p m G D).toArray 58)).alloc (.cells (zb 64 (a)) 24)) 64 24 (x)).alloc (.cells (zb 64 (fun _ => 0)) 24)); simpa using this
 have B3 : Blk W1 (w.heap.size + 1 + 1 + 1) 64 24 (fun _ => 0) := by subst hwo; have := (Blk.new (((w.alloc (.cells (drC p m G D).toArray 58)).alloc (.cells (zb 64 (a)) 24)).alloc (.cells (zb 64 (x)) 24)) 64 24 (fun _ => 0)); simpa using this
 have hb : Below w.heap.size w W1 := by subst hwo; exact (((((Below.refl _ _).alloc (Nat.le_refl _) _).alloc (by simp) _).alloc (by simp; omega) _).alloc (by simp; omega) _)
 rw [← hwo]
 clear hwo
 rcases drCo_two p m G D [a, x] with hc | hc
 · obtain ⟨hdr, hcx⟩ := drCo_zero hc
   obtain ⟨hfl, hrg, hrd, hdz⟩ := drB_all hdr
   obtain ⟨n, rfl, hpr, lm, d, hmon, hd1, hd4⟩ := flV_fld hfl
   have la := lt_of_code hcx (f := a) (by simp)
   have lx := lt_of_code hcx (f := x) (by simp)
   have hi := drB_irr hdr hmon
   have lG := (rsB_rsd hrg).1
   have lD := (rsB_rsd hrd).1
   have h0 : 0 ≤ deg m := by rw [hmon.1]; omega
   have HV := Lib.hid (dwV_0 hc hmon.1)
   clear hdr hfl hrg hrd hdz hcx
   have HVL := Lib.hid (fun W => l06Value_any n m G D a x W la lx hpr lm d hmon hd1 hd4 hi lG lD)
   go_upto_region 4 with (first | (refine zlr rfl 58 (.tmp 3) rfl _ rfl 58 (drC (n : Int) m G D).toArray (B0) _ Try.underlying58 rfl 193 Try.size58 (by simp [drC_len]) ?_) | (refine zla (.tmp 4) B1 Try.underlying24 Try.size24 ?_) | (refine zla (.tmp 5) B2 Try.underlying24 Try.size24 ?_) | (refine wpList_build_polys rfl 40 _ [a, x] rfl 24 rfl Try.underlying40 Try.elem24 (by simp) (by simp) rfl ?_; intro wa hwa hps hba; clear hwa; replace B0 := B0.zw hba; replace B1 := B1.zw hba; replace B2 := B2.zw hba; replace B3 := B3.zw hba; replace hb := hb.trans (hba.mono hb.size)) | (go_at_call 147; refine (l06Code_any (n : Int) m G D hm hG hD [a, x] (by simp [ha, hx]) _ _ hps (by simp)).mono ?_; rintro e W8 ⟨rfl, hbb⟩; replace B0 := B0.zw hbb; replace B1 := B1.zw hbb; replace B2 := B2.zw hbb; replace B3 := B3.zw hbb; replace hb := hb.trans (hbb.mono hb.size); rw [hc]))
   clear hps hba hbb
   clear hc hi hmon lG lD la lx
   have lt_B0 := B0.lt
   have lt_B1 := B1.lt
   have lt_B2 := B2.lt
   have lt_B3 := B3.lt
   go_wp2_with (first | rw [← z64] | (refine zlr rfl 58 (.tmp 3) rfl _ rfl 58 (drC (n : Int) m G D).toArray (B0) _ Try.underlying58 rfl 193 Try.size58 (by simp [drC_len]) ?_) | (refine zla (.tmp 4) B1 Try.underlying24 Try.size24 ?_) | (refine zla (.tmp 5) B2 Try.underlying24 Try.size24 ?_) | (go_at_call 152; refine (HVL.out _).mono ?_; rintro e W21 ⟨rfl, hW21⟩; replace B0 := B0.zw hW21; replace B1 := B1.zw hW21; replace B2 := B2.zw hW21; replace B3 := B3.zw hW21; replace hb := (hb).trans (hW21.mono (hb).size)) | (refine zsr (.tmp 6) (.tmp 21) (sgG (tuT n m d G D) n a (resP n x m) (deg a + 1).toNat) B3 Try.size24 ?_; try simp only [Act.put]; go_wp2_with fail))
   obtain ⟨W22, hwo, hzQ⟩ : ∃ v : World, v = (W21.setRow (w.heap.size + 1 + 1 + 1) (zb 64 (sgG (tuT n m d G D) n a (resP n x m) (deg a + 1).toNat))) ∧ Row v (w.heap.size) 58 (drC (n : Int) m G D).toArray ∧ Blk v (w.heap.size + 1) 64 24 (a) ∧ Blk v (w.heap.size + 1 + 1) 64 24 (x) ∧ Blk v (w.heap.size + 1 + 1 + 1) 64 24 (sgG (tuT n m d G D) n a (resP n x m) (deg a + 1).toNat) ∧ Below w.heap.size w v := ⟨_, rfl, (B0.rowOther (by omega)), (B1.rowOther (by omega)), (B2.rowOther (by omega)), (B3.row (sgG (tuT n m d G D) n a (resP n x m) (deg a + 1).toNat)), (zr hb (by omega) _)⟩
   rw [← hwo]
   clear hwo B0 B1 B2 B3 hb
   obtain ⟨B0, B1, B2, B3, hb⟩ := hzQ
   try simp only [Act.put, pA, pB, pC]
   refine bodyPost_ret (results_bt rfl _ _ _ 64 24 5 _ rfl B3 Try.underlying24 Try.size24) rfl ⟨by first | (rw [HV.out]; rfl) | rw [HV.out], hb⟩
 · have HV := Lib.hid (dwV_1 hc)
   go_upto_region 3 with (first | (refine zlr rfl 58 (.tmp 3) rfl _ rfl 58 (drC p m G D).toArray (B0) _ Try.underlying58 rfl 193 Try.size58 (by simp [drC_len]) ?_) | (refine zla (.tmp 4) B1 Try.underlying24 Try.size24 ?_) | (refine zla (.tmp 5) B2 Try.underlying24 Try.size24 ?_) | (refine wpList_build_polys rfl 40 _ [a, x] rfl 24 rfl Try.underlying40 Try.elem24 (by simp) (by simp) rfl ?_; intro wa hwa hps hba; clear hwa; replace B0 := B0.zw hba; replace B1 := B1.zw hba; replace B2 := B2.zw hba; replace B3 := B3.zw hba; replace hb := hb.trans (hba.mono hb.size)) | (go_at_call 147; refine (l06Code_any p m G D hm hG hD [a, x] (by simp [ha, hx]) _ _ hps (by simp)).mono ?_; rintro e W8 ⟨rfl, hbb⟩; replace B0 := B0.zw hbb; replace B1 := B1.zw hbb; replace B2 := B2.zw hbb; replace B3 := B3.zw hbb; replace hb := hb.trans (hbb.mono hb.size); rw [hc]))
   clear hps hba hbb
   clear hc
   have lt_B0 := B0.lt
   have lt_B1 := B1.lt
   have lt_B2 := B2.lt
   have lt_B3 := B3.lt
   go_wp2_with (first | rw [← z64] | rw [← z64] | (refine zsr (.tmp 6) (.tmp 16) (fun _ => 0) B3 Try.size24 ?_; try simp only [Act.put]; go_wp2_with fail))
   obtain ⟨W21, hwo, hzQ⟩ : ∃ v : World, v = (W8.setRow (w.heap.size + 1 + 1 + 1) (zb 64 (fun _ => 0))) ∧ Row v (w.heap.size) 58 (drC p m G D).toArray ∧ Blk v (w.heap.size + 1) 64 24 (a) ∧ Blk v (w.heap.size + 1 + 1) 64 24 (x) ∧ Blk v (w.heap.size + 1 + 1 + 1) 64 24 (fun _ => 0) ∧ Below w.heap.size w v := ⟨_, rfl, (B0.rowOther (by omega)), (B1.rowOther (by omega)), (B2.rowOther (by omega)), (B3.row (fun _ => 0)), (zr hb (by omega) _)⟩
   rw [← hwo]
   clear hwo B0 B1 B2 B3 hb
   obtain ⟨B0, B1, B2, B3, hb⟩ := hzQ
   try simp only [Act.put, pA, pB, pC]
   refine bodyPost_ret (results_bt rfl _ _ _ 64 24 5 _ rfl B3 Try.underlying24 Try.size24) rfl ⟨by first | (rw [HV.out]; rfl) | rw [HV.out], hb⟩
set_option maxRecDepth 100000 in
set_option maxHeartbeats 1600000 in
theorem FnExactDrinfeldValue_walk (p : Int) (m G D a x : Nat → Nat) (hm : byte m) (hG : byte G) (hD : byte D) (ha : byte a) (hx : byte x) (w : World) :
 Calls Try.prog 16 #[(.agg (drC p m G D).toArray), .agg (zb 64 a), .agg (zb 64 x)] w fun e w' => e = .returned (.bool true) ∧ Below w.heap.size w w' := by
 have HTD := Lib.hid (fun W => toDrinfeld_any p m G D hm hG hD W)
 have HTA := Lib.hid (fun W => toPoly_any a ha W)
 have HTX := Lib.hid (fun W => toPoly_any x hx W)
 have HS := Lib.hid (fun W => spec_DrinfeldValue_any p m G D a x hm hG hD ha hx W)
 have HI := Lib.hid (fun W => impl_DrinfeldValue_any p m G D a x hm hG hD ha hx W)
 obtain ⟨Rv, hV⟩ : ∃ Rv, Rv = dwV p m G D a x := ⟨_, rfl⟩
 rw [← hV] at HS HI
 have hne1 : ((Rv.2) != (Rv.2)) = false := by simp
 clear hV
 go_enter Try.func16, Try.ntmps16
 go_upto_region 1 with (fail)
 obtain ⟨W1, hwo⟩ : ∃ v : World, v = (((w.alloc (.cells (drC p m G D).toArray 55)).alloc (.cells (zb 64 (a)) 22)).alloc (.cells (zb 64 (x)) 22)) := ⟨_, rfl⟩
 have B0 : Row W1 (w.heap.size) 55 (drC p m G D).toArray := by subst hwo; have := (((Row.new w 55 (drC p m G D).toArray).alloc (.cells (zb 64 (a)) 22)).alloc (.cells (zb 64 (x)) 22)); simpa using this
 have B1 : Blk W1 (w.heap.size + 1) 64 22 (a) := by subst hwo; have := ((Blk.new (w.alloc (.cells (drC p m G D).toArray 55)) 64 22 (a)).alloc (.cells (zb 64 (x)) 22)); simpa using this
 have B2 : Blk W1 (w.heap.size + 1 + 1) 64 22 (x) := by subst hwo; have := (Blk.new ((w.alloc (.cells (drC p m G D).toArray 55)).alloc (.cells (zb 64 (a)) 22)) 64 22 (x)); simpa using this
 have hb : Below w.heap.size w W1 := by subst hwo; exact ((((Below.refl _ _).alloc (Nat.le_refl _) _).alloc (by simp) _).alloc (by simp; omega) _)
 rw [← hwo]
 clear hwo
 have lt_B0 : (w.heap.size) < W1.heap.size := B0.lt
 have lt_B1 : (w.heap.size + 1) < W1.heap.size := B1.lt
 have lt_B2 : (w.heap.size + 1 + 1) < W1.heap.size := B2.lt
 refine zq Try.mixed (by kernel_rfl) (by kernel_rfl) (fun v => by (simp only [frL, Act.put, pA, pB, pC, Nat.reduceAdd, Nat.zero_add]; exact rfl))
  (fun L v W2 => Below W1.heap.size W1 W2 ∧ (L 10 = true → AF (v 10) W2 W1.heap.size 64 24) ∧ (L 11 = true → PF (v 10) W2 W1.heap.size 64 24 (Rv.1)) ∧ VF L v [some (.agg (drC p m G D).toArray), some (.agg (drC p m G D).toArray), some (.agg (zb 64 (a))), some (.agg (zb 64 (a))), some (.agg (zb 64 (x))), some (.agg (zb 64 (x))), some (.tuple #[(.agg (zb 64 (Rv.1))), (.int .i64 Rv.2)]), some (.tuple #[(.agg (zb 64 (Rv.1))), (.int .i64 Rv.2)]), some (.agg (zb 64 (Rv.1))), some (.int .i64 Rv.2), none, none, some (.int .i64 Rv.2)]) ?_ ?_ ?_
 · intro v hv0
   exact ⟨(Below.refl _ W1).drew, (fun h => by cases h), (fun h => by cases h), VF.start⟩
 · refine (.cons rfl ?_ (.cons rfl ?_ (.cons rfl ?_ (.cons rfl ?_ (.cons rfl ?_ (.cons rfl ?_ (.cons rfl ?_ (.cons rfl ?_ (.cons rfl ?_ (.cons rfl ?_ (.cons rfl ?_ (.cons rfl ?_ (.cons rfl ?_ (.nil _))))))))))))))
   all_goals intro L v W2 hd hn ⟨hY, h10, h11, V⟩ K hK
   · refine wp_load_rowv 55 _ rfl _ rfl 55 _ (B0.zw hY) _ Try.underlying55 rfl 193 Try.size55 (by simp [drC_len]) ?_
     exact hK _ _ _ rfl ⟨hY, h10, h11, V.step 0 rfl⟩
   · have e0 := V.at (zdq hd 0 rfl) rfl
     go_wp2_with (go_at_call 59; refine (HTD.out _).mono ?_; rintro e wy ⟨rfl, hy⟩)
     exact hK _ (.agg (drC p m G D).toArray) _ (by simp only [Act.put, pA, pB, pC, e0]) ⟨hY.trans (hy.mono hY.size), (fun h => (h10 h).below hy), (fun h => (h11 h).below hy), V.step 1 rfl⟩
   · refine zlc (B1.zw hY) Try.underlying22 Try.size22 ?_
     exact hK _ _ _ rfl ⟨hY, h10, h11, V.step 2 rfl⟩
   · have e2 := V.at (zdq hd 2 rfl) rfl
     go_wp2_with (go_at_call 28; refine (HTA.out _).mono ?_; rintro e wy ⟨rfl, hy⟩)
     exact hK _ (.agg (zb 64 (a))) _ (by simp only [Act.put, pA, pB, pC, e2]) ⟨hY.trans (hy.mono hY.size), (fun h => (h10 h).below hy), (fun h => (h11 h).below hy), V.step 3 rfl⟩
   · refine zlc (B2.zw hY) Try.underlying22 Try.size22 ?_
     exact hK _ _ _ rfl ⟨hY, h10, h11, V.step 4 rfl⟩
   · have e4 := V.at (zdq hd 4 rfl) rfl
     go_wp2_with (go_at_call 28; refine (HTX.out _).mono ?_; rintro e wy ⟨rfl, hy⟩)
     exact hK _ (.agg (zb 64 (x))) _ (by simp only [Act.put, pA, pB, pC, e4]) ⟨hY.trans (hy.mono hY.size), (fun h => (h10 h).below hy), (fun h => (h11 h).below hy), V.step 5 rfl⟩
   · have e1 := V.at (zdq hd 1 rfl) rfl
     have e3 := V.at (zdq hd 3 rfl) rfl
     have e5 := V.at (zdq hd 5 rfl) rfl
     go_wp2_with (go_at_call 63; refine (HS.out _).mono ?_; rintro e wy ⟨rfl, hy⟩)
     exact hK _ (.tuple #[(.agg (zb 64 (Rv.1))), (.int .i64 Rv.2)]) _ (by simp only [Act.put, pA, pB, pC, e1, e3, e5]) ⟨hY.trans (hy.mono hY.size), (fun h => (h10 h).below hy), (fun h => (h11 h).below hy), V.step 6 rfl⟩
   · have e6 := V.at (zdq hd 6 rfl) rfl
     go_wp2_with fail
     exact hK _ (.tuple #[(.agg (zb 64 (Rv.1))), (.int .i64 Rv.2)]) _ (by simp only [Act.put, pA, pB, pC, e6]) ⟨hY, h10, h11, V.step 7 rfl⟩
   · have e7 := V.at (zdq hd 7 rfl) rfl
     go_wp2_with fail
     exact hK _ (.agg (zb 64 (Rv.1))) _ (by simp only [Act.put, pA, pB, pC, e7]) ⟨hY, h10, h11, V.step 8 rfl⟩
   · have e7 := V.at (zdq hd 7 rfl) rfl
     go_wp2_with fail
     exact hK _ (.int .i64 Rv.2) _ (by simp only [Act.put, pA, pB, pC, e7]) ⟨hY, h10, h11, V.step 9 rfl⟩
   · go_wp2_with fail
     rw [← z64]
     exact hK _ (.pointer (some ⟨W2.heap.size, 0, none⟩)) _ (by simp only [Act.put, pA, pB, pC ]) ⟨hY.alloc hY.size _, (fun _ => (PF.new W2 64 24 _ hY.size).af), (fun h => absurd rfl (hn 11 _ rfl h ⟨10, .data⟩ (by simp) rfl)), V.skip 10 rfl⟩
   · have e8 := V.at (zdq hd 8 rfl) rfl
     obtain ⟨gz, b, ea, hN, hk⟩ := (h10 (zdq hd 10 rfl)).out
     refine zsb 24 _ _ rfl b 64 (Rv.1) ea e8 24 gz hk Try.size24 ?_
     exact hK _ undef _ rfl ⟨zr hY hN _, (fun h => (h10 h).row hk), (fun _ => by rw [show updV v 11 undef 10 = v 10 from rfl, ea]; exact PF.row hk hN _), V.skip 11 rfl⟩
   · have e9 := V.at (zdq hd 9 rfl) rfl
     go_wp2_with fail
     exact hK _ (.int .i64 Rv.2) _ (by simp only [Act.put, pA, pB, pC, e9]) ⟨hY, h10, h11, V.step 12 rfl⟩
 · intro L v W2 hL ⟨hY, h10, h11, V⟩
   obtain ⟨k1_10, e10, hNk1_10, hk1_10⟩ := (h11 (hL 11 (by decide))).out
   have e0 := V.at (hL 0 (by decide)) rfl
   have e1 := V.at (hL 1 (by decide)) rfl
   have e2 := V.at (hL 2 (by decide)) rfl
   have e3 := V.at (hL 3 (by decide)) rfl
   have e4 := V.at (hL 4 (by decide)) rfl
   have e5 := V.at (hL 5 (by decide)) rfl
   have e6 := V.at (hL 6 (by decide)) rfl
   have e7 := V.at (hL 7 (by decide)) rfl
   have e8 := V.at (hL 8 (by decide)) rfl
   have e9 := V.at (hL 9 (by decide)) rfl
   have e12 := V.at (hL 12 (by decide)) rfl
   clear hL h10 h11 V
   replace B0 := B0.zw hY
   replace B1 := B1.zw hY
   replace B2 := B2.zw hY
   replace hb := hb.trans (hY.mono hb.size)
   clear hY
   simp only [Exit.then, e10, e0, e1, e2, e3, e4, e5, e6, e7, e8, e9, e12]
   clear e10 e0 e1 e2 e3 e4 e5 e6 e7 e8 e9 e12
   have B3 := hk1_10
   clear hk1_10
   have zk1_10_0 : w.heap.size < k1_10 := by omega
   have zk1_10_1 : w.heap.size + 1 < k1_10 := by omega
   have zk1_10_2 : w.heap.size + 1 + 1 < k1_10 := by omega
   clear lt_B0 lt_B1 lt_B2
   go_upto_region 2 with (fail)
   have lt_B0 : (w.heap.size) < W2.heap.size := B0.lt
   have lt_B1 : (w.heap.size + 1) < W2.heap.size := B1.lt
   have lt_B2 : (w.heap.size + 1 + 1) < W2.heap.size := B2.lt
   have lt_B3 : (k1_10) < W2.heap.size := B3.lt
   refine zq Try.mixed (by kernel_rfl) (by kernel_rfl) (fun v => by (simp only [frL, Act.put, pA, pB, pC, Nat.reduceAdd, Nat.zero_add]; exact rfl))
    (fun L v W3 => Below W2.heap.size W2 W3 ∧ (L 10 = true → AF (v 10) W3 W2.heap.size 64 24) ∧ (L 11 = true → PF (v 10) W3 W2.heap.size 64 24 (Rv.1)) ∧ VF L v [some (.agg (drC p m G D).toArray), some (.agg (drC p m G D).toArray), some (.agg (zb 64 (a))), some (.agg (zb 64 (a))), some (.agg (zb 64 (x))), some (.agg (zb 64 (x))), some (.tuple #[(.agg (zb 64 (Rv.1))), (.int .i64 Rv.2)]), some (.tuple #[(.agg (zb 64 (Rv.1))), (.int .i64 Rv.2)]), some (.agg (zb 64 (Rv.1))), some (.int .i64 Rv.2), none, none, some (.int .i64 Rv.2)]) ?_ ?_ ?_
   · intro v hv0
     exact ⟨(Below.refl _ W2).drew, (fun h => by cases h), (fun h => by cases h), VF.start⟩
   · refine (.cons rfl ?_ (.cons rfl ?_ (.cons rfl ?_ (.cons rfl ?_ (.cons rfl ?_ (.cons rfl ?_ (.cons rfl ?_ (.cons rfl ?_ (.cons rfl ?_ (.cons rfl ?_ (.cons rfl ?_ (.cons rfl ?_ (.cons rfl ?_ (.nil _))))))))))))))
     all_goals intro L v W3 hd hn ⟨hY, h10, h11, V⟩ K hK
     · refine wp_load_rowv 55 _ rfl _ rfl 55 _ (B0.zw hY) _ Try.underlying55 rfl 193 Try.size55 (by simp [drC_len]) ?_
       exact hK _ _ _ rfl ⟨hY, h10, h11, V.step 0 rfl⟩
     · have e0 := V.at (zdq hd 0 rfl) rfl
       go_wp2_with (go_at_call 59; refine (HTD.out _).mono ?_; rintro e wy ⟨rfl, hy⟩)
       exact hK _ (.agg (drC p m G D).toArray) _ (by simp only [Act.put, pA, pB, pC, e0]) ⟨hY.trans (hy.mono hY.size), (fun h => (h10 h).below hy), (fun h => (h11 h).below hy), V.step 1 rfl⟩
     · refine zlc (B1.zw hY) Try.underlying22 Try.size22 ?_
       exact hK _ _ _ rfl ⟨hY, h10, h11, V.step 2 rfl⟩
     · have e2 := V.at (zdq hd 2 rfl) rfl
       go_wp2_with (go_at_call 28; refine (HTA.out _).mono ?_; rintro e wy ⟨rfl, hy⟩)
       exact hK _ (.agg (zb 64 (a))) _ (by simp only [Act.put, pA, pB, pC, e2]) ⟨hY.trans (hy.mono hY.size), (fun h => (h10 h).below hy), (fun h => (h11 h).below hy), V.step 3 rfl⟩
     · refine zlc (B2.zw hY) Try.underlying22 Try.size22 ?_
       exact hK _ _ _ rfl ⟨hY, h10, h11, V.step 4 rfl⟩
     · have e4 := V.at (zdq hd 4 rfl) rfl
       go_wp2_with (go_at_call 28; refine (HTX.out _).mono ?_; rintro e wy ⟨rfl, hy⟩)
       exact hK _ (.agg (zb 64 (x))) _ (by simp only [Act.put, pA, pB, pC, e4]) ⟨hY.trans (hy.mono hY.size), (fun h => (h10 h).below hy), (fun h => (h11 h).below hy), V.step 5 rfl⟩
     · have e1 := V.at (zdq hd 1 rfl) rfl
       have e3 := V.at (zdq hd 3 rfl) rfl
       have e5 := V.at (zdq hd 5 rfl) rfl
       go_wp2_with (go_at_call 64; refine (HI.out _).mono ?_; rintro e wy ⟨rfl, hy⟩)
       exact hK _ (.tuple #[(.agg (zb 64 (Rv.1))), (.int .i64 Rv.2)]) _ (by simp only [Act.put, pA, pB, pC, e1, e3, e5]) ⟨hY.trans (hy.mono hY.size), (fun h => (h10 h).below hy), (fun h => (h11 h).below hy), V.step 6 rfl⟩
     · have e6 := V.at (zdq hd 6 rfl) rfl
       go_wp2_with fail
       exact hK _ (.tuple #[(.agg (zb 64 (Rv.1))), (.int .i64 Rv.2)]) _ (by simp only [Act.put, pA, pB, pC, e6]) ⟨hY, h10, h11, V.step 7 rfl⟩
     · have e7 := V.at (zdq hd 7 rfl) rfl
       go_wp2_with fail
       exact hK _ (.agg (zb 64 (Rv.1))) _ (by simp only [Act.put, pA, pB, pC, e7]) ⟨hY, h10, h11, V.step 8 rfl⟩
     · have e7 := V.at (zdq hd 7 rfl) rfl
       go_wp2_with fail
       exact hK _ (.int .i64 Rv.2) _ (by simp only [Act.put, pA, pB, pC, e7]) ⟨hY, h10, h11, V.step 9 rfl⟩
     · go_wp2_with fail
       rw [← z64]
       exact hK _ (.pointer (some ⟨W3.heap.size, 0, none⟩)) _ (by simp only [Act.put, pA, pB, pC ]) ⟨hY.alloc hY.size _, (fun _ => (PF.new W3 64 24 _ hY.size).af), (fun h => absurd rfl (hn 11 _ rfl h ⟨10, .data⟩ (by simp) rfl)), V.skip 10 rfl⟩
     · have e8 := V.at (zdq hd 8 rfl) rfl
       obtain ⟨gz, b, ea, hN, hk⟩ := (h10 (zdq hd 10 rfl)).out
       refine zsb 24 _ _ rfl b 64 (Rv.1) ea e8 24 gz hk Try.size24 ?_
       exact hK _ undef _ rfl ⟨zr hY hN _, (fun h => (h10 h).row hk), (fun _ => by rw [show updV v 11 undef 10 = v 10 from rfl, ea]; exact PF.row hk hN _), V.skip 11 rfl⟩
     · have e9 := V.at (zdq hd 9 rfl) rfl
       go_wp2_with fail
       exact hK _ (.int .i64 Rv.2) _ (by simp only [Act.put, pA, pB, pC, e9]) ⟨hY, h10, h11, V.step 12 rfl⟩
   · intro L v W3 hL ⟨hY, h10, h11, V⟩
     obtain ⟨k2_10, e10, hNk2_10, hk2_10⟩ := (h11 (hL 11 (by decide))).out
     have e0 := V.at (hL 0 (by decide)) rfl
     have e1 := V.at (hL 1 (by decide)) rfl
     have e2 := V.at (hL 2 (by decide)) rfl
     have e3 := V.at (hL 3 (by decide)) rfl
     have e4 := V.at (hL 4 (by decide)) rfl
     have e5 := V.at (hL 5 (by decide)) rfl
     have e6 := V.at (hL 6 (by decide)) rfl
     have e7 := V.at (hL 7 (by decide)) rfl
     have e8 := V.at (hL 8 (by decide)) rfl
     have e9 := V.at (hL 9 (by decide)) rfl
     have e12 := V.at (hL 12 (by decide)) rfl
     clear hL h10 h11 V
     replace B0 := B0.zw hY
     replace B1 := B1.zw hY
     replace B2 := B2.zw hY
     replace B3 := B3.zw hY
     replace hb := hb.trans (hY.mono hb.size)
     clear hY
     simp only [Exit.then, e10, e0, e1, e2, e3, e4, e5, e6, e7, e8, e9, e12]
     clear e10 e0 e1 e2 e3 e4 e5 e6 e7 e8 e9 e12
     have B4 := hk2_10
     clear hk2_10
     have zk2_10_0 : w.heap.size < k2_10 := by omega
     have zk2_10_1 : w.heap.size + 1 < k2_10 := by omega
     have zk2_10_2 : w.heap.size + 1 + 1 < k2_10 := by omega
     have zk2_10_3 : k1_10 < k2_10 := by omega
     clear lt_B0 lt_B1 lt_B2 lt_B3
     go_upto_region 3 with (fail)
     go_wp2_with (first | (refine zla (.tmp 9) B4 Try.underlying24 Try.size24 ?_) | (refine zla (.tmp 7) B3 Try.underlying24 Try.size24 ?_) | (go_at_call 49; refine (eqPoly_same _ _ (fun _ _ => rfl) _).mono ?_; rintro e W4 ⟨rfl, hW4⟩; replace B0 := B0.zw hW4; replace B1 := B1.zw hW4; replace B2 := B2.zw hW4; replace B3 := B3.zw hW4; replace B4 := B4.zw hW4; replace hb := (hb).trans (hW4.mono (hb).size)))
     go_ret
     exact ⟨rfl, hb⟩
end Go.Proofs.Yteloknnooebabaa
end
