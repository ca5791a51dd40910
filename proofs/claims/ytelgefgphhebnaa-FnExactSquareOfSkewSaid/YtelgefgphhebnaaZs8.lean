/-
  What the rows of this claim rest on: arrays of bytes, walks of the functions, plain mathematics.
-/
import Derived.Test.YtelgefgphhebnaaZs7
import Derived.OpenShut
import Derived.ProofKit
import Derived.Test.YtelgefgphhebnaaRows
import Derived.JoinedOf
section
namespace Go.Proofs.Ytelgefgphhebnaa
open Go Go.RowKit
set_option linter.unusedVariables false
set_option linter.unusedSimpArgs false
set_option maxRecDepth 100000 in
set_option maxHeartbeats 1600000 in
theorem FnExactSquareOfSkew_walk (p : Int) (m : Nat → Nat) (F : Nat → Nat → Nat) (hm : byte m) (hF : ∀ i, byte (F i)) (w : World) :
 Calls Try.prog 10 #[.int .i64 p, .agg (zb 64 m), .agg (zb 512 (fl 64 F))] w fun e w' => e = .returned (.bool true) ∧ Below w.heap.size w w' := by
 go_enter Try.func10, Try.ntmps10
 go_upto_region 1 with (fail)
 obtain ⟨W1, hwo⟩ : ∃ v : World, v = ((w.alloc (.cells (zb 64 (m)) 22)).alloc (.cells (zb 512 (fl 64 F)) 53)) := ⟨_, rfl⟩
 have B0 : Blk W1 (w.heap.size) 64 22 (m) := by subst hwo; have := ((Blk.new w 64 22 (m)).alloc (.cells (zb 512 (fl 64 F)) 53)); simpa using this
 have B1 : Blk W1 (w.heap.size + 1) 512 53 (fl 64 F) := by subst hwo; have := (Blk.new (w.alloc (.cells (zb 64 (m)) 22)) 512 53 (fl 64 F)); simpa using this
 have hb : Below w.heap.size w W1 := by subst hwo; exact (((Below.refl _ _).alloc (Nat.le_refl _) _).alloc (by simp) _)
 rw [← hwo]
 clear hwo
 have hne1 : (((sqV p m F).2) != ((sqV p m F).2)) = false := by simp
 have lt_B0 : (w.heap.size) < W1.heap.size := B0.lt
 have lt_B1 : (w.heap.size + 1) < W1.heap.size := B1.lt
 refine zq Try.mixed (by kernel_rfl) (by kernel_rfl) (fun v => by (simp only [frL, Act.put, pA, pB, pC, Nat.reduceAdd, Nat.zero_add]; exact rfl))
  (fun L v W2 => Below W1.heap.size W1 W2 ∧ (L 9 = true → AF (v 9) W2 W1.heap.size 36 57) ∧ (L 10 = true → PF (v 9) W2 W1.heap.size 36 57 (fl 6 ((sqV p m F).1))) ∧ VF L v [some (.int .i64 p), some (.agg (zb 64 (m))), some (.agg (zb 64 (m))), some (.agg (zb 512 (fl 64 F))), some (.agg (zb 512 (fl 64 F))), some (.tuple #[(.agg (zb 36 (fl 6 ((sqV p m F).1)))), (.int .i64 ((sqV p m F).2))]), some (.tuple #[(.agg (zb 36 (fl 6 ((sqV p m F).1)))), (.int .i64 ((sqV p m F).2))]), some (.agg (zb 36 (fl 6 ((sqV p m F).1)))), some (.int .i64 ((sqV p m F).2)), none, none, some (.int .i64 ((sqV p m F).2))]) ?_ ?_ ?_
 · intro v hv0
   exact ⟨(Below.refl _ W1).drew, (fun h => by cases h), (fun h => by cases h), VF.start⟩
 · refine (.cons rfl ?_ (.cons rfl ?_ (.cons rfl ?_ (.cons rfl ?_ (.cons rfl ?_ (.cons rfl ?_ (.cons rfl ?_ (.cons rfl ?_ (.cons rfl ?_ (.cons rfl ?_ (.cons rfl ?_ (.cons rfl ?_ (.nil _)))))))))))))
   all_goals intro L v W2 hd hn ⟨hY, h9, h10, V⟩ K hK
   · go_wp2_with fail
     exact hK _ (.int .i64 p) _ (by simp only [Act.put, pA, pB, pC ]) ⟨hY, h9, h10, V.step 0 rfl⟩
   · refine zlc (B0.zw hY) Try.underlying22 Try.size22 ?_
     exact hK _ _ _ rfl ⟨hY, h9, h10, V.step 1 rfl⟩
   · have e1 := V.at (zdq hd 1 rfl) rfl
     go_wp2_with (go_at_call 16; refine (toPoly_any m hm _).mono ?_; rintro e wy ⟨rfl, hy⟩)
     exact hK _ (.agg (zb 64 (m))) _ (by simp only [Act.put, pA, pB, pC, e1]) ⟨hY.trans (hy.mono hY.size), (fun h => (h9 h).below hy), (fun h => (h10 h).below hy), V.step 2 rfl⟩
   · refine zlc (B1.zw hY) Try.underlying53 Try.size53 ?_
     exact hK _ _ _ rfl ⟨hY, h9, h10, V.step 3 rfl⟩
   · have e3 := V.at (zdq hd 3 rfl) rfl
     go_wp2_with (go_at_call 40; refine (toSkew_any F hF _).mono ?_; rintro e wy ⟨rfl, hy⟩)
     exact hK _ (.agg (zb 512 (fl 64 F))) _ (by simp only [Act.put, pA, pB, pC, e3]) ⟨hY.trans (hy.mono hY.size), (fun h => (h9 h).below hy), (fun h => (h10 h).below hy), V.step 4 rfl⟩
   · have e0 := V.at (zdq hd 0 rfl) rfl
     have e2 := V.at (zdq hd 2 rfl) rfl
     have e4 := V.at (zdq hd 4 rfl) rfl
     go_wp2_with (go_at_call 39; refine (spec_SquareOfSkew_any p m F hm hF _).mono ?_; rintro e wy ⟨rfl, hy⟩)
     exact hK _ (.tuple #[(.agg (zb 36 (fl 6 ((sqV p m F).1)))), (.int .i64 ((sqV p m F).2))]) _ (by simp only [Act.put, pA, pB, pC, e0, e2, e4]) ⟨hY.trans (hy.mono hY.size), (fun h => (h9 h).below hy), (fun h => (h10 h).below hy), V.step 5 rfl⟩
   · have e5 := V.at (zdq hd 5 rfl) rfl
     go_wp2_with fail
     exact hK _ (.tuple #[(.agg (zb 36 (fl 6 ((sqV p m F).1)))), (.int .i64 ((sqV p m F).2))]) _ (by simp only [Act.put, pA, pB, pC, e5]) ⟨hY, h9, h10, V.step 6 rfl⟩
   · have e6 := V.at (zdq hd 6 rfl) rfl
     go_wp2_with fail
     exact hK _ (.agg (zb 36 (fl 6 ((sqV p m F).1)))) _ (by simp only [Act.put, pA, pB, pC, e6]) ⟨hY, h9, h10, V.step 7 rfl⟩
   · have e6 := V.at (zdq hd 6 rfl) rfl
     go_wp2_with fail
     exact hK _ (.int .i64 ((sqV p m F).2)) _ (by simp only [Act.put, pA, pB, pC, e6]) ⟨hY, h9, h10, V.step 8 rfl⟩
   · go_wp2_with fail
     rw [← zero36]
     exact hK _ (.pointer (some ⟨W2.heap.size, 0, none⟩)) _ (by simp only [Act.put, pA, pB, pC ]) ⟨hY.alloc hY.size _, (fun _ => (PF.new W2 36 57 _ hY.size).af), (fun h => absurd rfl (hn 10 _ rfl h ⟨9, .data⟩ (by simp) rfl)), V.skip 9 rfl⟩
   · have e7 := V.at (zdq hd 7 rfl) rfl
     obtain ⟨gz, b, ea, hN, hk⟩ := (h9 (zdq hd 9 rfl)).out
     refine zsb 57 _ _ rfl b 36 (fl 6 ((sqV p m F).1)) ea e7 57 gz hk Try.size57 ?_
     exact hK _ undef _ rfl ⟨zr hY hN _, (fun h => (h9 h).row hk), (fun _ => by rw [show updV v 10 undef 9 = v 9 from rfl, ea]; exact PF.row hk hN _), V.skip 10 rfl⟩
   · have e8 := V.at (zdq hd 8 rfl) rfl
     go_wp2_with fail
     exact hK _ (.int .i64 ((sqV p m F).2)) _ (by simp only [Act.put, pA, pB, pC, e8]) ⟨hY, h9, h10, V.step 11 rfl⟩
 · intro L v W2 hL ⟨hY, h9, h10, V⟩
   obtain ⟨k1_9, e9, hNk1_9, hk1_9⟩ := (h10 (hL 10 (by decide))).out
   have e0 := V.at (hL 0 (by decide)) rfl
   have e1 := V.at (hL 1 (by decide)) rfl
   have e2 := V.at (hL 2 (by decide)) rfl
   have e3 := V.at (hL 3 (by decide)) rfl
   have e4 := V.at (hL 4 (by decide)) rfl
   have e5 := V.at (hL 5 (by decide)) rfl
   have e6 := V.at (hL 6 (by decide)) rfl
   have e7 := V.at (hL 7 (by decide)) rfl
   have e8 := V.at (hL 8 (by decide)) rfl
   have e11 := V.at (hL 11 (by decide)) rfl
   clear hL h9 h10 V
   replace B0 := B0.zw hY
   replace B1 := B1.zw hY
   replace hb := hb.trans (hY.mono hb.size)
   clear hY
   simp only [Exit.then, e9, e0, e1, e2, e3, e4, e5, e6, e7, e8, e11]
   clear e9 e0 e1 e2 e3 e4 e5 e6 e7 e8 e11
   have B2 := hk1_9
   clear hk1_9
   have zk1_9_0 : w.heap.size < k1_9 := by omega
   have zk1_9_1 : w.heap.size + 1 < k1_9 := by omega
   clear lt_B0 lt_B1
   go_upto_region 2 with (fail)
   have lt_B0 : (w.heap.size) < W2.heap.size := B0.lt
   have lt_B1 : (w.heap.size + 1) < W2.heap.size := B1.lt
   have lt_B2 : (k1_9) < W2.heap.size := B2.lt
   refine zq Try.mixed (by kernel_rfl) (by kernel_rfl) (fun v => by (simp only [frL, Act.put, pA, pB, pC, Nat.reduceAdd, Nat.zero_add]; exact rfl))
    (fun L v W3 => Below W2.heap.size W2 W3 ∧ (L 9 = true → AF (v 9) W3 W2.heap.size 36 57) ∧ (L 10 = true → PF (v 9) W3 W2.heap.size 36 57 (fl 6 ((sqV p m F).1))) ∧ VF L v [some (.int .i64 p), some (.agg (zb 64 (m))), some (.agg (zb 64 (m))), some (.agg (zb 512 (fl 64 F))), some (.agg (zb 512 (fl 64 F))), some (.tuple #[(.agg (zb 36 (fl 6 ((sqV p m F).1)))), (.int .i64 ((sqV p m F).2))]), some (.tuple #[(.agg (zb 36 (fl 6 ((sqV p m F).1)))), (.int .i64 ((sqV p m F).2))]), some (.agg (zb 36 (fl 6 ((sqV p m F).1)))), some (.int .i64 ((sqV p m F).2)), none, none, some (.int .i64 ((sqV p m F).2))]) ?_ ?_ ?_
   · intro v hv0
     exact ⟨(Below.refl _ W2).drew, (fun h => by cases h), (fun h => by cases h), VF.start⟩
   · refine (.cons rfl ?_ (.cons rfl ?_ (.cons rfl ?_ (.cons rfl ?_ (.cons rfl ?_ (.cons rfl ?_ (.cons rfl ?_ (.cons rfl ?_ (.cons rfl ?_ (.cons rfl ?_ (.cons rfl ?_ (.cons rfl ?_ (.nil _)))))))))))))
     all_goals intro L v W3 hd hn ⟨hY, h9, h10, V⟩ K hK
     · go_wp2_with fail
       exact hK _ (.int .i64 p) _ (by simp only [Act.put, pA, pB, pC ]) ⟨hY, h9, h10, V.step 0 rfl⟩
     · refine zlc (B0.zw hY) Try.underlying22 Try.size22 ?_
       exact hK _ _ _ rfl ⟨hY, h9, h10, V.step 1 rfl⟩
     · have e1 := V.at (zdq hd 1 rfl) rfl
       go_wp2_with (go_at_call 16; refine (toPoly_any m hm _).mono ?_; rintro e wy ⟨rfl, hy⟩)
       exact hK _ (.agg (zb 64 (m))) _ (by simp only [Act.put, pA, pB, pC, e1]) ⟨hY.trans (hy.mono hY.size), (fun h => (h9 h).below hy), (fun h => (h10 h).below hy), V.step 2 rfl⟩
     · refine zlc (B1.zw hY) Try.underlying53 Try.size53 ?_
       exact hK _ _ _ rfl ⟨hY, h9, h10, V.step 3 rfl⟩
     · have e3 := V.at (zdq hd 3 rfl) rfl
       go_wp2_with (go_at_call 40; refine (toSkew_any F hF _).mono ?_; rintro e wy ⟨rfl, hy⟩)
       exact hK _ (.agg (zb 512 (fl 64 F))) _ (by simp only [Act.put, pA, pB, pC, e3]) ⟨hY.trans (hy.mono hY.size), (fun h => (h9 h).below hy), (fun h => (h10 h).below hy), V.step 4 rfl⟩
     · have e0 := V.at (zdq hd 0 rfl) rfl
       have e2 := V.at (zdq hd 2 rfl) rfl
       have e4 := V.at (zdq hd 4 rfl) rfl
       go_wp2_with (go_at_call 41; refine (impl_SquareOfSkew_any p m F hm hF _).mono ?_; rintro e wy ⟨rfl, hy⟩)
       exact hK _ (.tuple #[(.agg (zb 36 (fl 6 ((sqV p m F).1)))), (.int .i64 ((sqV p m F).2))]) _ (by simp only [Act.put, pA, pB, pC, e0, e2, e4]) ⟨hY.trans (hy.mono hY.size), (fun h => (h9 h).below hy), (fun h => (h10 h).below hy), V.step 5 rfl⟩
     · have e5 := V.at (zdq hd 5 rfl) rfl
       go_wp2_with fail
       exact hK _ (.tuple #[(.agg (zb 36 (fl 6 ((sqV p m F).1)))), (.int .i64 ((sqV p m F).2))]) _ (by simp only [Act.put, pA, pB, pC, e5]) ⟨hY, h9, h10, V.step 6 rfl⟩
     · have e6 := V.at (zdq hd 6 rfl) rfl
       go_wp2_with fail
       exact hK _ (.agg (zb 36 (fl 6 ((sqV p m F).1)))) _ (by simp only [Act.put, pA, pB, pC, e6]) ⟨hY, h9, h10, V.step 7 rfl⟩
     · have e6 := V.at (zdq hd 6 rfl) rfl
       go_wp2_with fail
       exact hK _ (.int .i64 ((sqV p m F).2)) _ (by simp only [Act.put, pA, pB, pC, e6]) ⟨hY, h9, h10, V.step 8 rfl⟩
     · go_wp2_with fail
       rw [← zero36]
       exact hK _ (.pointer (some ⟨W3.heap.size, 0, none⟩)) _ (by simp only [Act.put, pA, pB, pC ]) ⟨hY.alloc hY.size _, (fun _ => (PF.new W3 36 57 _ hY.size).af), (fun h => absurd rfl (hn 10 _ rfl h ⟨9, .data⟩ (by simp) rfl)), V.skip 9 rfl⟩
     · have e7 := V.at (zdq hd 7 rfl) rfl
       obtain ⟨gz, b, ea, hN, hk⟩ := (h9 (zdq hd 9 rfl)).out
       refine zsb 57 _ _ rfl b 36 (fl 6 ((sqV p m F).1)) ea e7 57 gz hk Try.size57 ?_
       exact hK _ undef _ rfl ⟨zr hY hN _, (fun h => (h9 h).row hk), (fun _ => by rw [show updV v 10 undef 9 = v 9 from rfl, ea]; exact PF.row hk hN _), V.skip 10 rfl⟩
     · have e8 := V.at (zdq hd 8 rfl) rfl
       go_wp2_with fail
       exact hK _ (.int .i64 ((sqV p m F).2)) _ (by simp only [Act.put, pA, pB, pC, e8]) ⟨hY, h9, h10, V.step 11 rfl⟩
   · intro L v W3 hL ⟨hY, h9, h10, V⟩
     obtain ⟨k2_9, e9, hNk2_9, hk2_9⟩ := (h10 (hL 10 (by decide))).out
     have e0 := V.at (hL 0 (by decide)) rfl
     have e1 := V.at (hL 1 (by decide)) rfl
     have e2 := V.at (hL 2 (by decide)) rfl
     have e3 := V.at (hL 3 (by decide)) rfl
     have e4 := V.at (hL 4 (by decide)) rfl
     have e5 := V.at (hL 5 (by decide)) rfl
     have e6 := V.at (hL 6 (by decide)) rfl
     have e7 := V.at (hL 7 (by decide)) rfl
     have e8 := V.at (hL 8 (by decide)) rfl
     have e11 := V.at (hL 11 (by decide)) rfl
     clear hL h9 h10 V
     replace B0 := B0.zw hY
     replace B1 := B1.zw hY
     replace B2 := B2.zw hY
     replace hb := hb.trans (hY.mono hb.size)
     clear hY
     simp only [Exit.then, e9, e0, e1, e2, e3, e4, e5, e6, e7, e8, e11]
     clear e9 e0 e1 e2 e3 e4 e5 e6 e7 e8 e11
     have B3 := hk2_9
     clear hk2_9
     have zk2_9_0 : w.heap.size < k2_9 := by omega
     have zk2_9_1 : w.heap.size + 1 < k2_9 := by omega
     have zk2_9_2 : k1_9 < k2_9 := by omega
     clear lt_B0 lt_B1 lt_B2
     go_upto_region 3 with (fail)
     go_wp2_with (first | (refine zla (.tmp 9) B3 Try.underlying57 Try.size57 ?_) | (refine zla (.tmp 7) B2 Try.underlying57 Try.size57 ?_) | (go_at_call 42; refine (eqSquare_same _ _ (fun _ _ _ _ => rfl) _).mono ?_; rintro e W4 ⟨rfl, hW4⟩; replace B0 := B0.zw hW4; replace B1 := B1.zw hW4; replace B2 := B2.zw hW4; replace B3 := B3.zw hW4; replace hb := (hb).trans (hW4.mono (hb).size)))
     go_ret
     exact ⟨rfl, hb⟩
end Go.Proofs.Ytelgefgphhebnaa
end
section
namespace Go.Proofs.Ytelgefgphhebnaa
open Go.ChangeShapes Go.WideShapes Go.ChangeAt Go.RowKit
section
variable {H : Type} {enc : TypeId × Value → H} {P : Program}
theorem trod_int_to {e : TypeId} {k : IntKind} (he : P.underlying e = some (.int k)) {w : World} (w' : World) {b : Nat} (b' : Nat) {s : Nat → Bool} (s' : Nat → Bool) {h : Bool} (h' : Bool) {m : Nat} {c : List Value} {x : DataW H × List MemPlace}
 (hx : DataW.trod enc P w b s h m e c = some x) : DataW.trod enc P w' b' s' h' m e c = some x := by
 cases m with
 | zero => simp [DataW.trod] at hx
 | succ m =>
  obtain ⟨n, rfl, rfl, hw⟩ := DataW.trod_int he hx
  unfold DataW.trod
  rw [he]
  simp [hw]
theorem trod_int_same {e : TypeId} {k : IntKind} (he : P.underlying e = some (.int k)) (w w' : World) (b b' : Nat) (s s' : Nat → Bool) (h h' : Bool) (m : Nat) (c : List Value) :
 DataW.trod enc P w b s h m e c = DataW.trod enc P w' b' s' h' m e c := by
 cases h1 : DataW.trod enc P w b s h m e c with
 | some x => rw [trod_int_to he w' b' s' h' h1]
 | none =>
  cases h2 : DataW.trod enc P w' b' s' h' m e c with
  | none => rfl
  | some x => rw [trod_int_to he w b s h h2] at h1; cases h1
theorem open_barr {t e : TypeId} {n : Nat} {w : World} {r : Reach} {b0 base : Nat} {spare : Nat → Bool} {held : Bool} {v : Value} {d : DataW H} {p : List MemPlace}
 (ht : P.underlying t = some (.array n e)) (he : P.underlying e = some (.int .u8)) (hC : P.cellsOf t = n) (hCe : P.cellsOf e = 1)
 (hv : Value.okWide P w r b0 t v) (h : DataW.Trod enc P w base spare held t v d p) :
 ∃ f : Nat → Nat, byte f ∧ v = .agg (zb n f) ∧ p = [] ∧ ∀ (w' : World) (base' : Nat) (spare' : Nat → Bool) (held' : Bool), DataW.Trod enc P w' base' spare' held' t v d [] := by
 unfold Value.okWide at hv
 rw [ht] at hv
 obtain ⟨cs, rfl, hsz, _⟩ := hv
 obtain ⟨fuel, hf⟩ := h
 obtain ⟨xs, m, hm, hx, hlen, hxl, hel⟩ := DataW.trod_array ht hf
 subst hm
 have hcs : cs.size = n := by rw [hsz, hC]
 have each : ∀ i, i < n → ∃ k : Nat, k < 256 ∧ cs[i]? = some (.int .u8 (k : Int)) ∧ xs[i]? = some (.lit (.int .u8 (k : Int)), []) := by
  intro i hi
  have h1 := hel i hi
  have hxi : xs[i]? = some (xs[i]'(by omega)) := List.getElem?_eq_getElem (by omega)
  rw [hxi, hCe] at h1
  obtain ⟨z, hz1, hz2, hz3⟩ := DataW.trod_int he h1
  have hb := bounds_u8 hz3
  obtain ⟨k, rfl⟩ := Int.eq_ofNat_of_zero_le hb.1
  refine ⟨k, by omega, ?_, by rw [hxi, hz2]⟩
  have h2 : ((cs.toList.drop (i * 1)).take 1)[0]? = some (.int .u8 (k : Int)) := by
   have h3 : (Value.agg cs).cells.toList = cs.toList := rfl
   rw [← h3, hz1]; rfl
  simpa using h2
 refine ⟨fun i => match cs[i]? with | some (.int _ z) => if i < n then z.toNat else 0 | _ => 0, ?_, ?_, ?_, ?_⟩
 · intro i
   by_cases hi : i < n
   · obtain ⟨k, hk, hc, _⟩ := each i hi
     simp only [hc, hi, if_true, Int.toNat_natCast]
     exact hk
   · have : cs[i]? = none := Array.getElem?_eq_none (by omega)
     simp [this]
 · congr 1
   apply Array.ext_getElem?
   intro i
   by_cases hi : i < n
   · obtain ⟨k, hk, hc, _⟩ := each i hi
     rw [bcells_get hi]
     simp only [hc, hi, if_true, Int.toNat_natCast]
   · rw [Array.getElem?_eq_none (by omega), Array.getElem?_eq_none (by rw [zbs]; omega)]
 · have hp : p = xs.flatMap (·.2) := by simpa using congrArg Prod.snd hx
   rw [hp]
   rw [List.flatMap_eq_nil_iff]
   intro x hxm
   obtain ⟨i, hi⟩ := List.getElem?_of_mem hxm
   have hin : i < n := by rw [← hxl]; exact (List.getElem?_eq_some_iff.1 hi).1
   obtain ⟨k, _, _, h2⟩ := each i hin
   rw [hi] at h2
   injection h2 with h2
   rw [h2]
 · intro w' base' spare' held'
   refine ⟨m + 1, ?_⟩
   have e1 : DataW.trod enc P w' base' spare' held' (m + 1) t (Value.agg cs).cells.toList = DataW.trod enc P w base spare held (m + 1) t (Value.agg cs).cells.toList := by
    unfold DataW.trod
    rw [ht]
    simp only [trod_int_same he w' w base' base spare' spare held' held m]
   rw [e1, hf]
   have hp : p = xs.flatMap (·.2) := by simpa using congrArg Prod.snd hx
   have : p = [] := by
    rw [hp, List.flatMap_eq_nil_iff]
    intro x hxm
    obtain ⟨i, hi⟩ := List.getElem?_of_mem hxm
    have hin : i < n := by rw [← hxl]; exact (List.getElem?_eq_some_iff.1 hi).1
    obtain ⟨k, _, _, h2⟩ := each i hin
    rw [hi] at h2
    injection h2 with h2
    rw [h2]
   rw [this]
/-- the row's last step where the call has only made new memory, and the row does not say 'again' -/
theorem post_of_below0 {f : Func} {s : ChangeSpec} {apart fresh handsOn : Bool} {W W' : World} {args : Array Value} {v : Value} {ds gs : List (DataW H)} {before pa pv : List MemPlace}
 (hW : DataW.Whole enc P f.params.toList s.vars apart W args.toList ds gs before)
 (hres : ∀ (b : Nat) (sp : Nat → Bool) (hd : Bool), DataW.TrodAll enc P W' b sp hd f.resultTypes.toList (v.resultList f.resultTypes.size) (s.fn H (ds ++ gs)).results [])
 (hargs : ∀ sp : Nat → Bool, (∀ p ∈ before, sp p.block = true) → DataW.TrodAll enc P W' 0 sp true f.params.toList args.toList (s.fn H (ds ++ gs)).args pa)
 (hvars : ∀ sp : Nat → Bool, (∀ p ∈ before, sp p.block = true) → DataW.TrodVars enc P W' sp s.vars (s.fn H (ds ++ gs)).vars pv)
 (hps : before = pa ++ pv) (hb : Below W.heap.size W W') : s.post enc P f apart fresh handsOn false W args v W' := by
 have held : ∀ p ∈ before, (fun b => decide (b < W.heap.size)) p.block = true := fun p hp => by simpa using hW.lt p hp
 refine ⟨ds, gs, before, [], pa, pv, hW, hres _ _ _, hargs _ held, hvars _ held, ?_, fun h => by cases h⟩
 refine World.keptBut_mono (fun p hp => ⟨hp, .inr ?_⟩) (hb.frame (· ∈ before))
 rw [hps, List.mem_append] at hp
 exact hp
end
end Go.Proofs.Ytelgefgphhebnaa
end
section
namespace Go.Proofs.Ytelgefgphhebnaa
open Go.ChangeShapes Go.WideShapes Go.ChangeAt Go.RowKit
set_option linter.unusedVariables false
theorem fl_whole (f : Nat → Nat) : fl 64 (fun i j => f (i * 64 + j)) = f := by
 funext k
 unfold fl
 show f (k / 64 * 64 + k % 64) = f k
 congr 1
 omega
section
variable {H : Type} {enc : TypeId × Value → H} {P : Program}
theorem trod_barr_same {e u n : Nat} {k : IntKind} (he : P.underlying e = some (.array n u)) (hu : P.underlying u = some (.int k)) (w w' : World) (b b' : Nat) (s s' : Nat → Bool) (h h' : Bool) (m : Nat) (c : List Value) :
 DataW.trod enc P w b s h m e c = DataW.trod enc P w' b' s' h' m e c := by
 cases m with
 | zero => simp [DataW.trod]
 | succ m =>
  unfold DataW.trod
  rw [he]
  simp only [trod_int_same hu w w' b b' s s' h h' m]
theorem open_bsk {t e u : TypeId} {w : World} {r : Reach} {b0 base : Nat} {spare : Nat → Bool} {held : Bool} {v : Value} {d : DataW H} {p : List MemPlace}
 (ht : P.underlying t = some (.array 8 e)) (he : P.underlying e = some (.array 64 u)) (hu : P.underlying u = some (.int .u8)) (hC : P.cellsOf t = 512) (hCe : P.cellsOf e = 64) (hCu : P.cellsOf u = 1)
 (hv : Value.okWide P w r b0 t v) (h : DataW.Trod enc P w base spare held t v d p) :
 ∃ F : Nat → Nat → Nat, (∀ i, byte (F i)) ∧ v = .agg (zb 512 (fl 64 F)) ∧ p = [] ∧ ∀ (w' : World) (base' : Nat) (spare' : Nat → Bool) (held' : Bool), DataW.Trod enc P w' base' spare' held' t v d [] := by
 unfold Value.okWide at hv
 rw [ht] at hv
 obtain ⟨cs, rfl, hsz, _⟩ := hv
 obtain ⟨fuel, hf⟩ := h
 obtain ⟨xs, m, hm, hx, hlen, hxl, hel⟩ := DataW.trod_array ht hf
 subst hm
 have hcs : cs.size = 512 := by rw [hsz, hC]
 have each : ∀ i, i < 8 → (∃ y, xs[i]? = some (y, [])) ∧ ∀ j, j < 64 → ∃ k : Nat, k < 256 ∧ cs[i * 64 + j]? = some (.int .u8 (k : Int)) := by
  intro i hi
  have h1 := hel i hi
  have hxi : xs[i]? = some (xs[i]'(by omega)) := List.getElem?_eq_getElem (by omega)
  rw [hxi, hCe] at h1
  obtain ⟨ys, m2, hm2, hx2, hlen2, hyl, hel2⟩ := DataW.trod_array he h1
  subst hm2
  have byt : ∀ j, j < 64 → ∃ k : Nat, k < 256 ∧ cs[i * 64 + j]? = some (.int .u8 (k : Int)) ∧ ys[j]? = some (.lit (.int .u8 (k : Int)), []) := by
   intro j hj
   have h3 := hel2 j hj
   have hyj : ys[j]? = some (ys[j]'(by omega)) := List.getElem?_eq_getElem (by omega)
   rw [hyj, hCu] at h3
   obtain ⟨z, hz1, hz2, hz3⟩ := DataW.trod_int hu h3
   have hb := bounds_u8 hz3
   obtain ⟨k, rfl⟩ := Int.eq_ofNat_of_zero_le hb.1
   refine ⟨k, by omega, ?_, by rw [hyj, hz2]⟩
   have h4 : (((((Value.agg cs).cells.toList.drop (i * 64)).take 64).drop (j * 1)).take 1)[0]? = some (.int .u8 (k : Int)) := by
    rw [hz1]; rfl
   have h5 : (Value.agg cs).cells.toList = cs.toList := rfl
   rw [h5] at h4
   simp only [List.getElem?_take, List.getElem?_drop, Nat.mul_one, Nat.add_zero, Nat.lt_add_one, if_true, hj] at h4
   simpa using h4
  refine ⟨⟨(xs[i]'(by omega)).1, ?_⟩, fun j hj => let ⟨k, a, b, _⟩ := byt j hj; ⟨k, a, b⟩⟩
  · rw [hxi]
    congr 1
    refine Prod.ext rfl ?_
    have hp : (xs[i]'(by omega)).2 = ys.flatMap (·.2) := by simpa using congrArg Prod.snd hx2
    show (xs[i]'(by omega)).2 = []
    rw [hp, List.flatMap_eq_nil_iff]
    intro x hxm
    obtain ⟨j, hj⟩ := List.getElem?_of_mem hxm
    have hjn : j < 64 := by rw [← hyl]; exact (List.getElem?_eq_some_iff.1 hj).1
    obtain ⟨k, _, _, h2⟩ := byt j hjn
    rw [hj] at h2
    injection h2 with h2
    rw [h2]
 have hp : p = [] := by
  have hp : p = xs.flatMap (·.2) := by simpa using congrArg Prod.snd hx
  rw [hp, List.flatMap_eq_nil_iff]
  intro x hxm
  obtain ⟨i, hi⟩ := List.getElem?_of_mem hxm
  have hin : i < 8 := by rw [← hxl]; exact (List.getElem?_eq_some_iff.1 hi).1
  obtain ⟨⟨y, h2⟩, _⟩ := each i hin
  rw [hi] at h2
  injection h2 with h2
  rw [h2]
 have cell : ∀ k, k < 512 → ∃ z : Nat, z < 256 ∧ cs[k]? = some (.int .u8 (z : Int)) := by
  intro k hk
  obtain ⟨z, a, b⟩ := (each (k / 64) (by omega)).2 (k % 64) (by omega)
  rw [show k / 64 * 64 + k % 64 = k by omega] at b
  exact ⟨z, a, b⟩
 obtain ⟨f, hf1, hf2⟩ : ∃ f : Nat → Nat, byte f ∧ (Value.agg cs) = .agg (zb 512 f) := by
  refine ⟨fun i => match cs[i]? with | some (.int _ z) => if i < 512 then z.toNat else 0 | _ => 0, ?_, ?_⟩
  · intro i
    by_cases hi : i < 512
    · obtain ⟨k, hk, hc⟩ := cell i hi
      simp only [hc, hi, if_true, Int.toNat_natCast]
      exact hk
    · have : cs[i]? = none := Array.getElem?_eq_none (by omega)
      simp [this]
  · congr 1
    apply Array.ext_getElem?
    intro i
    by_cases hi : i < 512
    · obtain ⟨k, hk, hc⟩ := cell i hi
      rw [bcells_get hi]
      simp only [hc, hi, if_true, Int.toNat_natCast]
    · rw [Array.getElem?_eq_none (by omega), Array.getElem?_eq_none (by rw [zbs]; omega)]
 refine ⟨fun i j => f (i * 64 + j), fun i j => hf1 _, ?_, hp, ?_⟩
 · rw [fl_whole]; exact hf2
 · intro w' base' spare' held'
   refine ⟨m + 1, ?_⟩
   have e1 : DataW.trod enc P w' base' spare' held' (m + 1) t (Value.agg cs).cells.toList = DataW.trod enc P w base spare held (m + 1) t (Value.agg cs).cells.toList := by
    unfold DataW.trod
    rw [ht]
    simp only [trod_barr_same he hu w' w base' base spare' spare held' held m]
   rw [e1, hf, hp]
end
end Go.Proofs.Ytelgefgphhebnaa
end
section
namespace Go.Proofs.Ytelgefgphhebnaa
open Go
def cutW : List Char := [Char.ofNat 99, Char.ofNat 117, Char.ofNat 116]
theorem strip_cut (rest : List (List Char)) : stripLifts liftWords (cutW :: rest) = ([], cutW :: rest) := by
 have key : ∀ os : List String, (os.all fun o => !(cutW == o.toList)) = true → stripLifts os (cutW :: rest) = ([], cutW :: rest) := by
  intro os
  induction os with
  | nil => intro _; rfl
  | cons o os ih =>
   intro h
   simp only [List.all_cons, Bool.and_eq_true, Bool.not_eq_true'] at h
   unfold stripLifts
   rw [h.1]
   exact ih h.2
 exact key _ (by decide +kernel)
theorem make_cut {P : Program} {rest : List (List Char)} (h : behindMainWord (wordsSigns P.initOrder.toList) = cutW :: rest) : P.make = some .cut := by
 unfold Program.make
 rw [h]
 have e1 : (cutW == "gc".toList || cutW == "spec".toList) = false := by decide +kernel
 have e2 : (cutW == "cut".toList) = true := by decide +kernel
 simp only [e1, e2, Bool.true_or]
 rfl
theorem mayEnter_cut {P : Program} {rest : List (List Char)} (h : behindMainWord (wordsSigns P.initOrder.toList) = cutW :: rest) (h1 : P.laysLater = false) (h2 : P.bearsReflect = false) (h3 : P.doorFits [] = true) : P.mayEnter = true := by
 unfold Program.mayEnter
 rw [h]
 have e2 : (some cutW == some "cut".toList) = true := by decide +kernel
 simp only [strip_cut, h1, h2, h3, List.head?_cons, e2]
 simp
theorem lifts_cut {P : Program} {rest : List (List Char)} (h : behindMainWord (wordsSigns P.initOrder.toList) = cutW :: rest) : P.liftsFinal = false := by
 unfold Program.liftsFinal Program.headLifts
 rw [h]
 have e2 : (some cutW == some "cut".toList) = true := by decide +kernel
 have e3 : (some cutW == some "carried".toList) = false := by decide +kernel
 simp only [strip_cut, List.head?_cons, e2, e3]
 simp
/-- the signs of the head, and its words behind the first three -/
def initRest : List (List Nat) := [[97, 116], [108, 111, 111, 112, 46, 101, 120, 97, 109, 112, 108, 101, 47, 103, 48, 49, 50, 52, 53, 47, 108, 97, 119, 115, 46, 70, 110, 69, 120, 97, 99, 116, 77, 111, 111, 114, 101, 77, 97, 116, 114, 105, 120], [108, 111, 111, 112, 46, 101, 120, 97, 109, 112, 108, 101, 47, 103, 48, 49, 50, 52, 53, 47, 108, 97, 119, 115, 46, 70, 110, 69, 120, 97, 99, 116, 83, 112, 97, 110, 79, 102], [108, 111, 111, 112, 46, 101, 120, 97, 109, 112, 108, 101, 47, 103, 48, 49, 50, 52, 53, 47, 108, 97, 119, 115, 46, 70, 110, 69, 120, 97, 99, 116, 82, 97, 110, 107, 79, 102, 87, 111, 114, 100], [108, 111, 111, 112, 46, 101, 120, 97, 109, 112, 108, 101, 47, 103, 48, 49, 50, 52, 53, 47, 108, 97, 119, 115, 46, 70, 110, 69, 120, 97, 99, 116, 82, 97, 110, 107, 68, 105, 115, 116, 97, 110, 99, 101], [108, 111, 111, 112, 46, 101, 120, 97, 109, 112, 108, 101, 47, 103, 48, 49, 50, 52, 53, 47, 108, 97, 119, 115, 46, 70, 110, 69, 120, 97, 99, 116, 76, 101, 97, 115, 116, 82, 97, 110, 107], [108, 111, 111, 112, 46, 101, 120, 97, 109, 112, 108, 101, 47, 103, 48, 49, 50, 52, 53, 47, 108, 97, 119, 115, 46, 70, 110, 69, 120, 97, 99, 116, 76, 101, 97, 115, 116, 83, 107, 101, 119], [108, 111, 111, 112, 46, 101, 120, 97, 109, 112, 108, 101, 47, 103, 48, 49, 50, 52, 53, 47, 108, 97, 119, 115, 46, 70, 110, 69, 120, 97, 99, 116, 77, 111, 111, 114, 101, 68, 101, 116, 101, 114, 109, 105, 110, 97, 110, 116], [108, 111, 111, 112, 46, 101, 120, 97, 109, 112, 108, 101, 47, 103, 48, 49, 50, 52, 53, 47, 108, 97, 119, 115, 46, 70, 110, 69, 120, 97, 99, 116, 83, 113, 117, 97, 114, 101, 79, 102, 83, 107, 101, 119], [108, 111, 111, 112, 46, 101, 120, 97, 109, 112, 108, 101, 47, 103, 48, 49, 50, 52, 53, 47, 108, 97, 119, 115, 46, 70, 110, 69, 120, 97, 99, 116, 65, 100, 100, 65, 99, 116, 105, 111, 110, 115], [108, 111, 111, 112, 46, 101, 120, 97, 109, 112, 108, 101, 47, 103, 48, 49, 50, 52, 53, 47, 108, 97, 119, 115, 46, 70, 110, 69, 120, 97, 99, 116, 67, 111, 109, 112, 111, 115, 101, 65, 99, 116, 105, 111, 110, 115], [108, 111, 111, 112, 46, 101, 120, 97, 109, 112, 108, 101, 47, 103, 48, 49, 50, 52, 53, 47, 108, 97, 119, 115, 46, 70, 110, 69, 120, 97, 99, 116, 75, 101, 114, 110, 101, 108, 79, 102, 83, 107, 101, 119]]
def initSigns : List Nat := [104, 97, 114, 110, 101, 115, 115, 32, 98, 57, 48, 99, 57, 51, 56, 49, 99, 102, 101, 100, 48, 56, 52, 98, 97, 48, 49, 54, 98, 53, 101, 53, 56, 98, 52, 101, 97, 101, 51, 97, 48, 55, 98, 56, 50, 57, 57, 51, 98, 99, 101, 101, 55, 52, 50, 52, 48, 98, 102, 102, 99, 51, 50, 55, 52, 50, 52, 54, 51, 101, 51, 101, 32, 99, 117, 116] ++ initRest.flatMap fun x => 32 :: x
theorem init_split : behindMainWord (wordsSigns (initSigns.map Char.ofNat)) = cutW :: initRest.map (fun w => w.map Char.ofNat) := by kernel_rfl
theorem init_order : Try.prog.initOrder = String.ofList (initSigns.map Char.ofNat) := by kernel_rfl
theorem init_cut : behindMainWord (wordsSigns Try.prog.initOrder.toList) = cutW :: initRest.map (fun w => w.map Char.ofNat) :=
 (congrArg (fun s : String => behindMainWord (wordsSigns s.toList)) init_order).trans ((congrArg (fun l => behindMainWord (wordsSigns l)) String.toList_ofList).trans init_split)
theorem Try.laysLater : Try.prog.laysLater = false := by kernel_rfl
theorem Try.bearsReflect : Try.prog.bearsReflect = false := by kernel_rfl
theorem Try.doorFits : Try.prog.doorFits [] = true := by kernel_rfl
theorem Try.mayEnter : Try.pinned.checked.prog.mayEnter = true := mayEnter_cut init_cut Try.laysLater Try.bearsReflect Try.doorFits
theorem Try.liftsFinal : Try.pinned.checked.prog.liftsFinal = false := lifts_cut init_cut
theorem Try.make : Try.pinned.checked.prog.make = some .cut := make_cut init_cut
end Go.Proofs.Ytelgefgphhebnaa
end
