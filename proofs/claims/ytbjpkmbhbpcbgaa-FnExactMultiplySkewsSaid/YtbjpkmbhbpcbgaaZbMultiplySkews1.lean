/-
  What the rows of this claim rest on: arrays of bytes, walks of the functions, plain mathematics.
-/
import Derived.Test.YtbjpkmbhbpcbgaaZb7
import Derived.WalkKit
import Derived.WalkSpells
import Derived.WalkLawsBesides
import Derived.Lib.Hide
import Derived.Laws.Rows
import Derived.Laws.CopyOwn
import Derived.Deep.QuietTactic
import Derived.Deep.WholeRow
import Derived.Deep.Draws
import Derived.Deep.MidRow
import Derived.Deep.CutRange
import Derived.Deep.DeepCutAuto
import Derived.Deep.RegionHeld3
import Derived.BigQuiet
import Derived.BigRegion
import Derived.Laws.Tables
import Derived.Laws.StructEq
import Derived.Test.YtbjpkmbhbpcbgaaRows
import Derived.Great.BuildSlice
import Derived.ScopeJumps
import Derived.OwnWalk
import Derived.RangeFuncNested
import Derived.RangeFuncBound
import Derived.RangeFuncCalls
import Derived.RangeFuncLeaves
import Derived.Shelf.Abstract
import Derived.Shelf.RegionOpen
import Derived.OwnWalkIn
import Derived.TacticsInMore
import Derived.LoopNIn
import Derived.LoopIn
import Derived.Deep.CutBlock
import Derived.Maps.OwnOps
import Derived.DeepKeys4
import Derived.Carry
import Derived.Test.YtbjpkmbhbpcbgaaProg
section
namespace Go.Proofs.Ytbjpkmbhbpcbgaa
open Go Go.RowKit
set_option linter.unusedVariables false
theorem updR_twice (F : Nat → Nat → Nat) (i : Nat) (g : Nat → Nat) : updR (updR F i g) i g = updR F i g := by
  funext r; unfold updR; split <;> rfl
section
variable {P : Program}
theorem wpList_load_mid_g {ops : Array Oper} {rest : List Oper} {op : Oper} {a : Act} {w : World} {Q : Exit → Act → World → Prop} (hw : Region.wanted op (yielded ops a.tmps) = true) (ty : TypeId) (x : Operand) (ho : op.op = .load ty x)
    (b o : Nat) (hx : a.eval x = .pointer (some ⟨b, o, none⟩)) (cs : List Value) (d : TypeDesc) (hc : w.rangeAt b o cs)
    (hu : P.underlying ty = some d) (hd : d.isRow = true) (hi : (P.info? ty).map (·.size) = some cs.length)
    (h : wpList P ops Q rest (a.put op.dst (.agg cs.toArray)) w) : wpList P ops Q (op :: rest) a w := by
  unfold wpList
  rw [if_pos hw]
  exact Or.inl (wp_load_mid ty x ho b o hx cs d hc hu hd hi h)
end
end Go.Proofs.Ytbjpkmbhbpcbgaa
end
section
namespace Go.Proofs.Ytbjpkmbhbpcbgaa
open Go Go.RowKit
set_option linter.unusedVariables false
section
variable {P : Program}
theorem results_anyt {fn : Func} {p q : Tmp} {ty : TypeId} (h : fn.results = #[.cell p ty, .tmp q]) (tmps : Array Value) (w : World) (b n : Nat) (t : TypeId) (f : Nat → Nat)
    (hp : tmps.getD p undef = .pointer (some ⟨b, 0, none⟩)) (hb : Blk w b n t f) (d : TypeDesc) (hu : P.underlying ty = some d) (hd : (match d with | .struct _ | .array _ _ => true | _ => false) = true) (hi : (P.info? ty).map (·.size) = some n) :
    (results fn tmps).run P w = .ok (.tuple #[.agg (bcells n f), tmps.getD q undef]) w := by
  have hp' : tmps[p]?.getD undef = .pointer (some ⟨b, 0, none⟩) := by simpa using hp
  simp [results, h, hp', asAddr, run_loadVar_any w b n t ty f hb d hu hd hi]
end
end Go.Proofs.Ytbjpkmbhbpcbgaa
end
section
namespace Go.Proofs.Ytbjpkmbhbpcbgaa
open Go Go.RowKit
set_option linter.unusedVariables false
set_option linter.unusedSimpArgs false
attribute [local irreducible] deg addK
set_option maxRecDepth 100000 in
set_option maxHeartbeats 1600000 in
theorem l03Deg_any (F : Nat → Nat → Nat) (w : World) : Calls Try.prog 96 #[.agg (bcells 512 (fl 64 F))] w fun e w' => e = .returned (.int .i64 (skD F)) ∧ Below w.heap.size w w' := by
  have HD := Lib.hid (show skD F = skN F 8 from rfl)
  have HZ := Lib.hid (skN_z F)
  have HS := Lib.hid (fun n (h : eqN 64 (F n) (fun _ => 0) = true) => skN_skip h)
  have HT := Lib.hid (fun n (h : eqN 64 (F n) (fun _ => 0) = false) => skN_stop h)
  go_enter Try.func96, Try.ntmps96
  go_upto_region 1 with (fail)
  obtain ⟨W1, hwo⟩ : ∃ v : World, v = (w.alloc (.cells (bcells 512 (fl 64 F)) 34)) := ⟨_, rfl⟩
  have B0 : Blk W1 (w.heap.size) 512 34 (fl 64 F) := by subst hwo; have := (Blk.new w 512 34 (fl 64 F)); simpa using this
  have hb : Below w.heap.size w W1 := by subst hwo; exact ((Below.refl _ _).alloc (Nat.le_refl _) _)
  rw [← hwo]
  clear hwo
  go_wp2_with fail
  go_loopw [3] (fun c wr => ∃ q : Nat, c = .int .i64 ((q : Int) - 1) ∧ q ≤ 8 ∧ Hid (skN F 8 = skN F q) ∧ Below w.heap.size w wr ∧ Blk wr (w.heap.size) 512 34 (fl 64 F)) (fun c _ => (intOf c + 1).toNat)
  case atStart => exact ⟨8, rfl, Nat.le_refl _, Lib.hid rfl, hb, B0⟩
  case round =>
    clear hb B0
    obtain ⟨q, rfl, hq, hs, hb, B0⟩ := hrel
    by_cases h0 : q = 0
    · subst h0
      have HV := Lib.hid (show skD F = -1 by rw [HD.out, hs.out, HZ.out])
      go_wp2_with fail
      go_ret
      exact ⟨by rw [HV.out]; rfl, hb⟩
    · obtain ⟨q, rfl⟩ : ∃ k, q = k + 1 := ⟨q - 1, by omega⟩
      have hge : (0 : Int) ≤ ((q + 1 : Nat) : Int) - 1 := by omega
      have hge2 : ((q + 1 : Nat) : Int) - 1 ≥ 0 := by omega
      have hq8 : q < 8 := by omega
      have hgd := Try.noGuard23
      have heq := fun W => run_equalIn_bytes (P := Try.prog) W 9998 23 5 64 (F q) (fun _ => 0) Try.underlying23 Try.underlying5 Try.size5
      cases hz : eqN 64 (F q) (fun _ => 0) with
      | true =>
        rw [hz] at heq
        go_wp2_with (first | (refine wpList_load_mid_g rfl 23 (.tmp 8) rfl _ (q * 64) rfl (bl 64 (F q)) _ (B0.sk hq8) Try.underlying23 rfl (by rw [bl_length]; exact Try.size23) ?_) | rw [← zero64])
        go_roundw
        case rel => exact ⟨q, by go_num, by omega, Lib.hid (by rw [hs.out, HS.out q hz]), hb, B0⟩
        case measure => simp [intOf] <;> omega
      | false =>
        rw [hz] at heq
        go_wp2_with (first | (refine wpList_load_mid_g rfl 23 (.tmp 8) rfl _ (q * 64) rfl (bl 64 (F q)) _ (B0.sk hq8) Try.underlying23 rfl (by rw [bl_length]; exact Try.size23) ?_) | rw [← zero64])
        have HV := Lib.hid (show skD F = (q : Int) by rw [HD.out, hs.out, HT.out q hz])
        go_ret
        exact ⟨by rw [HV.out, show ((q : Nat) : Int) = ((q + 1 : Nat) : Int) - 1 by omega]; rfl, hb⟩
set_option maxRecDepth 100000 in
set_option maxHeartbeats 1600000 in
theorem eqSkew_same (F G : Nat → Nat → Nat) (hFG : ∀ i, i < 8 → ∀ j, j < 64 → F i j = G i j) (w : World) : Calls Try.prog 36 #[.agg (bcells 512 (fl 64 F)), .agg (bcells 512 (fl 64 G))] w fun e w' => e = .returned (.bool true) ∧ Below w.heap.size w w' := by
  have HE := Lib.hid (fun i (hi : i < 8) W => eqPoly_same (F i) (G i) (hFG i hi) W)
  go_enter Try.func36, Try.ntmps36
  go_upto_region 1 with (fail)
  obtain ⟨W1, hwo⟩ : ∃ v : World, v = ((w.alloc (.cells (bcells 512 (fl 64 F)) 34)).alloc (.cells (bcells 512 (fl 64 G)) 34)) := ⟨_, rfl⟩
  have B0 : Blk W1 (w.heap.size) 512 34 (fl 64 F) := by subst hwo; have := ((Blk.new w 512 34 (fl 64 F)).alloc (.cells (bcells 512 (fl 64 G)) 34)); simpa using this
  have B1 : Blk W1 (w.heap.size + 1) 512 34 (fl 64 G) := by subst hwo; have := (Blk.new (w.alloc (.cells (bcells 512 (fl 64 F)) 34)) 512 34 (fl 64 G)); simpa using this
  have hb : Below w.heap.size w W1 := by subst hwo; exact (((Below.refl _ _).alloc (Nat.le_refl _) _).alloc (by simp) _)
  rw [← hwo]
  clear hwo
  go_wp2_with fail
  go_loopw [5] (fun c wr => ∃ j : Nat, c = .int .i64 (j : Int) ∧ j ≤ 8 ∧ Below w.heap.size w wr ∧ Blk wr (w.heap.size) 512 34 (fl 64 F) ∧ Blk wr (w.heap.size + 1) 512 34 (fl 64 G)) (fun c _ => 8 - (intOf c).toNat)
  case atStart => exact ⟨0, rfl, by omega, hb, B0, B1⟩
  case round =>
    clear hb B0 B1
    obtain ⟨j, rfl, hj8, hb, B0, B1⟩ := hrel
    by_cases hj : j < 8
    · have hjI : (j : Int) < 8 := by omega
      have HE2 := Lib.hid (HE.out j hj)
      go_upto_region 4 with (fail)
      have lt_B0 : (w.heap.size) < wr.heap.size := B0.lt
      have lt_B1 : (w.heap.size + 1) < wr.heap.size := B1.lt
      have hbase : w.heap.size ≤ wr.heap.size := hb.size
      refine wp_region_steps0 Try.mixed (by kernel_rfl) (by kernel_rfl) (fun v => by (simp only [frL, Act.put, List.setIfInBounds_toArray, List.set_cons_zero, List.set_cons_succ, Nat.reduceAdd, Nat.zero_add]; exact rfl))
        (fun L v W2 => Below w.heap.size w W2 ∧ wr.heap.size ≤ W2.heap.size ∧ Blk W2 (w.heap.size) 512 34 (fl 64 F) ∧ Blk W2 (w.heap.size + 1) 512 34 (fl 64 G) ∧ (L 0 = true → v 0 = (.int .i64 (j : Int))) ∧ (L 1 = true → v 1 = (.pointer (some ⟨w.heap.size, j * 64, none⟩))) ∧ (L 2 = true → v 2 = (.agg (bcells 64 (F j)))) ∧ (L 3 = true → v 3 = (.int .i64 (j : Int))) ∧ (L 4 = true → v 4 = (.pointer (some ⟨w.heap.size + 1, j * 64, none⟩))) ∧ (L 5 = true → v 5 = (.agg (bcells 64 (G j)))) ∧ (L 6 = true → v 6 = (.bool true)) ∧ (L 7 = true → v 7 = (.bool false))) ?_ ?_ ?_
      · intro v hv0
        exact ⟨hb.drew, Nat.le_refl _, B0.drew, B1.drew, (fun h => by cases h), (fun h => by cases h), (fun h => by cases h), (fun h => by cases h), (fun h => by cases h), (fun h => by cases h), (fun h => by cases h), (fun h => by cases h)⟩
      · refine (.cons rfl ?_ (.cons rfl ?_ (.cons rfl ?_ (.cons rfl ?_ (.cons rfl ?_ (.cons rfl ?_ (.cons rfl ?_ (.cons rfl ?_ (.nil _)))))))))
        · intro L v W2 hd hn ⟨hB, hz, s0, s1, h0, h1, h2, h3, h4, h5, h6, h7⟩ K hK
          go_wp2_with fail
          exact hK _ (.int .i64 (j : Int)) _ (by simp only [Act.put, List.setIfInBounds_toArray, List.set_cons_zero, List.set_cons_succ ]) ⟨hB, hz, s0, s1, (fun _ => rfl), h1, h2, h3, h4, h5, h6, h7⟩
        · intro L v W2 hd hn ⟨hB, hz, s0, s1, h0, h1, h2, h3, h4, h5, h6, h7⟩ K hK
          have e0 := h0 (hd ⟨0, .data⟩ (by simp) rfl)
          go_wp2_with fail
          exact hK _ (.pointer (some ⟨w.heap.size, j * 64, none⟩)) _ (by simp only [Act.put, List.setIfInBounds_toArray, List.set_cons_zero, List.set_cons_succ, e0]) ⟨hB, hz, s0, s1, h0, (fun _ => rfl), h2, h3, h4, h5, h6, h7⟩
        · intro L v W2 hd hn ⟨hB, hz, s0, s1, h0, h1, h2, h3, h4, h5, h6, h7⟩ K hK
          have e1 := h1 (hd ⟨1, .data⟩ (by simp) rfl)
          refine wp_load_mid 23 _ rfl _ (j * 64) e1 _ _ ((s0).sk (by omega)) Try.underlying23 rfl (by rw [bl_length]; exact Try.size23) ?_
          exact hK _ _ _ rfl ⟨hB, hz, s0, s1, h0, h1, (fun _ => rfl), h3, h4, h5, h6, h7⟩
        · intro L v W2 hd hn ⟨hB, hz, s0, s1, h0, h1, h2, h3, h4, h5, h6, h7⟩ K hK
          go_wp2_with fail
          exact hK _ (.int .i64 (j : Int)) _ (by simp only [Act.put, List.setIfInBounds_toArray, List.set_cons_zero, List.set_cons_succ ]) ⟨hB, hz, s0, s1, h0, h1, h2, (fun _ => rfl), h4, h5, h6, h7⟩
        · intro L v W2 hd hn ⟨hB, hz, s0, s1, h0, h1, h2, h3, h4, h5, h6, h7⟩ K hK
          have e3 := h3 (hd ⟨3, .data⟩ (by simp) rfl)
          go_wp2_with fail
          exact hK _ (.pointer (some ⟨w.heap.size + 1, j * 64, none⟩)) _ (by simp only [Act.put, List.setIfInBounds_toArray, List.set_cons_zero, List.set_cons_succ, e3]) ⟨hB, hz, s0, s1, h0, h1, h2, h3, (fun _ => rfl), h5, h6, h7⟩
        · intro L v W2 hd hn ⟨hB, hz, s0, s1, h0, h1, h2, h3, h4, h5, h6, h7⟩ K hK
          have e4 := h4 (hd ⟨4, .data⟩ (by simp) rfl)
          refine wp_load_mid 23 _ rfl _ (j * 64) e4 _ _ ((s1).sk (by omega)) Try.underlying23 rfl (by rw [bl_length]; exact Try.size23) ?_
          exact hK _ _ _ rfl ⟨hB, hz, s0, s1, h0, h1, h2, h3, h4, (fun _ => rfl), h6, h7⟩
        · intro L v W2 hd hn ⟨hB, hz, s0, s1, h0, h1, h2, h3, h4, h5, h6, h7⟩ K hK
          have e2 := h2 (hd ⟨2, .data⟩ (by simp) rfl)
          have e5 := h5 (hd ⟨5, .data⟩ (by simp) rfl)
          go_wp2_with (go_at_call 26; refine (HE2.out _).mono ?_; rintro e wy ⟨rfl, hy⟩)
          exact hK _ (.bool true) _ (by simp only [Act.put, List.setIfInBounds_toArray, List.set_cons_zero, List.set_cons_succ, e2, e5]) ⟨hB.trans (hy.mono hB.size), (Nat.le_trans hz hy.size), (s0).below hy (s0).lt, (s1).below hy (s1).lt, h0, h1, h2, h3, h4, h5, (fun _ => rfl), h7⟩
        · intro L v W2 hd hn ⟨hB, hz, s0, s1, h0, h1, h2, h3, h4, h5, h6, h7⟩ K hK
          have e6 := h6 (hd ⟨6, .data⟩ (by simp) rfl)
          go_wp2_with fail
          exact hK _ (.bool false) _ (by simp only [Act.put, List.setIfInBounds_toArray, List.set_cons_zero, List.set_cons_succ, e6]) ⟨hB, hz, s0, s1, h0, h1, h2, h3, h4, h5, h6, (fun _ => rfl)⟩
      · intro L v W2 hL ⟨hB, hz, s0, s1, h0, h1, h2, h3, h4, h5, h6, h7⟩
        have e0 := h0 (hL 0 (by decide))
        have e1 := h1 (hL 1 (by decide))
        have e2 := h2 (hL 2 (by decide))
        have e3 := h3 (hL 3 (by decide))
        have e4 := h4 (hL 4 (by decide))
        have e5 := h5 (hL 5 (by decide))
        have e6 := h6 (hL 6 (by decide))
        have e7 := h7 (hL 7 (by decide))
        clear hL h0 h1 h2 h3 h4 h5 h6 h7
        simp only [Exit.then, e0, e1, e2, e3, e4, e5, e6, e7]
        clear e0 e1 e2 e3 e4 e5 e6 e7
        clear B0
        have B0 := s0
        clear s0
        clear B1
        have B1 := s1
        clear s1
        clear hb
        have hb := hB
        clear hB
        clear hbase hz lt_B0 lt_B1
        go_wp2_with fail
        go_roundw
        case rel => exact ⟨j + 1, by go_num, by omega, hb, B0, B1⟩
        case measure => simp [intOf] <;> omega
    · have hjI : ¬ (j : Int) < 8 := by omega
      go_wp2_with fail
      go_ret
      exact ⟨rfl, hb⟩
end Go.Proofs.Ytbjpkmbhbpcbgaa
end
section
namespace Go.Proofs.Ytbjpkmbhbpcbgaa
open Rg
set_option linter.unusedVariables false
/-- one row of the product -/
def tmJ (p : Nat) (m : Nat → Nat) (d : Nat) (F G : Nat → Nat → Nat) (i : Nat) (O : Nat → Nat → Nat) : Nat → (Nat → Nat → Nat)
  | 0 => O
  | j + 1 => updR (tmJ p m d F G i O j) (i + j) (addK p (tmJ p m d F G i O j (i + j)) (mmP p (F i) (frN p m (G j) (i % d)) m) 1)
/-- the rows below i -/
def tmR (p : Nat) (m : Nat → Nat) (d : Nat) (F G : Nat → Nat → Nat) (n : Nat) : Nat → (Nat → Nat → Nat)
  | 0 => fun _ _ => 0
  | i + 1 => tmJ p m d F G i (tmR p m d F G n i) n
def tmP (p : Nat) (m : Nat → Nat) (d : Nat) (F G : Nat → Nat → Nat) : Nat → Nat → Nat := tmR p m d F G (skD G + 1).toNat (skD F + 1).toNat
theorem tmJ_z (p : Nat) (m : Nat → Nat) (d : Nat) (F G : Nat → Nat → Nat) (i : Nat) (O : Nat → Nat → Nat) : tmJ p m d F G i O 0 = O := rfl
theorem tmJ_s (p : Nat) (m : Nat → Nat) (d : Nat) (F G : Nat → Nat → Nat) (i : Nat) (O : Nat → Nat → Nat) (j : Nat) :
    tmJ p m d F G i O (j + 1) = updR (tmJ p m d F G i O j) (i + j) (addK p (tmJ p m d F G i O j (i + j)) (mmP p (F i) (frN p m (G j) (i % d)) m) 1) := rfl
theorem tmR_z (p : Nat) (m : Nat → Nat) (d : Nat) (F G : Nat → Nat → Nat) (n : Nat) : tmR p m d F G n 0 = fun _ _ => 0 := rfl
theorem tmR_s (p : Nat) (m : Nat → Nat) (d : Nat) (F G : Nat → Nat → Nat) (n i : Nat) : tmR p m d F G n (i + 1) = tmJ p m d F G i (tmR p m d F G n i) n := rfl
theorem tmR_0 (p : Nat) (m : Nat → Nat) (d : Nat) (F G : Nat → Nat → Nat) : ∀ i, tmR p m d F G 0 i = fun _ _ => 0
  | 0 => rfl
  | i + 1 => by rw [tmR_s, tmJ_z, tmR_0]
theorem tmJ_lt {p : Nat} {m : Nat → Nat} {d : Nat} {F G : Nat → Nat → Nat} {i : Nat} {O : Nat → Nat → Nat} (hp : 0 < p) (hO : ∀ r k, O r k < p) : ∀ j r k, tmJ p m d F G i O j r k < p
  | 0, r, k => hO r k
  | j + 1, r, k => by
    rw [tmJ_s]
    unfold updR
    by_cases h : r = i + j
    · rw [if_pos h]; exact addK_lt hp k
    · rw [if_neg h]; exact tmJ_lt hp hO j r k
theorem tmR_lt {p : Nat} {m : Nat → Nat} {d : Nat} {F G : Nat → Nat → Nat} {n : Nat} (hp : 0 < p) : ∀ i r k, tmR p m d F G n i r k < p
  | 0, r, k => hp
  | i + 1, r, k => by rw [tmR_s]; exact tmJ_lt hp (tmR_lt hp i) n r k
theorem tmP_at {p : Nat} {m : Nat → Nat} {d : Nat} {F G : Nat → Nat → Nat} {a b : Nat} (hF : skD F = (a : Int) - 1) (hG : skD G = (b : Int) - 1) : tmP p m d F G = tmR p m d F G b a := by
  unfold tmP; rw [hF, hG]; congr 1 <;> omega
theorem tmP_zero {p : Nat} {m : Nat → Nat} {d : Nat} {F G : Nat → Nat → Nat} (h : skD F < 0 ∨ skD G < 0) : tmP p m d F G = fun _ _ => 0 := by
  unfold tmP
  have hb := skD_bounds F
  have hb2 := skD_bounds G
  rcases h with h | h
  · rw [show (skD F + 1).toNat = 0 by omega]; rfl
  · rw [show (skD G + 1).toNat = 0 by omega]; exact tmR_0 _ _ _ _ _ _
attribute [irreducible] tmJ tmR tmP
end Go.Proofs.Ytbjpkmbhbpcbgaa
end
section
namespace Go.Proofs.Ytbjpkmbhbpcbgaa
open Go Go.RowKit
set_option linter.unusedVariables false
set_option linter.unusedSimpArgs false
attribute [local irreducible] deg addK strP frI frN mmP pmP resP
set_option maxRecDepth 100000 in
set_option maxHeartbeats 1600000 in
theorem l03Times_no (p : Int) (m : Nat → Nat) (F G : Nat → Nat → Nat) (w : World) (hs : 7 < skD F + skD G) :
    Calls Try.prog 100 #[.int .i64 p, .agg (bcells 64 m), .agg (bcells 512 (fl 64 F)), .agg (bcells 512 (fl 64 G))] w fun e w' => e = .returned (.tuple #[.agg (bcells 512 (fl 64 fun _ _ => 0)), .bool false]) ∧ Below w.heap.size w w' := by
  obtain ⟨a1, a2⟩ := skD_bounds F
  obtain ⟨b1, b2⟩ := skD_bounds G
  have hn1 : ¬ skD F < 0 := by omega
  have hn2 : ¬ skD G < 0 := by omega
  have hn3 : skD F + skD G > 7 := by omega
  go_enter Try.func100, Try.ntmps100
  go_upto_region 1 with (fail)
  rw [← zero512]
  obtain ⟨W1, hwo⟩ : ∃ v : World, v = ((((w.alloc (.cells (bcells 64 (m)) 23)).alloc (.cells (bcells 512 (fl 64 F)) 34)).alloc (.cells (bcells 512 (fl 64 G)) 34)).alloc (.cells (bcells 512 (fl 64 (fun _ _ => 0))) 34)) := ⟨_, rfl⟩
  have B0 : Blk W1 (w.heap.size) 64 23 (m) := by subst hwo; have := ((((Blk.new w 64 23 (m)).alloc (.cells (bcells 512 (fl 64 F)) 34)).alloc (.cells (bcells 512 (fl 64 G)) 34)).alloc (.cells (bcells 512 (fl 64 (fun _ _ => 0))) 34)); simpa using this
  have B1 : Blk W1 (w.heap.size + 1) 512 34 (fl 64 F) := by subst hwo; have := (((Blk.new (w.alloc (.cells (bcells 64 (m)) 23)) 512 34 (fl 64 F)).alloc (.cells (bcells 512 (fl 64 G)) 34)).alloc (.cells (bcells 512 (fl 64 (fun _ _ => 0))) 34)); simpa using this
  have B2 : Blk W1 (w.heap.size + 1 + 1) 512 34 (fl 64 G) := by subst hwo; have := ((Blk.new ((w.alloc (.cells (bcells 64 (m)) 23)).alloc (.cells (bcells 512 (fl 64 F)) 34)) 512 34 (fl 64 G)).alloc (.cells (bcells 512 (fl 64 (fun _ _ => 0))) 34)); simpa using this
  have B3 : Blk W1 (w.heap.size + 1 + 1 + 1) 512 34 (fl 64 (fun _ _ => 0)) := by subst hwo; have := (Blk.new (((w.alloc (.cells (bcells 64 (m)) 23)).alloc (.cells (bcells 512 (fl 64 F)) 34)).alloc (.cells (bcells 512 (fl 64 G)) 34)) 512 34 (fl 64 (fun _ _ => 0))); simpa using this
  have hb : Below w.heap.size w W1 := by subst hwo; exact (((((Below.refl _ _).alloc (Nat.le_refl _) _).alloc (by simp) _).alloc (by simp; omega) _).alloc (by simp; omega) _)
  rw [← hwo]
  clear hwo
  have lt_B0 : (w.heap.size) < W1.heap.size := B0.lt
  have lt_B1 : (w.heap.size + 1) < W1.heap.size := B1.lt
  have lt_B2 : (w.heap.size + 1 + 1) < W1.heap.size := B2.lt
  have lt_B3 : (w.heap.size + 1 + 1 + 1) < W1.heap.size := B3.lt
  have hbase : w.heap.size ≤ W1.heap.size := hb.size
  refine wp_region_steps0 Try.mixed (by kernel_rfl) (by kernel_rfl) (fun v => by (simp only [frL, Act.put, List.setIfInBounds_toArray, List.set_cons_zero, List.set_cons_succ, Nat.reduceAdd, Nat.zero_add]; exact rfl))
    (fun L v W2 => Below w.heap.size w W2 ∧ W1.heap.size ≤ W2.heap.size ∧ Blk W2 (w.heap.size) 64 23 (m) ∧ Blk W2 (w.heap.size + 1) 512 34 (fl 64 F) ∧ Blk W2 (w.heap.size + 1 + 1) 512 34 (fl 64 G) ∧ Blk W2 (w.heap.size + 1 + 1 + 1) 512 34 (fl 64 (fun _ _ => 0)) ∧ (L 0 = true → v 0 = (.agg (bcells 512 (fl 64 F)))) ∧ (L 1 = true → v 1 = (.int .i64 (skD F))) ∧ (L 2 = true → v 2 = (.agg (bcells 512 (fl 64 G)))) ∧ (L 3 = true → v 3 = (.int .i64 (skD G))) ∧ (L 4 = true → v 4 = (.agg (bcells 512 (fl 64 (fun _ _ => 0))))) ∧ (L 5 = true → AF (v 5) W2 W1.heap.size 512 34) ∧ (L 6 = true → v 6 = (.int .i64 (skD F))) ∧ (L 7 = true → v 7 = (.int .i64 (skD G))) ∧ (L 8 = true → PF (v 5) W2 W1.heap.size 512 34 (fl 64 (fun _ _ => 0)))) ?_ ?_ ?_
  · intro v hv0
    exact ⟨hb.drew, Nat.le_refl _, B0.drew, B1.drew, B2.drew, B3.drew, (fun h => by cases h), (fun h => by cases h), (fun h => by cases h), (fun h => by cases h), (fun h => by cases h), (fun h => by cases h), (fun h => by cases h), (fun h => by cases h), (fun h => by cases h)⟩
  · refine (.cons rfl ?_ (.cons rfl ?_ (.cons rfl ?_ (.cons rfl ?_ (.cons rfl ?_ (.cons rfl ?_ (.cons rfl ?_ (.cons rfl ?_ (.cons rfl ?_ (.nil _))))))))))
    · intro L v W2 hd hn ⟨hB, hz, s0, s1, s2, s3, h0, h1, h2, h3, h4, h5, h6, h7, h8⟩ K hK
      refine wp_load_any 34 _ rfl _ rfl 512 34 _ s1 _ Try.underlying34 rfl Try.size34 ?_
      exact hK _ _ _ rfl ⟨hB, hz, s0, s1, s2, s3, (fun _ => rfl), h1, h2, h3, h4, h5, h6, h7, h8⟩
    · intro L v W2 hd hn ⟨hB, hz, s0, s1, s2, s3, h0, h1, h2, h3, h4, h5, h6, h7, h8⟩ K hK
      have e0 := h0 (hd ⟨0, .data⟩ (by simp) rfl)
      go_wp2_with (go_at_call 96; refine (l03Deg_any F _).mono ?_; rintro e wy ⟨rfl, hy⟩)
      exact hK _ (.int .i64 (skD F)) _ (by simp only [Act.put, List.setIfInBounds_toArray, List.set_cons_zero, List.set_cons_succ, e0]) ⟨hB.trans (hy.mono hB.size), (Nat.le_trans hz hy.size), (s0).below hy (s0).lt, (s1).below hy (s1).lt, (s2).below hy (s2).lt, (s3).below hy (s3).lt, h0, (fun _ => rfl), h2, h3, h4, (fun h => (h5 h).below hy), h6, h7, (fun h => (h8 h).below hy)⟩
    · intro L v W2 hd hn ⟨hB, hz, s0, s1, s2, s3, h0, h1, h2, h3, h4, h5, h6, h7, h8⟩ K hK
      refine wp_load_any 34 _ rfl _ rfl 512 34 _ s2 _ Try.underlying34 rfl Try.size34 ?_
      exact hK _ _ _ rfl ⟨hB, hz, s0, s1, s2, s3, h0, h1, (fun _ => rfl), h3, h4, h5, h6, h7, h8⟩
    · intro L v W2 hd hn ⟨hB, hz, s0, s1, s2, s3, h0, h1, h2, h3, h4, h5, h6, h7, h8⟩ K hK
      have e2 := h2 (hd ⟨2, .data⟩ (by simp) rfl)
      go_wp2_with (go_at_call 96; refine (l03Deg_any G _).mono ?_; rintro e wy ⟨rfl, hy⟩)
      exact hK _ (.int .i64 (skD G)) _ (by simp only [Act.put, List.setIfInBounds_toArray, List.set_cons_zero, List.set_cons_succ, e2]) ⟨hB.trans (hy.mono hB.size), (Nat.le_trans hz hy.size), (s0).below hy (s0).lt, (s1).below hy (s1).lt, (s2).below hy (s2).lt, (s3).below hy (s3).lt, h0, h1, h2, (fun _ => rfl), h4, (fun h => (h5 h).below hy), h6, h7, (fun h => (h8 h).below hy)⟩
    · intro L v W2 hd hn ⟨hB, hz, s0, s1, s2, s3, h0, h1, h2, h3, h4, h5, h6, h7, h8⟩ K hK
      go_wp2_with fail
      rw [← zero512]
      exact hK _ (.agg (bcells 512 (fl 64 (fun _ _ => 0)))) _ (by simp only [Act.put, List.setIfInBounds_toArray, List.set_cons_zero, List.set_cons_succ ]) ⟨hB, hz, s0, s1, s2, s3, h0, h1, h2, h3, (fun _ => rfl), h5, h6, h7, h8⟩
    · intro L v W2 hd hn ⟨hB, hz, s0, s1, s2, s3, h0, h1, h2, h3, h4, h5, h6, h7, h8⟩ K hK
      go_wp2_with fail
      rw [← zero512]
      exact hK _ (.pointer (some ⟨W2.heap.size, 0, none⟩)) _ (by simp only [Act.put, List.setIfInBounds_toArray, List.set_cons_zero, List.set_cons_succ ]) ⟨hB.alloc hB.size _, (by simp; omega), (s0).alloc _, (s1).alloc _, (s2).alloc _, (s3).alloc _, h0, h1, h2, h3, h4, (fun _ => (PF.new W2 512 34 _ hz).af), h6, h7, (fun h => absurd rfl (hn 8 _ rfl h ⟨5, .data⟩ (by simp) rfl))⟩
    · intro L v W2 hd hn ⟨hB, hz, s0, s1, s2, s3, h0, h1, h2, h3, h4, h5, h6, h7, h8⟩ K hK
      have e1 := h1 (hd ⟨1, .data⟩ (by simp) rfl)
      go_wp2_with fail
      exact hK _ (.int .i64 (skD F)) _ (by simp only [Act.put, List.setIfInBounds_toArray, List.set_cons_zero, List.set_cons_succ, e1]) ⟨hB, hz, s0, s1, s2, s3, h0, h1, h2, h3, h4, h5, (fun _ => rfl), h7, h8⟩
    · intro L v W2 hd hn ⟨hB, hz, s0, s1, s2, s3, h0, h1, h2, h3, h4, h5, h6, h7, h8⟩ K hK
      have e3 := h3 (hd ⟨3, .data⟩ (by simp) rfl)
      go_wp2_with fail
      exact hK _ (.int .i64 (skD G)) _ (by simp only [Act.put, List.setIfInBounds_toArray, List.set_cons_zero, List.set_cons_succ, e3]) ⟨hB, hz, s0, s1, s2, s3, h0, h1, h2, h3, h4, h5, h6, (fun _ => rfl), h8⟩
    · intro L v W2 hd hn ⟨hB, hz, s0, s1, s2, s3, h0, h1, h2, h3, h4, h5, h6, h7, h8⟩ K hK
      have e4 := h4 (hd ⟨4, .data⟩ (by simp) rfl)
      obtain ⟨gz, b, ea, hN, hk⟩ := (h5 (hd ⟨5, .data⟩ (by simp) rfl)).out
      refine wp_store_blk 34 _ _ rfl b 512 (fl 64 (fun _ _ => 0)) ea e4 34 gz hk Try.size34 ?_
      exact hK _ undef _ rfl ⟨below_row hB (Nat.le_trans hbase hN) _, (by simpa [World.setRow] using hz), (s0).rowOther (by omega), (s1).rowOther (by omega), (s2).rowOther (by omega), (s3).rowOther (by omega), h0, h1, h2, h3, h4, (fun h => (h5 h).row hk), h6, h7, (fun _ => by rw [show updV v 8 undef 5 = v 5 from rfl, ea]; exact PF.row hk hN _)⟩
  · intro L v W2 hL ⟨hB, hz, s0, s1, s2, s3, h0, h1, h2, h3, h4, h5, h6, h7, h8⟩
    have e0 := h0 (hL 0 (by decide))
    have e1 := h1 (hL 1 (by decide))
    have e2 := h2 (hL 2 (by decide))
    have e3 := h3 (hL 3 (by decide))
    have e4 := h4 (hL 4 (by decide))
    have e6 := h6 (hL 6 (by decide))
    have e7 := h7 (hL 7 (by decide))
    obtain ⟨k1_5, e5, hNk1_5, hk1_5⟩ := (h8 (hL 8 (by decide))).out
    clear hL h0 h1 h2 h3 h4 h5 h6 h7 h8
    simp only [Exit.then, e0, e1, e2, e3, e4, e6, e7, e5]
    clear e0 e1 e2 e3 e4 e6 e7 e5
    clear B0
    have B0 := s0
    clear s0
    clear B1
    have B1 := s1
    clear s1
    clear B2
    have B2 := s2
    clear s2
    clear B3
    have B3 := s3
    clear s3
    clear hb
    have hb := hB
    clear hB
    have B4 := hk1_5
    clear hk1_5
    have zk1_5_0 : w.heap.size < k1_5 := by omega
    have zk1_5_1 : w.heap.size + 1 < k1_5 := by omega
    have zk1_5_2 : w.heap.size + 1 + 1 < k1_5 := by omega
    have zk1_5_3 : w.heap.size + 1 + 1 + 1 < k1_5 := by omega
    clear hbase hz lt_B0 lt_B1 lt_B2 lt_B3
    go_upto_region 5 with (fail)
    have lt_B0 := B0.lt
    have lt_B1 := B1.lt
    have lt_B2 := B2.lt
    have lt_B3 := B3.lt
    have lt_B4 := B4.lt
    go_wp2_with (first | rw [← zero64] | rw [← zero512] | (refine wpList_load_any rfl 34 (.tmp 12) rfl _ rfl 512 34 _ (B4) _ Try.underlying34 rfl Try.size34 ?_) | (refine wpList_store_blk rfl 34 (.tmp 8) (.tmp 32) rfl _ 512 (fl 64 (fun _ _ => 0)) rfl rfl 34 _ (B3) Try.size34 ?_; try simp only [Act.put]; go_wp2_with fail))
    have qB0 : Blk (W2.setRow (w.heap.size + 1 + 1 + 1) (bcells 512 (fl 64 (fun _ _ => 0)))) (w.heap.size) 64 23 (m) := (B0.rowOther (by omega))
    have qB1 : Blk (W2.setRow (w.heap.size + 1 + 1 + 1) (bcells 512 (fl 64 (fun _ _ => 0)))) (w.heap.size + 1) 512 34 (fl 64 F) := (B1.rowOther (by omega))
    have qB2 : Blk (W2.setRow (w.heap.size + 1 + 1 + 1) (bcells 512 (fl 64 (fun _ _ => 0)))) (w.heap.size + 1 + 1) 512 34 (fl 64 G) := (B2.rowOther (by omega))
    have qB3 : Blk (W2.setRow (w.heap.size + 1 + 1 + 1) (bcells 512 (fl 64 (fun _ _ => 0)))) (w.heap.size + 1 + 1 + 1) 512 34 (fl 64 (fun _ _ => 0)) := (B3.row (fl 64 (fun _ _ => 0)))
    have qB4 : Blk (W2.setRow (w.heap.size + 1 + 1 + 1) (bcells 512 (fl 64 (fun _ _ => 0)))) (k1_5) 512 34 (fl 64 (fun _ _ => 0)) := (B4.rowOther (by omega))
    have qhb : Below w.heap.size w (W2.setRow (w.heap.size + 1 + 1 + 1) (bcells 512 (fl 64 (fun _ _ => 0)))) := (below_row hb (by omega) _)
    obtain ⟨W3, hwo⟩ : ∃ v : World, v = (W2.setRow (w.heap.size + 1 + 1 + 1) (bcells 512 (fl 64 (fun _ _ => 0)))) := ⟨_, rfl⟩
    rw [← hwo] at qB0 qB1 qB2 qB3 qB4 qhb ⊢
    clear hwo
    clear B0 B1 B2 B3 B4 hb
    have B0 := qB0
    have B1 := qB1
    have B2 := qB2
    have B3 := qB3
    have B4 := qB4
    have hb := qhb
    clear qB0 qB1 qB2 qB3 qB4 qhb
    try simp only [Act.put, List.setIfInBounds_toArray, List.set_cons_zero, List.set_cons_succ]
    refine bodyPost_ret (results_anyt rfl _ _ _ 512 _ _ rfl B3 _ Try.underlying34 rfl Try.size34) rfl ⟨rfl, hb⟩
set_option maxRecDepth 100000 in
set_option maxHeartbeats 1600000 in
theorem l03Times_ok (p : Nat) (m : Nat → Nat) (F G : Nat → Nat → Nat) (w : World) (hpr : p = 2 ∨ p = 3 ∨ p = 5 ∨ p = 7) (lm : ∀ k, k < 64 → m k < p) (d : Nat) (hd : deg m = (d : Int)) (hd1 : 1 ≤ d) (hd9 : d ≤ 9) (lF : ∀ i, i < 8 → ∀ k, k < 64 → F i k < p) (lG : ∀ i, i < 8 → rsd p m (G i)) (hs : skD F + skD G ≤ 7) :
    Calls Try.prog 100 #[.int .i64 (p : Int), .agg (bcells 64 m), .agg (bcells 512 (fl 64 F)), .agg (bcells 512 (fl 64 G))] w fun e w' => e = .returned (.tuple #[.agg (bcells 512 (fl 64 (tmP p m d F G))), .bool true]) ∧ Below w.heap.size w w' := by
  have p0 : 0 < p := by omega
  have h0 : 0 ≤ deg m := by omega
  have h9 : deg m ≤ 9 := by omega
  have p2 : 2 ≤ p := by omega
  have p7 : p ≤ 7 := by omega
  obtain ⟨fb1, fb2⟩ := skD_bounds F
  obtain ⟨gb1, gb2⟩ := skD_bounds G
  obtain ⟨A, hA⟩ : ∃ A : Nat, skD F = (A : Int) - 1 := ⟨(skD F + 1).toNat, by omega⟩
  obtain ⟨B, hB⟩ : ∃ B : Nat, skD G = (B : Int) - 1 := ⟨(skD G + 1).toNat, by omega⟩
  have HA := Lib.hid hA
  have HB := Lib.hid hB
  have hA8 : A ≤ 8 := by omega
  have hB8 : B ≤ 8 := by omega
  have hAB : A + B ≤ 9 := by omega
  have HP := Lib.hid (tmP_at (p := p) (m := m) (d := d) hA hB)
  have HX := Lib.hid (fun i (hi : i < 8) j => (frN_ok hpr lm h0 h9 (lG i hi) j).1)
  have HFR := Lib.hid (fun i (hi : i < 8) j (hj : j < 8) W => l03Frobenius_any p m (G j) i W hpr lm d hd hd1 hd9 (by omega) (lG j hj))
  have HMM := Lib.hid (fun i (hi : i < 8) j (hj : j < 8) W => l01MulMod_any p (F i) (frN p m (G j) (i % d)) m W hpr (lF i hi) (HX.out j hj (i % d)).1 lm h0)
  have HSU := Lib.hid (fun (f g : Nat → Nat) (hf : ∀ k, f k < p) (hg : ∀ k, k < 64 → g k < p) W => l01Add_any p f g 1 W p2 p7 (by omega) (by omega) (fun k _ => hf k) hg)
  have HJL := Lib.hid (fun i j r k => tmJ_lt (p := p) (m := m) (d := d) (F := F) (G := G) (i := i) p0 (tmR_lt (m := m) (d := d) (F := F) (G := G) (n := B) p0 i) j r k)
  have HML := Lib.hid (fun i j k (hk : k < 64) => mmP_lt (p := p) (a := F i) (b := frN p m (G j) (i % d)) (m := m) p0 k (by omega))
  have HZ := Lib.hid (tmR_z p m d F G B)
  have HS := Lib.hid (tmR_s p m d F G B)
  have HJZ := Lib.hid (tmJ_z p m d F G)
  have HJS := Lib.hid (tmJ_s p m d F G)
  clear hA hB lF lG
  have hn3 : ¬ skD F + skD G > 7 := by omega
  go_enter Try.func100, Try.ntmps100
  go_upto_region 1 with (fail)
  rw [← zero512]
  obtain ⟨W1, hwo⟩ : ∃ v : World, v = ((((w.alloc (.cells (bcells 64 (m)) 23)).alloc (.cells (bcells 512 (fl 64 F)) 34)).alloc (.cells (bcells 512 (fl 64 G)) 34)).alloc (.cells (bcells 512 (fl 64 (fun _ _ => 0))) 34)) := ⟨_, rfl⟩
  have B0 : Blk W1 (w.heap.size) 64 23 (m) := by subst hwo; have := ((((Blk.new w 64 23 (m)).alloc (.cells (bcells 512 (fl 64 F)) 34)).alloc (.cells (bcells 512 (fl 64 G)) 34)).alloc (.cells (bcells 512 (fl 64 (fun _ _ => 0))) 34)); simpa using this
  have B1 : Blk W1 (w.heap.size + 1) 512 34 (fl 64 F) := by subst hwo; have := (((Blk.new (w.alloc (.cells (bcells 64 (m)) 23)) 512 34 (fl 64 F)).alloc (.cells (bcells 512 (fl 64 G)) 34)).alloc (.cells (bcells 512 (fl 64 (fun _ _ => 0))) 34)); simpa using this
  have B2 : Blk W1 (w.heap.size + 1 + 1) 512 34 (fl 64 G) := by subst hwo; have := ((Blk.new ((w.alloc (.cells (bcells 64 (m)) 23)).alloc (.cells (bcells 512 (fl 64 F)) 34)) 512 34 (fl 64 G)).alloc (.cells (bcells 512 (fl 64 (fun _ _ => 0))) 34)); simpa using this
  have B3 : Blk W1 (w.heap.size + 1 + 1 + 1) 512 34 (fl 64 (fun _ _ => 0)) := by subst hwo; have := (Blk.new (((w.alloc (.cells (bcells 64 (m)) 23)).alloc (.cells (bcells 512 (fl 64 F)) 34)).alloc (.cells (bcells 512 (fl 64 G)) 34)) 512 34 (fl 64 (fun _ _ => 0))); simpa using this
  have hb : Below w.heap.size w W1 := by subst hwo; exact (((((Below.refl _ _).alloc (Nat.le_refl _) _).alloc (by simp) _).alloc (by simp; omega) _).alloc (by simp; omega) _)
  rw [← hwo]
  clear hwo
  by_cases hz : skD F < 0 ∨ skD G < 0
  · have HPZ := Lib.hid (tmP_zero (p := p) (m := m) (d := d) hz)
    by_cases hzF : skD F < 0
    · skip
      have lt_B0 : (w.heap.size) < W1.heap.size := B0.lt
      have lt_B1 : (w.heap.size + 1) < W1.heap.size := B1.lt
      have lt_B2 : (w.heap.size + 1 + 1) < W1.heap.size := B2.lt
      have lt_B3 : (w.heap.size + 1 + 1 + 1) < W1.heap.size := B3.lt
      have hbase : w.heap.size ≤ W1.heap.size := hb.size
      refine wp_region_steps0 Try.mixed (by kernel_rfl) (by kernel_rfl) (fun v => by (simp only [frL, Act.put, List.setIfInBounds_toArray, List.set_cons_zero, List.set_cons_succ, Nat.reduceAdd, Nat.zero_add]; exact rfl))
        (fun L v W2 => Below w.heap.size w W2 ∧ W1.heap.size ≤ W2.heap.size ∧ Blk W2 (w.heap.size) 64 23 (m) ∧ Blk W2 (w.heap.size + 1) 512 34 (fl 64 F) ∧ Blk W2 (w.heap.size + 1 + 1) 512 34 (fl 64 G) ∧ Blk W2 (w.heap.size + 1 + 1 + 1) 512 34 (fl 64 (fun _ _ => 0)) ∧ (L 0 = true → v 0 = (.agg (bcells 512 (fl 64 F)))) ∧ (L 1 = true → v 1 = (.int .i64 (skD F))) ∧ (L 2 = true → v 2 = (.agg (bcells 512 (fl 64 G)))) ∧ (L 3 = true → v 3 = (.int .i64 (skD G))) ∧ (L 4 = true → v 4 = (.agg (bcells 512 (fl 64 (fun _ _ => 0))))) ∧ (L 5 = true → AF (v 5) W2 W1.heap.size 512 34) ∧ (L 6 = true → v 6 = (.int .i64 (skD F))) ∧ (L 7 = true → v 7 = (.int .i64 (skD G))) ∧ (L 8 = true → PF (v 5) W2 W1.heap.size 512 34 (fl 64 (fun _ _ => 0)))) ?_ ?_ ?_
      · intro v hv0
        exact ⟨hb.drew, Nat.le_refl _, B0.drew, B1.drew, B2.drew, B3.drew, (fun h => by cases h), (fun h => by cases h), (fun h => by cases h), (fun h => by cases h), (fun h => by cases h), (fun h => by cases h), (fun h => by cases h), (fun h => by cases h), (fun h => by cases h)⟩
      · refine (.cons rfl ?_ (.cons rfl ?_ (.cons rfl ?_ (.cons rfl ?_ (.cons rfl ?_ (.cons rfl ?_ (.cons rfl ?_ (.cons rfl ?_ (.cons rfl ?_ (.nil _))))))))))
        · intro L v W2 hd hn ⟨hB, hz, s0, s1, s2, s3, h0, h1, h2, h3, h4, h5, h6, h7, h8⟩ K hK
          refine wp_load_any 34 _ rfl _ rfl 512 34 _ s1 _ Try.underlying34 rfl Try.size34 ?_
          exact hK _ _ _ rfl ⟨hB, hz, s0, s1, s2, s3, (fun _ => rfl), h1, h2, h3, h4, h5, h6, h7, h8⟩
        · intro L v W2 hd hn ⟨hB, hz, s0, s1, s2, s3, h0, h1, h2, h3, h4, h5, h6, h7, h8⟩ K hK
          have e0 := h0 (hd ⟨0, .data⟩ (by simp) rfl)
          go_wp2_with (go_at_call 96; refine (l03Deg_any F _).mono ?_; rintro e wy ⟨rfl, hy⟩)
          exact hK _ (.int .i64 (skD F)) _ (by simp only [Act.put, List.setIfInBounds_toArray, List.set_cons_zero, List.set_cons_succ, e0]) ⟨hB.trans (hy.mono hB.size), (Nat.le_trans hz hy.size), (s0).below hy (s0).lt, (s1).below hy (s1).lt, (s2).below hy (s2).lt, (s3).below hy (s3).lt, h0, (fun _ => rfl), h2, h3, h4, (fun h => (h5 h).below hy), h6, h7, (fun h => (h8 h).below hy)⟩
        · intro L v W2 hd hn ⟨hB, hz, s0, s1, s2, s3, h0, h1, h2, h3, h4, h5, h6, h7, h8⟩ K hK
          refine wp_load_any 34 _ rfl _ rfl 512 34 _ s2 _ Try.underlying34 rfl Try.size34 ?_
          exact hK _ _ _ rfl ⟨hB, hz, s0, s1, s2, s3, h0, h1, (fun _ => rfl), h3, h4, h5, h6, h7, h8⟩
        · intro L v W2 hd hn ⟨hB, hz, s0, s1, s2, s3, h0, h1, h2, h3, h4, h5, h6, h7, h8⟩ K hK
          have e2 := h2 (hd ⟨2, .data⟩ (by simp) rfl)
          go_wp2_with (go_at_call 96; refine (l03Deg_any G _).mono ?_; rintro e wy ⟨rfl, hy⟩)
          exact hK _ (.int .i64 (skD G)) _ (by simp only [Act.put, List.setIfInBounds_toArray, List.set_cons_zero, List.set_cons_succ, e2]) ⟨hB.trans (hy.mono hB.size), (Nat.le_trans hz hy.size), (s0).below hy (s0).lt, (s1).below hy (s1).lt, (s2).below hy (s2).lt, (s3).below hy (s3).lt, h0, h1, h2, (fun _ => rfl), h4, (fun h => (h5 h).below hy), h6, h7, (fun h => (h8 h).below hy)⟩
        · intro L v W2 hd hn ⟨hB, hz, s0, s1, s2, s3, h0, h1, h2, h3, h4, h5, h6, h7, h8⟩ K hK
          go_wp2_with fail
          rw [← zero512]
          exact hK _ (.agg (bcells 512 (fl 64 (fun _ _ => 0)))) _ (by simp only [Act.put, List.setIfInBounds_toArray, List.set_cons_zero, List.set_cons_succ ]) ⟨hB, hz, s0, s1, s2, s3, h0, h1, h2, h3, (fun _ => rfl), h5, h6, h7, h8⟩
        · intro L v W2 hd hn ⟨hB, hz, s0, s1, s2, s3, h0, h1, h2, h3, h4, h5, h6, h7, h8⟩ K hK
          go_wp2_with fail
          rw [← zero512]
          exact hK _ (.pointer (some ⟨W2.heap.size, 0, none⟩)) _ (by simp only [Act.put, List.setIfInBounds_toArray, List.set_cons_zero, List.set_cons_succ ]) ⟨hB.alloc hB.size _, (by simp; omega), (s0).alloc _, (s1).alloc _, (s2).alloc _, (s3).alloc _, h0, h1, h2, h3, h4, (fun _ => (PF.new W2 512 34 _ hz).af), h6, h7, (fun h => absurd rfl (hn 8 _ rfl h ⟨5, .data⟩ (by simp) rfl))⟩
        · intro L v W2 hd hn ⟨hB, hz, s0, s1, s2, s3, h0, h1, h2, h3, h4, h5, h6, h7, h8⟩ K hK
          have e1 := h1 (hd ⟨1, .data⟩ (by simp) rfl)
          go_wp2_with fail
          exact hK _ (.int .i64 (skD F)) _ (by simp only [Act.put, List.setIfInBounds_toArray, List.set_cons_zero, List.set_cons_succ, e1]) ⟨hB, hz, s0, s1, s2, s3, h0, h1, h2, h3, h4, h5, (fun _ => rfl), h7, h8⟩
        · intro L v W2 hd hn ⟨hB, hz, s0, s1, s2, s3, h0, h1, h2, h3, h4, h5, h6, h7, h8⟩ K hK
          have e3 := h3 (hd ⟨3, .data⟩ (by simp) rfl)
          go_wp2_with fail
          exact hK _ (.int .i64 (skD G)) _ (by simp only [Act.put, List.setIfInBounds_toArray, List.set_cons_zero, List.set_cons_succ, e3]) ⟨hB, hz, s0, s1, s2, s3, h0, h1, h2, h3, h4, h5, h6, (fun _ => rfl), h8⟩
        · intro L v W2 hd hn ⟨hB, hz, s0, s1, s2, s3, h0, h1, h2, h3, h4, h5, h6, h7, h8⟩ K hK
          have e4 := h4 (hd ⟨4, .data⟩ (by simp) rfl)
          obtain ⟨gz, b, ea, hN, hk⟩ := (h5 (hd ⟨5, .data⟩ (by simp) rfl)).out
          refine wp_store_blk 34 _ _ rfl b 512 (fl 64 (fun _ _ => 0)) ea e4 34 gz hk Try.size34 ?_
          exact hK _ undef _ rfl ⟨below_row hB (Nat.le_trans hbase hN) _, (by simpa [World.setRow] using hz), (s0).rowOther (by omega), (s1).rowOther (by omega), (s2).rowOther (by omega), (s3).rowOther (by omega), h0, h1, h2, h3, h4, (fun h => (h5 h).row hk), h6, h7, (fun _ => by rw [show updV v 8 undef 5 = v 5 from rfl, ea]; exact PF.row hk hN _)⟩
      · intro L v W2 hL ⟨hB, hz, s0, s1, s2, s3, h0, h1, h2, h3, h4, h5, h6, h7, h8⟩
        have e0 := h0 (hL 0 (by decide))
        have e1 := h1 (hL 1 (by decide))
        have e2 := h2 (hL 2 (by decide))
        have e3 := h3 (hL 3 (by decide))
        have e4 := h4 (hL 4 (by decide))
        have e6 := h6 (hL 6 (by decide))
        have e7 := h7 (hL 7 (by decide))
        obtain ⟨k1_5, e5, hNk1_5, hk1_5⟩ := (h8 (hL 8 (by decide))).out
        clear hL h0 h1 h2 h3 h4 h5 h6 h7 h8
        simp only [Exit.then, e0, e1, e2, e3, e4, e6, e7, e5]
        clear e0 e1 e2 e3 e4 e6 e7 e5
        clear B0
        have B0 := s0
        clear s0
        clear B1
        have B1 := s1
        clear s1
        clear B2
        have B2 := s2
        clear s2
        clear B3
        have B3 := s3
        clear s3
        clear hb
        have hb := hB
        clear hB
        have B4 := hk1_5
        clear hk1_5
        have zk1_5_0 : w.heap.size < k1_5 := by omega
        have zk1_5_1 : w.heap.size + 1 < k1_5 := by omega
        have zk1_5_2 : w.heap.size + 1 + 1 < k1_5 := by omega
        have zk1_5_3 : w.heap.size + 1 + 1 + 1 < k1_5 := by omega
        clear hbase hz lt_B0 lt_B1 lt_B2 lt_B3
        go_upto_region 3 with (fail)
        have lt_B0 := B0.lt
        have lt_B1 := B1.lt
        have lt_B2 := B2.lt
        have lt_B3 := B3.lt
        have lt_B4 := B4.lt
        go_wp2_with (first | rw [← zero64] | rw [← zero512] | (refine wpList_load_any rfl 34 (.tmp 12) rfl _ rfl 512 34 _ (B4) _ Try.underlying34 rfl Try.size34 ?_) | (refine wpList_store_blk rfl 34 (.tmp 8) (.tmp 27) rfl _ 512 (fl 64 (fun _ _ => 0)) rfl rfl 34 _ (B3) Try.size34 ?_; try simp only [Act.put]; go_wp2_with fail))
        have qB0 : Blk (W2.setRow (w.heap.size + 1 + 1 + 1) (bcells 512 (fl 64 (fun _ _ => 0)))) (w.heap.size) 64 23 (m) := (B0.rowOther (by omega))
        have qB1 : Blk (W2.setRow (w.heap.size + 1 + 1 + 1) (bcells 512 (fl 64 (fun _ _ => 0)))) (w.heap.size + 1) 512 34 (fl 64 F) := (B1.rowOther (by omega))
        have qB2 : Blk (W2.setRow (w.heap.size + 1 + 1 + 1) (bcells 512 (fl 64 (fun _ _ => 0)))) (w.heap.size + 1 + 1) 512 34 (fl 64 G) := (B2.rowOther (by omega))
        have qB3 : Blk (W2.setRow (w.heap.size + 1 + 1 + 1) (bcells 512 (fl 64 (fun _ _ => 0)))) (w.heap.size + 1 + 1 + 1) 512 34 (fl 64 (fun _ _ => 0)) := (B3.row (fl 64 (fun _ _ => 0)))
        have qB4 : Blk (W2.setRow (w.heap.size + 1 + 1 + 1) (bcells 512 (fl 64 (fun _ _ => 0)))) (k1_5) 512 34 (fl 64 (fun _ _ => 0)) := (B4.rowOther (by omega))
        have qhb : Below w.heap.size w (W2.setRow (w.heap.size + 1 + 1 + 1) (bcells 512 (fl 64 (fun _ _ => 0)))) := (below_row hb (by omega) _)
        obtain ⟨W3, hwo⟩ : ∃ v : World, v = (W2.setRow (w.heap.size + 1 + 1 + 1) (bcells 512 (fl 64 (fun _ _ => 0)))) := ⟨_, rfl⟩
        rw [← hwo] at qB0 qB1 qB2 qB3 qB4 qhb ⊢
        clear hwo
        clear B0 B1 B2 B3 B4 hb
        have B0 := qB0
        have B1 := qB1
        have B2 := qB2
        have B3 := qB3
        have B4 := qB4
        have hb := qhb
        clear qB0 qB1 qB2 qB3 qB4 qhb
        try simp only [Act.put, List.setIfInBounds_toArray, List.set_cons_zero, List.set_cons_succ]
        refine bodyPost_ret (results_anyt rfl _ _ _ 512 _ _ rfl B3 _ Try.underlying34 rfl Try.size34) rfl ⟨by first | (rw [HPZ.out]; done) | (rw [HPZ.out]; rfl), hb⟩
    · have hzG : skD G < 0 := by omega
      have lt_B0 : (w.heap.size) < W1.heap.size := B0.lt
      have lt_B1 : (w.heap.size + 1) < W1.heap.size := B1.lt
      have lt_B2 : (w.heap.size + 1 + 1) < W1.heap.size := B2.lt
      have lt_B3 : (w.heap.size + 1 + 1 + 1) < W1.heap.size := B3.lt
      have hbase : w.heap.size ≤ W1.heap.size := hb.size
      refine wp_region_steps0 Try.mixed (by kernel_rfl) (by kernel_rfl) (fun v => by (simp only [frL, Act.put, List.setIfInBounds_toArray, List.set_cons_zero, List.set_cons_succ, Nat.reduceAdd, Nat.zero_add]; exact rfl))
        (fun L v W2 => Below w.heap.size w W2 ∧ W1.heap.size ≤ W2.heap.size ∧ Blk W2 (w.heap.size) 64 23 (m) ∧ Blk W2 (w.heap.size + 1) 512 34 (fl 64 F) ∧ Blk W2 (w.heap.size + 1 + 1) 512 34 (fl 64 G) ∧ Blk W2 (w.heap.size + 1 + 1 + 1) 512 34 (fl 64 (fun _ _ => 0)) ∧ (L 0 = true → v 0 = (.agg (bcells 512 (fl 64 F)))) ∧ (L 1 = true → v 1 = (.int .i64 (skD F))) ∧ (L 2 = true → v 2 = (.agg (bcells 512 (fl 64 G)))) ∧ (L 3 = true → v 3 = (.int .i64 (skD G))) ∧ (L 4 = true → v 4 = (.agg (bcells 512 (fl 64 (fun _ _ => 0))))) ∧ (L 5 = true → AF (v 5) W2 W1.heap.size 512 34) ∧ (L 6 = true → v 6 = (.int .i64 (skD F))) ∧ (L 7 = true → v 7 = (.int .i64 (skD G))) ∧ (L 8 = true → PF (v 5) W2 W1.heap.size 512 34 (fl 64 (fun _ _ => 0)))) ?_ ?_ ?_
      · intro v hv0
        exact ⟨hb.drew, Nat.le_refl _, B0.drew, B1.drew, B2.drew, B3.drew, (fun h => by cases h), (fun h => by cases h), (fun h => by cases h), (fun h => by cases h), (fun h => by cases h), (fun h => by cases h), (fun h => by cases h), (fun h => by cases h), (fun h => by cases h)⟩
      · refine (.cons rfl ?_ (.cons rfl ?_ (.cons rfl ?_ (.cons rfl ?_ (.cons rfl ?_ (.cons rfl ?_ (.cons rfl ?_ (.cons rfl ?_ (.cons rfl ?_ (.nil _))))))))))
        · intro L v W2 hd hn ⟨hB, hz, s0, s1, s2, s3, h0, h1, h2, h3, h4, h5, h6, h7, h8⟩ K hK
          refine wp_load_any 34 _ rfl _ rfl 512 34 _ s1 _ Try.underlying34 rfl Try.size34 ?_
          exact hK _ _ _ rfl ⟨hB, hz, s0, s1, s2, s3, (fun _ => rfl), h1, h2, h3, h4, h5, h6, h7, h8⟩
        · intro L v W2 hd hn ⟨hB, hz, s0, s1, s2, s3, h0, h1, h2, h3, h4, h5, h6, h7, h8⟩ K hK
          have e0 := h0 (hd ⟨0, .data⟩ (by simp) rfl)
          go_wp2_with (go_at_call 96; refine (l03Deg_any F _).mono ?_; rintro e wy ⟨rfl, hy⟩)
          exact hK _ (.int .i64 (skD F)) _ (by simp only [Act.put, List.setIfInBounds_toArray, List.set_cons_zero, List.set_cons_succ, e0]) ⟨hB.trans (hy.mono hB.size), (Nat.le_trans hz hy.size), (s0).below hy (s0).lt, (s1).below hy (s1).lt, (s2).below hy (s2).lt, (s3).below hy (s3).lt, h0, (fun _ => rfl), h2, h3, h4, (fun h => (h5 h).below hy), h6, h7, (fun h => (h8 h).below hy)⟩
        · intro L v W2 hd hn ⟨hB, hz, s0, s1, s2, s3, h0, h1, h2, h3, h4, h5, h6, h7, h8⟩ K hK
          refine wp_load_any 34 _ rfl _ rfl 512 34 _ s2 _ Try.underlying34 rfl Try.size34 ?_
          exact hK _ _ _ rfl ⟨hB, hz, s0, s1, s2, s3, h0, h1, (fun _ => rfl), h3, h4, h5, h6, h7, h8⟩
        · intro L v W2 hd hn ⟨hB, hz, s0, s1, s2, s3, h0, h1, h2, h3, h4, h5, h6, h7, h8⟩ K hK
          have e2 := h2 (hd ⟨2, .data⟩ (by simp) rfl)
          go_wp2_with (go_at_call 96; refine (l03Deg_any G _).mono ?_; rintro e wy ⟨rfl, hy⟩)
          exact hK _ (.int .i64 (skD G)) _ (by simp only [Act.put, List.setIfInBounds_toArray, List.set_cons_zero, List.set_cons_succ, e2]) ⟨hB.trans (hy.mono hB.size), (Nat.le_trans hz hy.size), (s0).below hy (s0).lt, (s1).below hy (s1).lt, (s2).below hy (s2).lt, (s3).below hy (s3).lt, h0, h1, h2, (fun _ => rfl), h4, (fun h => (h5 h).below hy), h6, h7, (fun h => (h8 h).below hy)⟩
        · intro L v W2 hd hn ⟨hB, hz, s0, s1, s2, s3, h0, h1, h2, h3, h4, h5, h6, h7, h8⟩ K hK
          go_wp2_with fail
          rw [← zero512]
          exact hK _ (.agg (bcells 512 (fl 64 (fun _ _ => 0)))) _ (by simp only [Act.put, List.setIfInBounds_toArray, List.set_cons_zero, List.set_cons_succ ]) ⟨hB, hz, s0, s1, s2, s3, h0, h1, h2, h3, (fun _ => rfl), h5, h6, h7, h8⟩
        · intro L v W2 hd hn ⟨hB, hz, s0, s1, s2, s3, h0, h1, h2, h3, h4, h5, h6, h7, h8⟩ K hK
          go_wp2_with fail
          rw [← zero512]
          exact hK _ (.pointer (some ⟨W2.heap.size, 0, none⟩)) _ (by simp only [Act.put, List.setIfInBounds_toArray, List.set_cons_zero, List.set_cons_succ ]) ⟨hB.alloc hB.size _, (by simp; omega), (s0).alloc _, (s1).alloc _, (s2).alloc _, (s3).alloc _, h0, h1, h2, h3, h4, (fun _ => (PF.new W2 512 34 _ hz).af), h6, h7, (fun h => absurd rfl (hn 8 _ rfl h ⟨5, .data⟩ (by simp) rfl))⟩
        · intro L v W2 hd hn ⟨hB, hz, s0, s1, s2, s3, h0, h1, h2, h3, h4, h5, h6, h7, h8⟩ K hK
          have e1 := h1 (hd ⟨1, .data⟩ (by simp) rfl)
          go_wp2_with fail
          exact hK _ (.int .i64 (skD F)) _ (by simp only [Act.put, List.setIfInBounds_toArray, List.set_cons_zero, List.set_cons_succ, e1]) ⟨hB, hz, s0, s1, s2, s3, h0, h1, h2, h3, h4, h5, (fun _ => rfl), h7, h8⟩
        · intro L v W2 hd hn ⟨hB, hz, s0, s1, s2, s3, h0, h1, h2, h3, h4, h5, h6, h7, h8⟩ K hK
          have e3 := h3 (hd ⟨3, .data⟩ (by simp) rfl)
          go_wp2_with fail
          exact hK _ (.int .i64 (skD G)) _ (by simp only [Act.put, List.setIfInBounds_toArray, List.set_cons_zero, List.set_cons_succ, e3]) ⟨hB, hz, s0, s1, s2, s3, h0, h1, h2, h3, h4, h5, h6, (fun _ => rfl), h8⟩
        · intro L v W2 hd hn ⟨hB, hz, s0, s1, s2, s3, h0, h1, h2, h3, h4, h5, h6, h7, h8⟩ K hK
          have e4 := h4 (hd ⟨4, .data⟩ (by simp) rfl)
          obtain ⟨gz, b, ea, hN, hk⟩ := (h5 (hd ⟨5, .data⟩ (by simp) rfl)).out
          refine wp_store_blk 34 _ _ rfl b 512 (fl 64 (fun _ _ => 0)) ea e4 34 gz hk Try.size34 ?_
          exact hK _ undef _ rfl ⟨below_row hB (Nat.le_trans hbase hN) _, (by simpa [World.setRow] using hz), (s0).rowOther (by omega), (s1).rowOther (by omega), (s2).rowOther (by omega), (s3).rowOther (by omega), h0, h1, h2, h3, h4, (fun h => (h5 h).row hk), h6, h7, (fun _ => by rw [show updV v 8 undef 5 = v 5 from rfl, ea]; exact PF.row hk hN _)⟩
      · intro L v W2 hL ⟨hB, hz, s0, s1, s2, s3, h0, h1, h2, h3, h4, h5, h6, h7, h8⟩
        have e0 := h0 (hL 0 (by decide))
        have e1 := h1 (hL 1 (by decide))
        have e2 := h2 (hL 2 (by decide))
        have e3 := h3 (hL 3 (by decide))
        have e4 := h4 (hL 4 (by decide))
        have e6 := h6 (hL 6 (by decide))
        have e7 := h7 (hL 7 (by decide))
        obtain ⟨k1_5, e5, hNk1_5, hk1_5⟩ := (h8 (hL 8 (by decide))).out
        clear hL h0 h1 h2 h3 h4 h5 h6 h7 h8
        simp only [Exit.then, e0, e1, e2, e3, e4, e6, e7, e5]
        clear e0 e1 e2 e3 e4 e6 e7 e5
        clear B0
        have B0 := s0
        clear s0
        clear B1
        have B1 := s1
        clear s1
        clear B2
        have B2 := s2
        clear s2
        clear B3
        have B3 := s3
        clear s3
        clear hb
        have hb := hB
        clear hB
        have B4 := hk1_5
        clear hk1_5
        have zk1_5_0 : w.heap.size < k1_5 := by omega
        have zk1_5_1 : w.heap.size + 1 < k1_5 := by omega
        have zk1_5_2 : w.heap.size + 1 + 1 < k1_5 := by omega
        have zk1_5_3 : w.heap.size + 1 + 1 + 1 < k1_5 := by omega
        clear hbase hz lt_B0 lt_B1 lt_B2 lt_B3
        go_upto_region 3 with (fail)
        have lt_B0 := B0.lt
        have lt_B1 := B1.lt
        have lt_B2 := B2.lt
        have lt_B3 := B3.lt
        have lt_B4 := B4.lt
        go_wp2_with (first | rw [← zero64] | rw [← zero512] | (refine wpList_load_any rfl 34 (.tmp 12) rfl _ rfl 512 34 _ (B4) _ Try.underlying34 rfl Try.size34 ?_) | (refine wpList_store_blk rfl 34 (.tmp 8) (.tmp 27) rfl _ 512 (fl 64 (fun _ _ => 0)) rfl rfl 34 _ (B3) Try.size34 ?_; try simp only [Act.put]; go_wp2_with fail))
        have qB0 : Blk (W2.setRow (w.heap.size + 1 + 1 + 1) (bcells 512 (fl 64 (fun _ _ => 0)))) (w.heap.size) 64 23 (m) := (B0.rowOther (by omega))
        have qB1 : Blk (W2.setRow (w.heap.size + 1 + 1 + 1) (bcells 512 (fl 64 (fun _ _ => 0)))) (w.heap.size + 1) 512 34 (fl 64 F) := (B1.rowOther (by omega))
        have qB2 : Blk (W2.setRow (w.heap.size + 1 + 1 + 1) (bcells 512 (fl 64 (fun _ _ => 0)))) (w.heap.size + 1 + 1) 512 34 (fl 64 G) := (B2.rowOther (by omega))
        have qB3 : Blk (W2.setRow (w.heap.size + 1 + 1 + 1) (bcells 512 (fl 64 (fun _ _ => 0)))) (w.heap.size + 1 + 1 + 1) 512 34 (fl 64 (fun _ _ => 0)) := (B3.row (fl 64 (fun _ _ => 0)))
        have qB4 : Blk (W2.setRow (w.heap.size + 1 + 1 + 1) (bcells 512 (fl 64 (fun _ _ => 0)))) (k1_5) 512 34 (fl 64 (fun _ _ => 0)) := (B4.rowOther (by omega))
        have qhb : Below w.heap.size w (W2.setRow (w.heap.size + 1 + 1 + 1) (bcells 512 (fl 64 (fun _ _ => 0)))) := (below_row hb (by omega) _)
        obtain ⟨W3, hwo⟩ : ∃ v : World, v = (W2.setRow (w.heap.size + 1 + 1 + 1) (bcells 512 (fl 64 (fun _ _ => 0)))) := ⟨_, rfl⟩
        rw [← hwo] at qB0 qB1 qB2 qB3 qB4 qhb ⊢
        clear hwo
        clear B0 B1 B2 B3 B4 hb
        have B0 := qB0
        have B1 := qB1
        have B2 := qB2
        have B3 := qB3
        have B4 := qB4
        have hb := qhb
        clear qB0 qB1 qB2 qB3 qB4 qhb
        try simp only [Act.put, List.setIfInBounds_toArray, List.set_cons_zero, List.set_cons_succ]
        refine bodyPost_ret (results_anyt rfl _ _ _ 512 _ _ rfl B3 _ Try.underlying34 rfl Try.size34) rfl ⟨by first | (rw [HPZ.out]; done) | (rw [HPZ.out]; rfl), hb⟩
  · have hn1 : ¬ skD F < 0 := by omega
    have hn2 : ¬ skD G < 0 := by omega
    have lt_B0 : (w.heap.size) < W1.heap.size := B0.lt
    have lt_B1 : (w.heap.size + 1) < W1.heap.size := B1.lt
    have lt_B2 : (w.heap.size + 1 + 1) < W1.heap.size := B2.lt
    have lt_B3 : (w.heap.size + 1 + 1 + 1) < W1.heap.size := B3.lt
    have hbase : w.heap.size ≤ W1.heap.size := hb.size
    refine wp_region_steps0 Try.mixed (by kernel_rfl) (by kernel_rfl) (fun v => by (simp only [frL, Act.put, List.setIfInBounds_toArray, List.set_cons_zero, List.set_cons_succ, Nat.reduceAdd, Nat.zero_add]; exact rfl))
      (fun L v W2 => Below w.heap.size w W2 ∧ W1.heap.size ≤ W2.heap.size ∧ Blk W2 (w.heap.size) 64 23 (m) ∧ Blk W2 (w.heap.size + 1) 512 34 (fl 64 F) ∧ Blk W2 (w.heap.size + 1 + 1) 512 34 (fl 64 G) ∧ Blk W2 (w.heap.size + 1 + 1 + 1) 512 34 (fl 64 (fun _ _ => 0)) ∧ (L 0 = true → v 0 = (.agg (bcells 512 (fl 64 F)))) ∧ (L 1 = true → v 1 = (.int .i64 (skD F))) ∧ (L 2 = true → v 2 = (.agg (bcells 512 (fl 64 G)))) ∧ (L 3 = true → v 3 = (.int .i64 (skD G))) ∧ (L 4 = true → v 4 = (.agg (bcells 512 (fl 64 (fun _ _ => 0))))) ∧ (L 5 = true → AF (v 5) W2 W1.heap.size 512 34) ∧ (L 6 = true → v 6 = (.int .i64 (skD F))) ∧ (L 7 = true → v 7 = (.int .i64 (skD G))) ∧ (L 8 = true → PF (v 5) W2 W1.heap.size 512 34 (fl 64 (fun _ _ => 0)))) ?_ ?_ ?_
    · intro v hv0
      exact ⟨hb.drew, Nat.le_refl _, B0.drew, B1.drew, B2.drew, B3.drew, (fun h => by cases h), (fun h => by cases h), (fun h => by cases h), (fun h => by cases h), (fun h => by cases h), (fun h => by cases h), (fun h => by cases h), (fun h => by cases h), (fun h => by cases h)⟩
    · refine (.cons rfl ?_ (.cons rfl ?_ (.cons rfl ?_ (.cons rfl ?_ (.cons rfl ?_ (.cons rfl ?_ (.cons rfl ?_ (.cons rfl ?_ (.cons rfl ?_ (.nil _))))))))))
      · intro L v W2 hd hn ⟨hB, hz, s0, s1, s2, s3, h0, h1, h2, h3, h4, h5, h6, h7, h8⟩ K hK
        refine wp_load_any 34 _ rfl _ rfl 512 34 _ s1 _ Try.underlying34 rfl Try.size34 ?_
        exact hK _ _ _ rfl ⟨hB, hz, s0, s1, s2, s3, (fun _ => rfl), h1, h2, h3, h4, h5, h6, h7, h8⟩
      · intro L v W2 hd hn ⟨hB, hz, s0, s1, s2, s3, h0, h1, h2, h3, h4, h5, h6, h7, h8⟩ K hK
        have e0 := h0 (hd ⟨0, .data⟩ (by simp) rfl)
        go_wp2_with (go_at_call 96; refine (l03Deg_any F _).mono ?_; rintro e wy ⟨rfl, hy⟩)
        exact hK _ (.int .i64 (skD F)) _ (by simp only [Act.put, List.setIfInBounds_toArray, List.set_cons_zero, List.set_cons_succ, e0]) ⟨hB.trans (hy.mono hB.size), (Nat.le_trans hz hy.size), (s0).below hy (s0).lt, (s1).below hy (s1).lt, (s2).below hy (s2).lt, (s3).below hy (s3).lt, h0, (fun _ => rfl), h2, h3, h4, (fun h => (h5 h).below hy), h6, h7, (fun h => (h8 h).below hy)⟩
      · intro L v W2 hd hn ⟨hB, hz, s0, s1, s2, s3, h0, h1, h2, h3, h4, h5, h6, h7, h8⟩ K hK
        refine wp_load_any 34 _ rfl _ rfl 512 34 _ s2 _ Try.underlying34 rfl Try.size34 ?_
        exact hK _ _ _ rfl ⟨hB, hz, s0, s1, s2, s3, h0, h1, (fun _ => rfl), h3, h4, h5, h6, h7, h8⟩
      · intro L v W2 hd hn ⟨hB, hz, s0, s1, s2, s3, h0, h1, h2, h3, h4, h5, h6, h7, h8⟩ K hK
        have e2 := h2 (hd ⟨2, .data⟩ (by simp) rfl)
        go_wp2_with (go_at_call 96; refine (l03Deg_any G _).mono ?_; rintro e wy ⟨rfl, hy⟩)
        exact hK _ (.int .i64 (skD G)) _ (by simp only [Act.put, List.setIfInBounds_toArray, List.set_cons_zero, List.set_cons_succ, e2]) ⟨hB.trans (hy.mono hB.size), (Nat.le_trans hz hy.size), (s0).below hy (s0).lt, (s1).below hy (s1).lt, (s2).below hy (s2).lt, (s3).below hy (s3).lt, h0, h1, h2, (fun _ => rfl), h4, (fun h => (h5 h).below hy), h6, h7, (fun h => (h8 h).below hy)⟩
      · intro L v W2 hd hn ⟨hB, hz, s0, s1, s2, s3, h0, h1, h2, h3, h4, h5, h6, h7, h8⟩ K hK
        go_wp2_with fail
        rw [← zero512]
        exact hK _ (.agg (bcells 512 (fl 64 (fun _ _ => 0)))) _ (by simp only [Act.put, List.setIfInBounds_toArray, List.set_cons_zero, List.set_cons_succ ]) ⟨hB, hz, s0, s1, s2, s3, h0, h1, h2, h3, (fun _ => rfl), h5, h6, h7, h8⟩
      · intro L v W2 hd hn ⟨hB, hz, s0, s1, s2, s3, h0, h1, h2, h3, h4, h5, h6, h7, h8⟩ K hK
        go_wp2_with fail
        rw [← zero512]
        exact hK _ (.pointer (some ⟨W2.heap.size, 0, none⟩)) _ (by simp only [Act.put, List.setIfInBounds_toArray, List.set_cons_zero, List.set_cons_succ ]) ⟨hB.alloc hB.size _, (by simp; omega), (s0).alloc _, (s1).alloc _, (s2).alloc _, (s3).alloc _, h0, h1, h2, h3, h4, (fun _ => (PF.new W2 512 34 _ hz).af), h6, h7, (fun h => absurd rfl (hn 8 _ rfl h ⟨5, .data⟩ (by simp) rfl))⟩
      · intro L v W2 hd hn ⟨hB, hz, s0, s1, s2, s3, h0, h1, h2, h3, h4, h5, h6, h7, h8⟩ K hK
        have e1 := h1 (hd ⟨1, .data⟩ (by simp) rfl)
        go_wp2_with fail
        exact hK _ (.int .i64 (skD F)) _ (by simp only [Act.put, List.setIfInBounds_toArray, List.set_cons_zero, List.set_cons_succ, e1]) ⟨hB, hz, s0, s1, s2, s3, h0, h1, h2, h3, h4, h5, (fun _ => rfl), h7, h8⟩
      · intro L v W2 hd hn ⟨hB, hz, s0, s1, s2, s3, h0, h1, h2, h3, h4, h5, h6, h7, h8⟩ K hK
        have e3 := h3 (hd ⟨3, .data⟩ (by simp) rfl)
        go_wp2_with fail
        exact hK _ (.int .i64 (skD G)) _ (by simp only [Act.put, List.setIfInBounds_toArray, List.set_cons_zero, List.set_cons_succ, e3]) ⟨hB, hz, s0, s1, s2, s3, h0, h1, h2, h3, h4, h5, h6, (fun _ => rfl), h8⟩
      · intro L v W2 hd hn ⟨hB, hz, s0, s1, s2, s3, h0, h1, h2, h3, h4, h5, h6, h7, h8⟩ K hK
        have e4 := h4 (hd ⟨4, .data⟩ (by simp) rfl)
        obtain ⟨gz, b, ea, hN, hk⟩ := (h5 (hd ⟨5, .data⟩ (by simp) rfl)).out
        refine wp_store_blk 34 _ _ rfl b 512 (fl 64 (fun _ _ => 0)) ea e4 34 gz hk Try.size34 ?_
        exact hK _ undef _ rfl ⟨below_row hB (Nat.le_trans hbase hN) _, (by simpa [World.setRow] using hz), (s0).rowOther (by omega), (s1).rowOther (by omega), (s2).rowOther (by omega), (s3).rowOther (by omega), h0, h1, h2, h3, h4, (fun h => (h5 h).row hk), h6, h7, (fun _ => by rw [show updV v 8 undef 5 = v 5 from rfl, ea]; exact PF.row hk hN _)⟩
    · intro L v W2 hL ⟨hB, hz, s0, s1, s2, s3, h0, h1, h2, h3, h4, h5, h6, h7, h8⟩
      have e0 := h0 (hL 0 (by decide))
      have e1 := h1 (hL 1 (by decide))
      have e2 := h2 (hL 2 (by decide))
      have e3 := h3 (hL 3 (by decide))
      have e4 := h4 (hL 4 (by decide))
      have e6 := h6 (hL 6 (by decide))
      have e7 := h7 (hL 7 (by decide))
      obtain ⟨k1_5, e5, hNk1_5, hk1_5⟩ := (h8 (hL 8 (by decide))).out
      clear hL h0 h1 h2 h3 h4 h5 h6 h7 h8
      simp only [Exit.then, e0, e1, e2, e3, e4, e6, e7, e5]
      clear e0 e1 e2 e3 e4 e6 e7 e5
      clear B0
      have B0 := s0
      clear s0
      clear B1
      have B1 := s1
      clear s1
      clear B2
      have B2 := s2
      clear s2
      clear B3
      have B3 := s3
      clear s3
      clear hb
      have hb := hB
      clear hB
      have B4 := hk1_5
      clear hk1_5
      have zk1_5_0 : w.heap.size < k1_5 := by omega
      have zk1_5_1 : w.heap.size + 1 < k1_5 := by omega
      have zk1_5_2 : w.heap.size + 1 + 1 < k1_5 := by omega
      have zk1_5_3 : w.heap.size + 1 + 1 + 1 < k1_5 := by omega
      clear hbase hz lt_B0 lt_B1 lt_B2 lt_B3
      go_upto_region 6 with (fail)
      clear hz
      go_wp2_with fail
      go_loopw [13] (fun c wr => ∃ (i : Nat) (O : Nat → Nat → Nat), c = .int .i64 (i : Int) ∧ i ≤ A ∧ Hid (O = tmR p m d F G B i) ∧ Below w.heap.size w wr ∧ Blk wr (w.heap.size + 1) 512 34 (fl 64 F) ∧ Blk wr (w.heap.size) 64 23 m ∧ Blk wr (w.heap.size + 1 + 1) 512 34 (fl 64 G) ∧ Blk wr (w.heap.size + 1 + 1 + 1) 512 34 (fl 64 (fun _ _ => 0)) ∧ Blk wr (k1_5) 512 34 (fl 64 O)) (fun c _ => A - (intOf c).toNat)
      case atStart => exact ⟨0, _, rfl, Nat.zero_le _, Lib.hid HZ.out.symm, hb, B1, B0, B2, B3, B4⟩
      case round =>
        clear hb B1 B0 B2 B3 B4
        obtain ⟨i, O, rfl, hiA, hO, hb, B1, B0, B2, B3, B4⟩ := hrel
        by_cases hi : i < A
        · have hiI : (i : Int) ≤ skD F := by have := HA.out; omega
          have hi8 : i < 8 := by omega
          go_wp2_with fail
          go_loopw [14] (fun c wr => ∃ (j : Nat) (O : Nat → Nat → Nat), c = .int .i64 (j : Int) ∧ j ≤ B ∧ Hid (O = tmJ p m d F G i (tmR p m d F G B i) j) ∧ Below w.heap.size w wr ∧ Blk wr (w.heap.size + 1) 512 34 (fl 64 F) ∧ Blk wr (w.heap.size) 64 23 m ∧ Blk wr (w.heap.size + 1 + 1) 512 34 (fl 64 G) ∧ Blk wr (w.heap.size + 1 + 1 + 1) 512 34 (fl 64 (fun _ _ => 0)) ∧ Blk wr (k1_5) 512 34 (fl 64 O)) (fun c _ => B - (intOf c).toNat)
          case atStart => exact ⟨0, O, rfl, Nat.zero_le _, Lib.hid (by rw [HJZ.out, hO.out]), hb, B1, B0, B2, B3, B4⟩
          case round =>
            clear hb B1 B0 B2 B3 B4 hO
            obtain ⟨j, O, rfl, hjB, hO, hb, B1, B0, B2, B3, B4⟩ := hrel
            by_cases hj : j < B
            · have hjI : (j : Int) ≤ skD G := by have := HB.out; omega
              have hj8 : j < 8 := by omega
              obtain ⟨Q, hQ⟩ : ∃ Q, Q = i + j := ⟨_, rfl⟩
              have hQI : (i : Int) + (j : Int) = (Q : Int) := by omega
              have hQ8 : Q < 8 := by omega
              have HQ := Lib.hid hQ
              clear hQ
              have HOL := Lib.hid (show ∀ k, O Q k < p from fun k => by rw [hO.out]; exact HJL.out i j Q k)
              have HK1 := Lib.hid (HFR.out i hi8 j hj8)
              have HK2 := Lib.hid (HMM.out i hi8 j hj8)
              have HK3 := Lib.hid (HSU.out (O Q) (mmP p (F i) (frN p m (G j) (i % d)) m) HOL.out (HML.out i j))
              go_upto_region 12 with (fail)
              have lt_B0 : (w.heap.size) < wr.heap.size := B0.lt
              have lt_B1 : (w.heap.size + 1) < wr.heap.size := B1.lt
              have lt_B2 : (w.heap.size + 1 + 1) < wr.heap.size := B2.lt
              have lt_B3 : (w.heap.size + 1 + 1 + 1) < wr.heap.size := B3.lt
              have lt_B4 : (k1_5) < wr.heap.size := B4.lt
              have hbase : w.heap.size ≤ wr.heap.size := hb.size
              refine wp_region_steps0 Try.mixed (by kernel_rfl) (by kernel_rfl) (fun v => by (simp only [frL, Act.put, List.setIfInBounds_toArray, List.set_cons_zero, List.set_cons_succ, Nat.reduceAdd, Nat.zero_add]; exact rfl))
                (fun L v W3 => Below w.heap.size w W3 ∧ wr.heap.size ≤ W3.heap.size ∧ Blk W3 (w.heap.size) 64 23 (m) ∧ Blk W3 (w.heap.size + 1) 512 34 (fl 64 F) ∧ Blk W3 (w.heap.size + 1 + 1) 512 34 (fl 64 G) ∧ Blk W3 (w.heap.size + 1 + 1 + 1) 512 34 (fl 64 (fun _ _ => 0)) ∧ Blk W3 (k1_5) 512 34 (fl 64 O) ∧ (L 0 = true → v 0 = (.int .i64 (p : Int))) ∧ (L 1 = true → v 1 = (.int .i64 (i : Int))) ∧ (L 2 = true → v 2 = (.pointer (some ⟨w.heap.size + 1, i * 64, none⟩))) ∧ (L 3 = true → v 3 = (.agg (bcells 64 (F i)))) ∧ (L 4 = true → v 4 = (.int .i64 (p : Int))) ∧ (L 5 = true → v 5 = (.int .i64 (j : Int))) ∧ (L 6 = true → v 6 = (.pointer (some ⟨w.heap.size + 1 + 1, j * 64, none⟩))) ∧ (L 7 = true → v 7 = (.agg (bcells 64 (G j)))) ∧ (L 8 = true → v 8 = (.int .i64 (i : Int))) ∧ (L 9 = true → v 9 = (.agg (bcells 64 (m)))) ∧ (L 10 = true → v 10 = (.agg (bcells 64 (frN p m (G j) (i % d))))) ∧ (L 11 = true → v 11 = (.agg (bcells 64 (m)))) ∧ (L 12 = true → v 12 = (.agg (bcells 64 (mmP p (F i) (frN p m (G j) (i % d)) m)))) ∧ (L 13 = true → AF (v 13) W3 wr.heap.size 64 23) ∧ (L 14 = true → PF (v 13) W3 wr.heap.size 64 23 (mmP p (F i) (frN p m (G j) (i % d)) m))) ?_ ?_ ?_
              · intro v hv0
                exact ⟨hb.drew, Nat.le_refl _, B0.drew, B1.drew, B2.drew, B3.drew, B4.drew, (fun h => by cases h), (fun h => by cases h), (fun h => by cases h), (fun h => by cases h), (fun h => by cases h), (fun h => by cases h), (fun h => by cases h), (fun h => by cases h), (fun h => by cases h), (fun h => by cases h), (fun h => by cases h), (fun h => by cases h), (fun h => by cases h), (fun h => by cases h), (fun h => by cases h)⟩
              · refine (.cons rfl ?_ (.cons rfl ?_ (.cons rfl ?_ (.cons rfl ?_ (.cons rfl ?_ (.cons rfl ?_ (.cons rfl ?_ (.cons rfl ?_ (.cons rfl ?_ (.cons rfl ?_ (.cons rfl ?_ (.cons rfl ?_ (.cons rfl ?_ (.cons rfl ?_ (.cons rfl ?_ (.nil _))))))))))))))))
                · intro L v W3 hd hn ⟨hB, hz, s0, s1, s2, s3, s4, h0, h1, h2, h3, h4, h5, h6, h7, h8, h9, h10, h11, h12, h13, h14⟩ K hK
                  go_wp2_with fail
                  exact hK _ (.int .i64 (p : Int)) _ (by simp only [Act.put, List.setIfInBounds_toArray, List.set_cons_zero, List.set_cons_succ ]) ⟨hB, hz, s0, s1, s2, s3, s4, (fun _ => rfl), h1, h2, h3, h4, h5, h6, h7, h8, h9, h10, h11, h12, h13, h14⟩
                · intro L v W3 hd hn ⟨hB, hz, s0, s1, s2, s3, s4, h0, h1, h2, h3, h4, h5, h6, h7, h8, h9, h10, h11, h12, h13, h14⟩ K hK
                  go_wp2_with fail
                  exact hK _ (.int .i64 (i : Int)) _ (by simp only [Act.put, List.setIfInBounds_toArray, List.set_cons_zero, List.set_cons_succ ]) ⟨hB, hz, s0, s1, s2, s3, s4, h0, (fun _ => rfl), h2, h3, h4, h5, h6, h7, h8, h9, h10, h11, h12, h13, h14⟩
                · intro L v W3 hd hn ⟨hB, hz, s0, s1, s2, s3, s4, h0, h1, h2, h3, h4, h5, h6, h7, h8, h9, h10, h11, h12, h13, h14⟩ K hK
                  have e1 := h1 (hd ⟨1, .data⟩ (by simp) rfl)
                  go_wp2_with fail
                  exact hK _ (.pointer (some ⟨w.heap.size + 1, i * 64, none⟩)) _ (by simp only [Act.put, List.setIfInBounds_toArray, List.set_cons_zero, List.set_cons_succ, e1]) ⟨hB, hz, s0, s1, s2, s3, s4, h0, h1, (fun _ => rfl), h3, h4, h5, h6, h7, h8, h9, h10, h11, h12, h13, h14⟩
                · intro L v W3 hd hn ⟨hB, hz, s0, s1, s2, s3, s4, h0, h1, h2, h3, h4, h5, h6, h7, h8, h9, h10, h11, h12, h13, h14⟩ K hK
                  have e2 := h2 (hd ⟨2, .data⟩ (by simp) rfl)
                  refine wp_load_mid 23 _ rfl _ (i * 64) e2 _ _ ((s1).sk (by omega)) Try.underlying23 rfl (by rw [bl_length]; exact Try.size23) ?_
                  exact hK _ _ _ rfl ⟨hB, hz, s0, s1, s2, s3, s4, h0, h1, h2, (fun _ => rfl), h4, h5, h6, h7, h8, h9, h10, h11, h12, h13, h14⟩
                · intro L v W3 hd hn ⟨hB, hz, s0, s1, s2, s3, s4, h0, h1, h2, h3, h4, h5, h6, h7, h8, h9, h10, h11, h12, h13, h14⟩ K hK
                  go_wp2_with fail
                  exact hK _ (.int .i64 (p : Int)) _ (by simp only [Act.put, List.setIfInBounds_toArray, List.set_cons_zero, List.set_cons_succ ]) ⟨hB, hz, s0, s1, s2, s3, s4, h0, h1, h2, h3, (fun _ => rfl), h5, h6, h7, h8, h9, h10, h11, h12, h13, h14⟩
                · intro L v W3 hd hn ⟨hB, hz, s0, s1, s2, s3, s4, h0, h1, h2, h3, h4, h5, h6, h7, h8, h9, h10, h11, h12, h13, h14⟩ K hK
                  go_wp2_with fail
                  exact hK _ (.int .i64 (j : Int)) _ (by simp only [Act.put, List.setIfInBounds_toArray, List.set_cons_zero, List.set_cons_succ ]) ⟨hB, hz, s0, s1, s2, s3, s4, h0, h1, h2, h3, h4, (fun _ => rfl), h6, h7, h8, h9, h10, h11, h12, h13, h14⟩
                · intro L v W3 hd hn ⟨hB, hz, s0, s1, s2, s3, s4, h0, h1, h2, h3, h4, h5, h6, h7, h8, h9, h10, h11, h12, h13, h14⟩ K hK
                  have e5 := h5 (hd ⟨5, .data⟩ (by simp) rfl)
                  go_wp2_with fail
                  exact hK _ (.pointer (some ⟨w.heap.size + 1 + 1, j * 64, none⟩)) _ (by simp only [Act.put, List.setIfInBounds_toArray, List.set_cons_zero, List.set_cons_succ, e5]) ⟨hB, hz, s0, s1, s2, s3, s4, h0, h1, h2, h3, h4, h5, (fun _ => rfl), h7, h8, h9, h10, h11, h12, h13, h14⟩
                · intro L v W3 hd hn ⟨hB, hz, s0, s1, s2, s3, s4, h0, h1, h2, h3, h4, h5, h6, h7, h8, h9, h10, h11, h12, h13, h14⟩ K hK
                  have e6 := h6 (hd ⟨6, .data⟩ (by simp) rfl)
                  refine wp_load_mid 23 _ rfl _ (j * 64) e6 _ _ ((s2).sk (by omega)) Try.underlying23 rfl (by rw [bl_length]; exact Try.size23) ?_
                  exact hK _ _ _ rfl ⟨hB, hz, s0, s1, s2, s3, s4, h0, h1, h2, h3, h4, h5, h6, (fun _ => rfl), h8, h9, h10, h11, h12, h13, h14⟩
                · intro L v W3 hd hn ⟨hB, hz, s0, s1, s2, s3, s4, h0, h1, h2, h3, h4, h5, h6, h7, h8, h9, h10, h11, h12, h13, h14⟩ K hK
                  go_wp2_with fail
                  exact hK _ (.int .i64 (i : Int)) _ (by simp only [Act.put, List.setIfInBounds_toArray, List.set_cons_zero, List.set_cons_succ ]) ⟨hB, hz, s0, s1, s2, s3, s4, h0, h1, h2, h3, h4, h5, h6, h7, (fun _ => rfl), h9, h10, h11, h12, h13, h14⟩
                · intro L v W3 hd hn ⟨hB, hz, s0, s1, s2, s3, s4, h0, h1, h2, h3, h4, h5, h6, h7, h8, h9, h10, h11, h12, h13, h14⟩ K hK
                  refine wp_load_any 23 _ rfl _ rfl 64 23 _ s0 _ Try.underlying23 rfl Try.size23 ?_
                  exact hK _ _ _ rfl ⟨hB, hz, s0, s1, s2, s3, s4, h0, h1, h2, h3, h4, h5, h6, h7, h8, (fun _ => rfl), h10, h11, h12, h13, h14⟩
                · intro L v W3 hd hn ⟨hB, hz, s0, s1, s2, s3, s4, h0, h1, h2, h3, h4, h5, h6, h7, h8, h9, h10, h11, h12, h13, h14⟩ K hK
                  have e4 := h4 (hd ⟨4, .data⟩ (by simp) rfl)
                  have e7 := h7 (hd ⟨7, .data⟩ (by simp) rfl)
                  have e8 := h8 (hd ⟨8, .data⟩ (by simp) rfl)
                  have e9 := h9 (hd ⟨9, .data⟩ (by simp) rfl)
                  go_wp2_with (go_at_call 164; refine (HK1.out _).mono ?_; rintro e wy ⟨rfl, hy⟩)
                  exact hK _ (.agg (bcells 64 (frN p m (G j) (i % d)))) _ (by simp only [Act.put, List.setIfInBounds_toArray, List.set_cons_zero, List.set_cons_succ, e4, e7, e8, e9]) ⟨hB.trans (hy.mono hB.size), (Nat.le_trans hz hy.size), (s0).below hy (s0).lt, (s1).below hy (s1).lt, (s2).below hy (s2).lt, (s3).below hy (s3).lt, (s4).below hy (s4).lt, h0, h1, h2, h3, h4, h5, h6, h7, h8, h9, (fun _ => rfl), h11, h12, (fun h => (h13 h).below hy), (fun h => (h14 h).below hy)⟩
                · intro L v W3 hd hn ⟨hB, hz, s0, s1, s2, s3, s4, h0, h1, h2, h3, h4, h5, h6, h7, h8, h9, h10, h11, h12, h13, h14⟩ K hK
                  refine wp_load_any 23 _ rfl _ rfl 64 23 _ s0 _ Try.underlying23 rfl Try.size23 ?_
                  exact hK _ _ _ rfl ⟨hB, hz, s0, s1, s2, s3, s4, h0, h1, h2, h3, h4, h5, h6, h7, h8, h9, h10, (fun _ => rfl), h12, h13, h14⟩
                · intro L v W3 hd hn ⟨hB, hz, s0, s1, s2, s3, s4, h0, h1, h2, h3, h4, h5, h6, h7, h8, h9, h10, h11, h12, h13, h14⟩ K hK
                  have e0 := h0 (hd ⟨0, .data⟩ (by simp) rfl)
                  have e3 := h3 (hd ⟨3, .data⟩ (by simp) rfl)
                  have e10 := h10 (hd ⟨10, .data⟩ (by simp) rfl)
                  have e11 := h11 (hd ⟨11, .data⟩ (by simp) rfl)
                  go_wp2_with (go_at_call 163; refine (HK2.out _).mono ?_; rintro e wy ⟨rfl, hy⟩)
                  exact hK _ (.agg (bcells 64 (mmP p (F i) (frN p m (G j) (i % d)) m))) _ (by simp only [Act.put, List.setIfInBounds_toArray, List.set_cons_zero, List.set_cons_succ, e0, e3, e10, e11]) ⟨hB.trans (hy.mono hB.size), (Nat.le_trans hz hy.size), (s0).below hy (s0).lt, (s1).below hy (s1).lt, (s2).below hy (s2).lt, (s3).below hy (s3).lt, (s4).below hy (s4).lt, h0, h1, h2, h3, h4, h5, h6, h7, h8, h9, h10, h11, (fun _ => rfl), (fun h => (h13 h).below hy), (fun h => (h14 h).below hy)⟩
                · intro L v W3 hd hn ⟨hB, hz, s0, s1, s2, s3, s4, h0, h1, h2, h3, h4, h5, h6, h7, h8, h9, h10, h11, h12, h13, h14⟩ K hK
                  go_wp2_with fail
                  rw [← zero64]
                  exact hK _ (.pointer (some ⟨W3.heap.size, 0, none⟩)) _ (by simp only [Act.put, List.setIfInBounds_toArray, List.set_cons_zero, List.set_cons_succ ]) ⟨hB.alloc hB.size _, (by simp; omega), (s0).alloc _, (s1).alloc _, (s2).alloc _, (s3).alloc _, (s4).alloc _, h0, h1, h2, h3, h4, h5, h6, h7, h8, h9, h10, h11, h12, (fun _ => (PF.new W3 64 23 _ hz).af), (fun h => absurd rfl (hn 14 _ rfl h ⟨13, .data⟩ (by simp) rfl))⟩
                · intro L v W3 hd hn ⟨hB, hz, s0, s1, s2, s3, s4, h0, h1, h2, h3, h4, h5, h6, h7, h8, h9, h10, h11, h12, h13, h14⟩ K hK
                  have e12 := h12 (hd ⟨12, .data⟩ (by simp) rfl)
                  obtain ⟨gz, b, ea, hN, hk⟩ := (h13 (hd ⟨13, .data⟩ (by simp) rfl)).out
                  refine wp_store_blk 23 _ _ rfl b 64 (mmP p (F i) (frN p m (G j) (i % d)) m) ea e12 23 gz hk Try.size23 ?_
                  exact hK _ undef _ rfl ⟨below_row hB (Nat.le_trans hbase hN) _, (by simpa [World.setRow] using hz), (s0).rowOther (by omega), (s1).rowOther (by omega), (s2).rowOther (by omega), (s3).rowOther (by omega), (s4).rowOther (by omega), h0, h1, h2, h3, h4, h5, h6, h7, h8, h9, h10, h11, h12, (fun h => (h13 h).row hk), (fun _ => by rw [show updV v 14 undef 13 = v 13 from rfl, ea]; exact PF.row hk hN _)⟩
              · intro L v W3 hL ⟨hB, hz, s0, s1, s2, s3, s4, h0, h1, h2, h3, h4, h5, h6, h7, h8, h9, h10, h11, h12, h13, h14⟩
                have e0 := h0 (hL 0 (by decide))
                have e1 := h1 (hL 1 (by decide))
                have e2 := h2 (hL 2 (by decide))
                have e3 := h3 (hL 3 (by decide))
                have e4 := h4 (hL 4 (by decide))
                have e5 := h5 (hL 5 (by decide))
                have e6 := h6 (hL 6 (by decide))
                have e7 := h7 (hL 7 (by decide))
                have e8 := h8 (hL 8 (by decide))
                have e9 := h9 (hL 9 (by decide))
                have e10 := h10 (hL 10 (by decide))
                have e11 := h11 (hL 11 (by decide))
                have e12 := h12 (hL 12 (by decide))
                obtain ⟨k12_13, e13, hNk12_13, hk12_13⟩ := (h14 (hL 14 (by decide))).out
                clear hL h0 h1 h2 h3 h4 h5 h6 h7 h8 h9 h10 h11 h12 h13 h14
                simp only [Exit.then, e0, e1, e2, e3, e4, e5, e6, e7, e8, e9, e10, e11, e12, e13]
                clear e0 e1 e2 e3 e4 e5 e6 e7 e8 e9 e10 e11 e12 e13
                clear B0
                have B0 := s0
                clear s0
                clear B1
                have B1 := s1
                clear s1
                clear B2
                have B2 := s2
                clear s2
                clear B3
                have B3 := s3
                clear s3
                clear B4
                have B4 := s4
                clear s4
                clear hb
                have hb := hB
                clear hB
                have B5 := hk12_13
                clear hk12_13
                have zk12_13_0 : w.heap.size < k12_13 := by omega
                have zk12_13_1 : w.heap.size + 1 < k12_13 := by omega
                have zk12_13_2 : w.heap.size + 1 + 1 < k12_13 := by omega
                have zk12_13_3 : w.heap.size + 1 + 1 + 1 < k12_13 := by omega
                have zk12_13_4 : k1_5 < k12_13 := by omega
                clear hbase hz lt_B0 lt_B1 lt_B2 lt_B3 lt_B4
                go_upto_region 13 with (fail)
                have lt_B0 : (w.heap.size) < W3.heap.size := B0.lt
                have lt_B1 : (w.heap.size + 1) < W3.heap.size := B1.lt
                have lt_B2 : (w.heap.size + 1 + 1) < W3.heap.size := B2.lt
                have lt_B3 : (w.heap.size + 1 + 1 + 1) < W3.heap.size := B3.lt
                have lt_B4 : (k1_5) < W3.heap.size := B4.lt
                have lt_B5 : (k12_13) < W3.heap.size := B5.lt
                have hbase : w.heap.size ≤ W3.heap.size := hb.size
                refine wp_region_steps0 Try.mixed (by kernel_rfl) (by kernel_rfl) (fun v => by (simp only [frL, Act.put, List.setIfInBounds_toArray, List.set_cons_zero, List.set_cons_succ, Nat.reduceAdd, Nat.zero_add]; exact rfl))
                  (fun L v W4 => Below w.heap.size w W4 ∧ W3.heap.size ≤ W4.heap.size ∧ Blk W4 (w.heap.size) 64 23 (m) ∧ Blk W4 (w.heap.size + 1) 512 34 (fl 64 F) ∧ Blk W4 (w.heap.size + 1 + 1) 512 34 (fl 64 G) ∧ Blk W4 (w.heap.size + 1 + 1 + 1) 512 34 (fl 64 (fun _ _ => 0)) ∧ (∃ g, Blk W4 (k1_5) 512 34 (g)) ∧ (L 12 = false → Blk W4 (k1_5) 512 34 (fl 64 O)) ∧ (L 12 = true → Blk W4 (k1_5) 512 34 (fl 64 (updR O Q (addK p (O Q) (mmP p (F i) (frN p m (G j) (i % d)) m) 1)))) ∧ Blk W4 (k12_13) 64 23 (mmP p (F i) (frN p m (G j) (i % d)) m) ∧ (L 0 = true → v 0 = (.int .i64 (i : Int))) ∧ (L 1 = true → v 1 = (.int .i64 (j : Int))) ∧ (L 2 = true → v 2 = (.int .i64 (Q : Int))) ∧ (L 3 = true → v 3 = (.int .i64 (p : Int))) ∧ (L 4 = true → v 4 = (.int .i64 (i : Int))) ∧ (L 5 = true → v 5 = (.int .i64 (j : Int))) ∧ (L 6 = true → v 6 = (.int .i64 (Q : Int))) ∧ (L 7 = true → v 7 = (.pointer (some ⟨k1_5, Q * 64, none⟩))) ∧ (L 8 = true → v 8 = (.agg (bcells 64 (O Q)))) ∧ (L 9 = true → v 9 = (.agg (bcells 64 (mmP p (F i) (frN p m (G j) (i % d)) m)))) ∧ (L 10 = true → v 10 = (.agg (bcells 64 (addK p (O Q) (mmP p (F i) (frN p m (G j) (i % d)) m) 1)))) ∧ (L 11 = true → v 11 = (.pointer (some ⟨k1_5, Q * 64, none⟩)))) ?_ ?_ ?_
                · intro v hv0
                  exact ⟨hb.drew, Nat.le_refl _, B0.drew, B1.drew, B2.drew, B3.drew, ⟨_, B4.drew⟩, (fun _ => B4.drew), (fun h => by cases h), B5.drew, (fun h => by cases h), (fun h => by cases h), (fun h => by cases h), (fun h => by cases h), (fun h => by cases h), (fun h => by cases h), (fun h => by cases h), (fun h => by cases h), (fun h => by cases h), (fun h => by cases h), (fun h => by cases h), (fun h => by cases h)⟩
                · refine (.cons rfl ?_ (.cons rfl ?_ (.cons rfl ?_ (.cons rfl ?_ (.cons rfl ?_ (.cons rfl ?_ (.cons rfl ?_ (.cons rfl ?_ (.cons rfl ?_ (.cons rfl ?_ (.cons rfl ?_ (.cons rfl ?_ (.cons rfl ?_ (.nil _))))))))))))))
                  · intro L v W4 hd hn ⟨hB, hz, s0, s1, s2, s3, x4, q4, n4, s5, h0, h1, h2, h3, h4, h5, h6, h7, h8, h9, h10, h11⟩ K hK
                    go_wp2_with fail
                    exact hK _ (.int .i64 (i : Int)) _ (by simp only [Act.put, List.setIfInBounds_toArray, List.set_cons_zero, List.set_cons_succ ]) ⟨hB, hz, s0, s1, s2, s3, x4, q4, n4, s5, (fun _ => rfl), h1, h2, h3, h4, h5, h6, h7, h8, h9, h10, h11⟩
                  · intro L v W4 hd hn ⟨hB, hz, s0, s1, s2, s3, x4, q4, n4, s5, h0, h1, h2, h3, h4, h5, h6, h7, h8, h9, h10, h11⟩ K hK
                    go_wp2_with fail
                    exact hK _ (.int .i64 (j : Int)) _ (by simp only [Act.put, List.setIfInBounds_toArray, List.set_cons_zero, List.set_cons_succ ]) ⟨hB, hz, s0, s1, s2, s3, x4, q4, n4, s5, h0, (fun _ => rfl), h2, h3, h4, h5, h6, h7, h8, h9, h10, h11⟩
                  · intro L v W4 hd hn ⟨hB, hz, s0, s1, s2, s3, x4, q4, n4, s5, h0, h1, h2, h3, h4, h5, h6, h7, h8, h9, h10, h11⟩ K hK
                    have e0 := h0 (hd ⟨0, .data⟩ (by simp) rfl)
                    have e1 := h1 (hd ⟨1, .data⟩ (by simp) rfl)
                    go_wp2_with fail
                    exact hK _ (.int .i64 (Q : Int)) _ (by simp only [Act.put, List.setIfInBounds_toArray, List.set_cons_zero, List.set_cons_succ, e0, e1]) ⟨hB, hz, s0, s1, s2, s3, x4, q4, n4, s5, h0, h1, (fun _ => rfl), h3, h4, h5, h6, h7, h8, h9, h10, h11⟩
                  · intro L v W4 hd hn ⟨hB, hz, s0, s1, s2, s3, x4, q4, n4, s5, h0, h1, h2, h3, h4, h5, h6, h7, h8, h9, h10, h11⟩ K hK
                    go_wp2_with fail
                    exact hK _ (.int .i64 (p : Int)) _ (by simp only [Act.put, List.setIfInBounds_toArray, List.set_cons_zero, List.set_cons_succ ]) ⟨hB, hz, s0, s1, s2, s3, x4, q4, n4, s5, h0, h1, h2, (fun _ => rfl), h4, h5, h6, h7, h8, h9, h10, h11⟩
                  · intro L v W4 hd hn ⟨hB, hz, s0, s1, s2, s3, x4, q4, n4, s5, h0, h1, h2, h3, h4, h5, h6, h7, h8, h9, h10, h11⟩ K hK
                    go_wp2_with fail
                    exact hK _ (.int .i64 (i : Int)) _ (by simp only [Act.put, List.setIfInBounds_toArray, List.set_cons_zero, List.set_cons_succ ]) ⟨hB, hz, s0, s1, s2, s3, x4, q4, n4, s5, h0, h1, h2, h3, (fun _ => rfl), h5, h6, h7, h8, h9, h10, h11⟩
                  · intro L v W4 hd hn ⟨hB, hz, s0, s1, s2, s3, x4, q4, n4, s5, h0, h1, h2, h3, h4, h5, h6, h7, h8, h9, h10, h11⟩ K hK
                    go_wp2_with fail
                    exact hK _ (.int .i64 (j : Int)) _ (by simp only [Act.put, List.setIfInBounds_toArray, List.set_cons_zero, List.set_cons_succ ]) ⟨hB, hz, s0, s1, s2, s3, x4, q4, n4, s5, h0, h1, h2, h3, h4, (fun _ => rfl), h6, h7, h8, h9, h10, h11⟩
                  · intro L v W4 hd hn ⟨hB, hz, s0, s1, s2, s3, x4, q4, n4, s5, h0, h1, h2, h3, h4, h5, h6, h7, h8, h9, h10, h11⟩ K hK
                    have e4 := h4 (hd ⟨4, .data⟩ (by simp) rfl)
                    have e5 := h5 (hd ⟨5, .data⟩ (by simp) rfl)
                    go_wp2_with fail
                    exact hK _ (.int .i64 (Q : Int)) _ (by simp only [Act.put, List.setIfInBounds_toArray, List.set_cons_zero, List.set_cons_succ, e4, e5]) ⟨hB, hz, s0, s1, s2, s3, x4, q4, n4, s5, h0, h1, h2, h3, h4, h5, (fun _ => rfl), h7, h8, h9, h10, h11⟩
                  · intro L v W4 hd hn ⟨hB, hz, s0, s1, s2, s3, x4, q4, n4, s5, h0, h1, h2, h3, h4, h5, h6, h7, h8, h9, h10, h11⟩ K hK
                    have e6 := h6 (hd ⟨6, .data⟩ (by simp) rfl)
                    go_wp2_with fail
                    exact hK _ (.pointer (some ⟨k1_5, Q * 64, none⟩)) _ (by simp only [Act.put, List.setIfInBounds_toArray, List.set_cons_zero, List.set_cons_succ, e6]) ⟨hB, hz, s0, s1, s2, s3, x4, q4, n4, s5, h0, h1, h2, h3, h4, h5, h6, (fun _ => rfl), h8, h9, h10, h11⟩
                  · intro L v W4 hd hn ⟨hB, hz, s0, s1, s2, s3, x4, q4, n4, s5, h0, h1, h2, h3, h4, h5, h6, h7, h8, h9, h10, h11⟩ K hK
                    have e7 := h7 (hd ⟨7, .data⟩ (by simp) rfl)
                    have s4 := q4 (by
                      cases hL : L 12 with
                      | false => rfl
                      | true => exact absurd rfl (hn 12 _ rfl hL ⟨8, .phase⟩ (by simp) rfl))
                    refine wp_load_mid 23 _ rfl _ (Q * 64) e7 _ _ ((s4).sk (by omega)) Try.underlying23 rfl (by rw [bl_length]; exact Try.size23) ?_
                    exact hK _ _ _ rfl ⟨hB, hz, s0, s1, s2, s3, x4, q4, n4, s5, h0, h1, h2, h3, h4, h5, h6, h7, (fun _ => rfl), h9, h10, h11⟩
                  · intro L v W4 hd hn ⟨hB, hz, s0, s1, s2, s3, x4, q4, n4, s5, h0, h1, h2, h3, h4, h5, h6, h7, h8, h9, h10, h11⟩ K hK
                    refine wp_load_any 23 _ rfl _ rfl 64 23 _ s5 _ Try.underlying23 rfl Try.size23 ?_
                    exact hK _ _ _ rfl ⟨hB, hz, s0, s1, s2, s3, x4, q4, n4, s5, h0, h1, h2, h3, h4, h5, h6, h7, h8, (fun _ => rfl), h10, h11⟩
                  · intro L v W4 hd hn ⟨hB, hz, s0, s1, s2, s3, x4, q4, n4, s5, h0, h1, h2, h3, h4, h5, h6, h7, h8, h9, h10, h11⟩ K hK
                    have e3 := h3 (hd ⟨3, .data⟩ (by simp) rfl)
                    have e8 := h8 (hd ⟨8, .data⟩ (by simp) rfl)
                    have e9 := h9 (hd ⟨9, .data⟩ (by simp) rfl)
                    go_wp2_with (go_at_call 107; refine (HK3.out _).mono ?_; rintro e wy ⟨rfl, hy⟩)
                    exact hK _ (.agg (bcells 64 (addK p (O Q) (mmP p (F i) (frN p m (G j) (i % d)) m) 1))) _ (by simp only [Act.put, List.setIfInBounds_toArray, List.set_cons_zero, List.set_cons_succ, e3, e8, e9]) ⟨hB.trans (hy.mono hB.size), (Nat.le_trans hz hy.size), (s0).below hy (s0).lt, (s1).below hy (s1).lt, (s2).below hy (s2).lt, (s3).below hy (s3).lt, (let ⟨g, h⟩ := x4; ⟨g, (h).below hy (h).lt⟩), (fun h => (q4 h).below hy (q4 h).lt), (fun h => (n4 h).below hy (n4 h).lt), (s5).below hy (s5).lt, h0, h1, h2, h3, h4, h5, h6, h7, h8, h9, (fun _ => rfl), h11⟩
                  · intro L v W4 hd hn ⟨hB, hz, s0, s1, s2, s3, x4, q4, n4, s5, h0, h1, h2, h3, h4, h5, h6, h7, h8, h9, h10, h11⟩ K hK
                    have e2 := h2 (hd ⟨2, .data⟩ (by simp) rfl)
                    go_wp2_with fail
                    exact hK _ (.pointer (some ⟨k1_5, Q * 64, none⟩)) _ (by simp only [Act.put, List.setIfInBounds_toArray, List.set_cons_zero, List.set_cons_succ, e2]) ⟨hB, hz, s0, s1, s2, s3, x4, q4, n4, s5, h0, h1, h2, h3, h4, h5, h6, h7, h8, h9, h10, (fun _ => rfl)⟩
                  · intro L v W4 hd hn ⟨hB, hz, s0, s1, s2, s3, x4, q4, n4, s5, h0, h1, h2, h3, h4, h5, h6, h7, h8, h9, h10, h11⟩ K hK
                    have e11 := h11 (hd ⟨11, .data⟩ (by simp) rfl)
                    have e10 := h10 (hd ⟨10, .data⟩ (by simp) rfl)
                    obtain ⟨gz, hk, hg⟩ : ∃ gz, Blk W4 (k1_5) 512 34 (fl 64 gz) ∧ updR gz (Q) (addK p (O Q) (mmP p (F i) (frN p m (G j) (i % d)) m) 1) = updR O (Q) (addK p (O Q) (mmP p (F i) (frN p m (G j) (i % d)) m) 1) := by
                      cases hL : L 12 with
                      | false => exact ⟨_, q4 hL, rfl⟩
                      | true => exact ⟨_, n4 hL, updR_twice _ _ _⟩
                    refine wp_store_sk 23 _ _ rfl _ (Q) (addK p (O Q) (mmP p (F i) (frN p m (G j) (i % d)) m) 1) e11 e10 34 gz hk (by omega) Try.size23 ?_
                    rw [hg]
                    exact hK _ undef _ rfl ⟨below_row hB (by omega) _, (by simpa [World.setRow] using hz), (s0).rowOther (by omega), (s1).rowOther (by omega), (s2).rowOther (by omega), (s3).rowOther (by omega), ⟨_, hk.row _⟩, (fun h => absurd h (by simp [setL])), (fun _ => hk.row _), (s5).rowOther (by omega), h0, h1, h2, h3, h4, h5, h6, h7, h8, h9, h10, h11⟩
                · intro L v W4 hL ⟨hB, hz, s0, s1, s2, s3, x4, q4, n4, s5, h0, h1, h2, h3, h4, h5, h6, h7, h8, h9, h10, h11⟩
                  have r4 := n4 (hL 12 (by decide))
                  have e0 := h0 (hL 0 (by decide))
                  have e1 := h1 (hL 1 (by decide))
                  have e2 := h2 (hL 2 (by decide))
                  have e3 := h3 (hL 3 (by decide))
                  have e4 := h4 (hL 4 (by decide))
                  have e5 := h5 (hL 5 (by decide))
                  have e6 := h6 (hL 6 (by decide))
                  have e7 := h7 (hL 7 (by decide))
                  have e8 := h8 (hL 8 (by decide))
                  have e9 := h9 (hL 9 (by decide))
                  have e10 := h10 (hL 10 (by decide))
                  have e11 := h11 (hL 11 (by decide))
                  clear hL x4 q4 n4 h0 h1 h2 h3 h4 h5 h6 h7 h8 h9 h10 h11
                  simp only [Exit.then, e0, e1, e2, e3, e4, e5, e6, e7, e8, e9, e10, e11]
                  clear e0 e1 e2 e3 e4 e5 e6 e7 e8 e9 e10 e11
                  clear B0
                  have B0 := s0
                  clear s0
                  clear B1
                  have B1 := s1
                  clear s1
                  clear B2
                  have B2 := s2
                  clear s2
                  clear B3
                  have B3 := s3
                  clear s3
                  clear B4
                  have B4 := r4
                  clear r4
                  clear B5
                  have B5 := s5
                  clear s5
                  clear hb
                  have hb := hB
                  clear hB
                  clear hbase hz lt_B0 lt_B1 lt_B2 lt_B3 lt_B4 lt_B5
                  go_wp2_with fail
                  go_roundw
                  case rel => exact ⟨j + 1, _, by go_num, by omega, Lib.hid (by rw [HJS.out, ← hO.out, ← HQ.out]), hb, B1, B0, B2, B3, B4⟩
                  case measure => simp [intOf] <;> omega
            · have hjI : ¬ (j : Int) ≤ skD G := by have := HB.out; omega
              obtain rfl : j = B := by omega
              go_wp2_with fail
              go_roundw
              case rel => exact ⟨i + 1, O, by go_num, by omega, Lib.hid (by rw [HS.out, hO.out]), hb, B1, B0, B2, B3, B4⟩
              case measure => simp [intOf] <;> omega
        · have hiI : ¬ (i : Int) ≤ skD F := by have := HA.out; omega
          obtain rfl : i = A := by omega
          go_upto_region 14 with (fail)
          have lt_B0 := B0.lt
          have lt_B1 := B1.lt
          have lt_B2 := B2.lt
          have lt_B3 := B3.lt
          have lt_B4 := B4.lt
          go_wp2_with (first | rw [← zero64] | rw [← zero512] | (refine wpList_load_any rfl 34 (.tmp 12) rfl _ rfl 512 34 _ (B4) _ Try.underlying34 rfl Try.size34 ?_) | (refine wpList_store_blk rfl 34 (.tmp 8) (.tmp 68) rfl _ 512 (fl 64 O) rfl rfl 34 _ (B3) Try.size34 ?_; try simp only [Act.put]; go_wp2_with fail))
          have qB0 : Blk (wr.setRow (w.heap.size + 1 + 1 + 1) (bcells 512 (fl 64 O))) (w.heap.size) 64 23 (m) := (B0.rowOther (by omega))
          have qB1 : Blk (wr.setRow (w.heap.size + 1 + 1 + 1) (bcells 512 (fl 64 O))) (w.heap.size + 1) 512 34 (fl 64 F) := (B1.rowOther (by omega))
          have qB2 : Blk (wr.setRow (w.heap.size + 1 + 1 + 1) (bcells 512 (fl 64 O))) (w.heap.size + 1 + 1) 512 34 (fl 64 G) := (B2.rowOther (by omega))
          have qB3 : Blk (wr.setRow (w.heap.size + 1 + 1 + 1) (bcells 512 (fl 64 O))) (w.heap.size + 1 + 1 + 1) 512 34 (fl 64 O) := (B3.row (fl 64 O))
          have qB4 : Blk (wr.setRow (w.heap.size + 1 + 1 + 1) (bcells 512 (fl 64 O))) (k1_5) 512 34 (fl 64 O) := (B4.rowOther (by omega))
          have qhb : Below w.heap.size w (wr.setRow (w.heap.size + 1 + 1 + 1) (bcells 512 (fl 64 O))) := (below_row hb (by omega) _)
          obtain ⟨W3, hwo⟩ : ∃ v : World, v = (wr.setRow (w.heap.size + 1 + 1 + 1) (bcells 512 (fl 64 O))) := ⟨_, rfl⟩
          rw [← hwo] at qB0 qB1 qB2 qB3 qB4 qhb ⊢
          clear hwo
          clear B0 B1 B2 B3 B4 hb
          have B0 := qB0
          have B1 := qB1
          have B2 := qB2
          have B3 := qB3
          have B4 := qB4
          have hb := qhb
          clear qB0 qB1 qB2 qB3 qB4 qhb
          try simp only [Act.put, List.setIfInBounds_toArray, List.set_cons_zero, List.set_cons_succ]
          refine bodyPost_ret (results_anyt rfl _ _ _ 512 _ _ rfl B3 _ Try.underlying34 rfl Try.size34) rfl ⟨by first | (rw [HP.out, ← hO.out]; done) | (rw [HP.out, ← hO.out]; rfl), hb⟩
set_option maxRecDepth 100000 in
set_option maxHeartbeats 1600000 in
theorem skTimes_any (p : Nat) (m : Nat → Nat) (F G : Nat → Nat → Nat) (w : World) (hpr : p = 2 ∨ p = 3 ∨ p = 5 ∨ p = 7) (lm : ∀ k, k < 64 → m k < p) (d : Nat) (hd : deg m = (d : Int)) (hd1 : 1 ≤ d) (hd9 : d ≤ 9) (lF : ∀ i, i < 8 → ∀ k, k < 64 → F i k < p) (lG : ∀ i, i < 8 → rsd p m (G i)) (hs : skD F + skD G ≤ 7) :
    Calls Try.prog 101 #[.agg (bcells 512 (fl 64 F)), .agg (fdC (p : Int) m).toArray, .agg (bcells 512 (fl 64 G))] w fun e w' => e = .returned (.agg (bcells 512 (fl 64 (tmP p m d F G)))) ∧ Below w.heap.size w w' := by
  have p0 : 0 < p := by omega
  have h0 : 0 ≤ deg m := by omega
  have h9 : deg m ≤ 9 := by omega
  have p2 : 2 ≤ p := by omega
  have p7 : p ≤ 7 := by omega
  obtain ⟨fb1, fb2⟩ := skD_bounds F
  obtain ⟨gb1, gb2⟩ := skD_bounds G
  obtain ⟨A, hA⟩ : ∃ A : Nat, skD F = (A : Int) - 1 := ⟨(skD F + 1).toNat, by omega⟩
  obtain ⟨B, hB⟩ : ∃ B : Nat, skD G = (B : Int) - 1 := ⟨(skD G + 1).toNat, by omega⟩
  have HA := Lib.hid hA
  have HB := Lib.hid hB
  have hA8 : A ≤ 8 := by omega
  have hB8 : B ≤ 8 := by omega
  have hAB : A + B ≤ 9 := by omega
  have HP := Lib.hid (tmP_at (p := p) (m := m) (d := d) hA hB)
  have HX := Lib.hid (fun i (hi : i < 8) j => (frN_ok hpr lm h0 h9 (lG i hi) j).1)
  have HFR := Lib.hid (fun i (hi : i < 8) j (hj : j < 8) W => kfrob_any p m (G j) i W hpr lm d hd hd1 hd9 (by omega) (lG j hj))
  have HMM := Lib.hid (fun i (hi : i < 8) j (hj : j < 8) W => kproduct_any p m (F i) (frN p m (G j) (i % d)) W hpr lm h0 (lF i hi) (HX.out j hj (i % d)).1)
  have HSU := Lib.hid (show ∀ (f g : Nat → Nat), (∀ k, f k < p) → (∀ k, k < 64 → g k < p) → ∀ W, Calls Try.prog 162 #[.int .i64 (p : Int), .agg (bcells 64 f), .agg (bcells 64 g)] W fun e w' => e = .returned (.agg (bcells 64 (addK p f g 1))) ∧ Below W.heap.size W w' from fun f g hf hg W => by
    rw [addK_one]; exact sum_any p _ _ W p2 p7 (fun k _ => hf k) hg)
  have HJL := Lib.hid (fun i j r k => tmJ_lt (p := p) (m := m) (d := d) (F := F) (G := G) (i := i) p0 (tmR_lt (m := m) (d := d) (F := F) (G := G) (n := B) p0 i) j r k)
  have HML := Lib.hid (fun i j k (hk : k < 64) => mmP_lt (p := p) (a := F i) (b := frN p m (G j) (i % d)) (m := m) p0 k (by omega))
  have HZ := Lib.hid (tmR_z p m d F G B)
  have HS := Lib.hid (tmR_s p m d F G B)
  have HJZ := Lib.hid (tmJ_z p m d F G)
  have HJS := Lib.hid (tmJ_s p m d F G)
  clear hA hB lF lG
  go_enter Try.func101, Try.ntmps101
  go_upto_region 1 with (fail)
  rw [← zero512]
  obtain ⟨W1, hwo⟩ : ∃ v : World, v = ((((w.alloc (.cells (bcells 512 (fl 64 F)) 34)).alloc (.cells (fdC (p : Int) m).toArray 83)).alloc (.cells (bcells 512 (fl 64 G)) 34)).alloc (.cells (bcells 512 (fl 64 (fun _ _ => 0))) 34)) := ⟨_, rfl⟩
  have B0 : Blk W1 (w.heap.size) 512 34 (fl 64 F) := by subst hwo; have := ((((Blk.new w 512 34 (fl 64 F)).alloc (.cells (fdC (p : Int) m).toArray 83)).alloc (.cells (bcells 512 (fl 64 G)) 34)).alloc (.cells (bcells 512 (fl 64 (fun _ _ => 0))) 34)); simpa using this
  have B1 : Row W1 (w.heap.size + 1) 83 (fdC (p : Int) m).toArray := by subst hwo; have := (((Row.new (w.alloc (.cells (bcells 512 (fl 64 F)) 34)) 83 (fdC (p : Int) m).toArray).alloc (.cells (bcells 512 (fl 64 G)) 34)).alloc (.cells (bcells 512 (fl 64 (fun _ _ => 0))) 34)); simpa using this
  have B2 : Blk W1 (w.heap.size + 1 + 1) 512 34 (fl 64 G) := by subst hwo; have := ((Blk.new ((w.alloc (.cells (bcells 512 (fl 64 F)) 34)).alloc (.cells (fdC (p : Int) m).toArray 83)) 512 34 (fl 64 G)).alloc (.cells (bcells 512 (fl 64 (fun _ _ => 0))) 34)); simpa using this
  have B3 : Blk W1 (w.heap.size + 1 + 1 + 1) 512 34 (fl 64 (fun _ _ => 0)) := by subst hwo; have := (Blk.new (((w.alloc (.cells (bcells 512 (fl 64 F)) 34)).alloc (.cells (fdC (p : Int) m).toArray 83)).alloc (.cells (bcells 512 (fl 64 G)) 34)) 512 34 (fl 64 (fun _ _ => 0))); simpa using this
  have hb : Below w.heap.size w W1 := by subst hwo; exact (((((Below.refl _ _).alloc (Nat.le_refl _) _).alloc (by simp) _).alloc (by simp; omega) _).alloc (by simp; omega) _)
  rw [← hwo]
  clear hwo
  go_upto_region 2 with (first | rw [← zero64] | rw [← zero512])
  have lt_B0 := B0.lt
  have lt_B1 := B1.lt
  have lt_B2 := B2.lt
  have lt_B3 := B3.lt
  have lhb := hb.size
  have qB0 : Blk (W1.alloc (.cells (bcells 512 (fl 64 (fun _ _ => 0))) 34)) (w.heap.size) 512 34 (fl 64 F) := (B0.alloc (.cells (bcells 512 (fl 64 (fun _ _ => 0))) 34))
  have qB1 : Row (W1.alloc (.cells (bcells 512 (fl 64 (fun _ _ => 0))) 34)) (w.heap.size + 1) 83 (fdC (p : Int) m).toArray := (B1.alloc (.cells (bcells 512 (fl 64 (fun _ _ => 0))) 34))
  have qB2 : Blk (W1.alloc (.cells (bcells 512 (fl 64 (fun _ _ => 0))) 34)) (w.heap.size + 1 + 1) 512 34 (fl 64 G) := (B2.alloc (.cells (bcells 512 (fl 64 (fun _ _ => 0))) 34))
  have qB3 : Blk (W1.alloc (.cells (bcells 512 (fl 64 (fun _ _ => 0))) 34)) (w.heap.size + 1 + 1 + 1) 512 34 (fl 64 (fun _ _ => 0)) := (B3.alloc (.cells (bcells 512 (fl 64 (fun _ _ => 0))) 34))
  have qB4 : Blk (W1.alloc (.cells (bcells 512 (fl 64 (fun _ _ => 0))) 34)) (W1.heap.size) 512 34 (fl 64 (fun _ _ => 0)) := (Blk.new W1 512 34 (fl 64 (fun _ _ => 0)))
  have qhb : Below w.heap.size w (W1.alloc (.cells (bcells 512 (fl 64 (fun _ _ => 0))) 34)) := (hb.alloc (by have := hb.size; simp; omega) (.cells (bcells 512 (fl 64 (fun _ _ => 0))) 34))
  obtain ⟨W2, hwo⟩ : ∃ v : World, v = (W1.alloc (.cells (bcells 512 (fl 64 (fun _ _ => 0))) 34)) := ⟨_, rfl⟩
  rw [← hwo] at qB0 qB1 qB2 qB3 qB4 qhb ⊢
  clear hwo
  clear B0 B1 B2 B3 hb
  have B0 := qB0
  have B1 := qB1
  have B2 := qB2
  have B3 := qB3
  have B4 := qB4
  have hb := qhb
  clear qB0 qB1 qB2 qB3 qB4 qhb
  obtain ⟨N1, hNN⟩ : ∃ n : Nat, n = W1.heap.size := ⟨_, rfl⟩
  rw [← hNN] at lt_B0 lt_B1 lt_B2 lt_B3 lhb B4 ⊢
  clear hNN
  have zN1_0 := lt_B0
  have zN1_1 := lt_B1
  have zN1_2 := lt_B2
  have zN1_3 := lt_B3
  have zN1 := lhb
  clear lt_B0 lt_B1 lt_B2 lt_B3 lhb
  try simp only [Act.put, List.setIfInBounds_toArray, List.set_cons_zero, List.set_cons_succ]
  go_upto_region 99 with (first | (refine wpList_load_any rfl 34 (.tmp 3) rfl _ rfl 512 34 _ (B0) _ Try.underlying34 rfl Try.size34 ?_) | (go_at_call 97; refine (skDegree_any F _).mono ?_; rintro e W3 ⟨rfl, hW3⟩; replace B0 := B0.below hW3 B0.lt; replace B1 := B1.below hW3 B1.lt; replace B2 := B2.below hW3 B2.lt; replace B3 := B3.below hW3 B3.lt; replace B4 := B4.below hW3 B4.lt; replace hb := (hb).trans (hW3.mono (hb).size); rw [HA.out]))
  have hcntA : ((A : Int) - 1 + 1) = (A : Int) := by omega
  have hcntB : ((B : Int) - 1 + 1) = (B : Int) := by omega
  go_loopw [14] (fun c wr => ∃ (i : Nat) (O : Nat → Nat → Nat), c = .int .i64 (i : Int) ∧ i ≤ A ∧ Hid (O = tmR p m d F G B i) ∧ Below w.heap.size w wr ∧ Blk wr (w.heap.size) 512 34 (fl 64 F) ∧ Row wr (w.heap.size + 1) 83 (fdC (p : Int) m).toArray ∧ Blk wr (w.heap.size + 1 + 1) 512 34 (fl 64 G) ∧ Blk wr (w.heap.size + 1 + 1 + 1) 512 34 (fl 64 (fun _ _ => 0)) ∧ Blk wr (N1) 512 34 (fl 64 O)) (fun c _ => A - (intOf c).toNat)
  case atStart => exact ⟨0, _, rfl, Nat.zero_le _, Lib.hid HZ.out.symm, hb, B0, B1, B2, B3, B4⟩
  case round =>
    clear hb B0 B1 B2 B3 B4
    obtain ⟨i, O, rfl, hiA, hO, hb, B0, B1, B2, B3, B4⟩ := hrel
    by_cases hi : i < A
    · have hiI : (i : Int) < (A : Int) - 1 + 1 := by omega
      have hi8 : i < 8 := by omega
      go_upto_region 5 with (fail)
      go_upto_region 99 with (first | (refine wpList_load_any rfl 34 (.tmp 5) rfl _ rfl 512 34 _ (B2) _ Try.underlying34 rfl Try.size34 ?_) | (go_at_call 97; refine (skDegree_any G _).mono ?_; rintro e W4 ⟨rfl, hW4⟩; replace B0 := B0.below hW4 B0.lt; replace B1 := B1.below hW4 B1.lt; replace B2 := B2.below hW4 B2.lt; replace B3 := B3.below hW4 B3.lt; replace B4 := B4.below hW4 B4.lt; replace hb := (hb).trans (hW4.mono (hb).size); rw [HB.out]))
      go_loopw [20] (fun c wr => ∃ (j : Nat) (O : Nat → Nat → Nat), c = .int .i64 (j : Int) ∧ j ≤ B ∧ Hid (O = tmJ p m d F G i (tmR p m d F G B i) j) ∧ Below w.heap.size w wr ∧ Blk wr (w.heap.size) 512 34 (fl 64 F) ∧ Row wr (w.heap.size + 1) 83 (fdC (p : Int) m).toArray ∧ Blk wr (w.heap.size + 1 + 1) 512 34 (fl 64 G) ∧ Blk wr (w.heap.size + 1 + 1 + 1) 512 34 (fl 64 (fun _ _ => 0)) ∧ Blk wr (N1) 512 34 (fl 64 O)) (fun c _ => B - (intOf c).toNat)
      case atStart => exact ⟨0, O, rfl, Nat.zero_le _, Lib.hid (by rw [HJZ.out, hO.out]), hb, B0, B1, B2, B3, B4⟩
      case round =>
        clear hb B0 B1 B2 B3 B4 hO
        obtain ⟨j, O, rfl, hjB, hO, hb, B0, B1, B2, B3, B4⟩ := hrel
        by_cases hj : j < B
        · have hjI : (j : Int) < (B : Int) - 1 + 1 := by omega
          have hj8 : j < 8 := by omega
          obtain ⟨Q, hQ⟩ : ∃ Q, Q = i + j := ⟨_, rfl⟩
          have hQI : (i : Int) + (j : Int) = (Q : Int) := by omega
          have hQ8 : Q < 8 := by omega
          have HQ := Lib.hid hQ
          clear hQ
          have HOL := Lib.hid (show ∀ k, O Q k < p from fun k => by rw [hO.out]; exact HJL.out i j Q k)
          have HK1 := Lib.hid (HFR.out i hi8 j hj8)
          have HK2 := Lib.hid (HMM.out i hi8 j hj8)
          have HK3 := Lib.hid (HSU.out (O Q) (mmP p (F i) (frN p m (G j) (i % d)) m) HOL.out (HML.out i j))
          go_upto_region 8 with (fail)
          have lt_B0 : (w.heap.size) < wr.heap.size := B0.lt
          have lt_B1 : (w.heap.size + 1) < wr.heap.size := B1.lt
          have lt_B2 : (w.heap.size + 1 + 1) < wr.heap.size := B2.lt
          have lt_B3 : (w.heap.size + 1 + 1 + 1) < wr.heap.size := B3.lt
          have lt_B4 : (N1) < wr.heap.size := B4.lt
          have hbase : w.heap.size ≤ wr.heap.size := hb.size
          refine wp_region_steps0 Try.mixed (by kernel_rfl) (by kernel_rfl) (fun v => by (simp only [frL, Act.put, List.setIfInBounds_toArray, List.set_cons_zero, List.set_cons_succ, Nat.reduceAdd, Nat.zero_add]; exact rfl))
            (fun L v W5 => Below w.heap.size w W5 ∧ wr.heap.size ≤ W5.heap.size ∧ Blk W5 (w.heap.size) 512 34 (fl 64 F) ∧ Row W5 (w.heap.size + 1) 83 (fdC (p : Int) m).toArray ∧ Blk W5 (w.heap.size + 1 + 1) 512 34 (fl 64 G) ∧ Blk W5 (w.heap.size + 1 + 1 + 1) 512 34 (fl 64 (fun _ _ => 0)) ∧ Blk W5 (N1) 512 34 (fl 64 O) ∧ (L 0 = true → v 0 = (.agg (fdC (p : Int) m).toArray)) ∧ (L 1 = true → v 1 = (.int .i64 (i : Int))) ∧ (L 2 = true → v 2 = (.pointer (some ⟨w.heap.size, i * 64, none⟩))) ∧ (L 3 = true → v 3 = (.agg (bcells 64 (F i)))) ∧ (L 4 = true → v 4 = (.agg (fdC (p : Int) m).toArray)) ∧ (L 5 = true → v 5 = (.int .i64 (j : Int))) ∧ (L 6 = true → v 6 = (.pointer (some ⟨w.heap.size + 1 + 1, j * 64, none⟩))) ∧ (L 7 = true → v 7 = (.agg (bcells 64 (G j)))) ∧ (L 8 = true → v 8 = (.int .i64 (i : Int))) ∧ (L 9 = true → v 9 = (.agg (bcells 64 (frN p m (G j) (i % d))))) ∧ (L 10 = true → v 10 = (.agg (bcells 64 (mmP p (F i) (frN p m (G j) (i % d)) m)))) ∧ (L 11 = true → AF (v 11) W5 wr.heap.size 64 23) ∧ (L 12 = true → PF (v 11) W5 wr.heap.size 64 23 (mmP p (F i) (frN p m (G j) (i % d)) m))) ?_ ?_ ?_
          · intro v hv0
            exact ⟨hb.drew, Nat.le_refl _, B0.drew, B1.drew, B2.drew, B3.drew, B4.drew, (fun h => by cases h), (fun h => by cases h), (fun h => by cases h), (fun h => by cases h), (fun h => by cases h), (fun h => by cases h), (fun h => by cases h), (fun h => by cases h), (fun h => by cases h), (fun h => by cases h), (fun h => by cases h), (fun h => by cases h), (fun h => by cases h)⟩
          · refine (.cons rfl ?_ (.cons rfl ?_ (.cons rfl ?_ (.cons rfl ?_ (.cons rfl ?_ (.cons rfl ?_ (.cons rfl ?_ (.cons rfl ?_ (.cons rfl ?_ (.cons rfl ?_ (.cons rfl ?_ (.cons rfl ?_ (.cons rfl ?_ (.nil _))))))))))))))
            · intro L v W5 hd hn ⟨hB, hz, s0, s1, s2, s3, s4, h0, h1, h2, h3, h4, h5, h6, h7, h8, h9, h10, h11, h12⟩ K hK
              refine wp_load_rowv 83 _ rfl _ rfl 83 _ s1 _ Try.underlying83 rfl 65 Try.size83 (by simp [fdC_len]) ?_
              exact hK _ _ _ rfl ⟨hB, hz, s0, s1, s2, s3, s4, (fun _ => rfl), h1, h2, h3, h4, h5, h6, h7, h8, h9, h10, h11, h12⟩
            · intro L v W5 hd hn ⟨hB, hz, s0, s1, s2, s3, s4, h0, h1, h2, h3, h4, h5, h6, h7, h8, h9, h10, h11, h12⟩ K hK
              go_wp2_with fail
              exact hK _ (.int .i64 (i : Int)) _ (by simp only [Act.put, List.setIfInBounds_toArray, List.set_cons_zero, List.set_cons_succ ]) ⟨hB, hz, s0, s1, s2, s3, s4, h0, (fun _ => rfl), h2, h3, h4, h5, h6, h7, h8, h9, h10, h11, h12⟩
            · intro L v W5 hd hn ⟨hB, hz, s0, s1, s2, s3, s4, h0, h1, h2, h3, h4, h5, h6, h7, h8, h9, h10, h11, h12⟩ K hK
              have e1 := h1 (hd ⟨1, .data⟩ (by simp) rfl)
              go_wp2_with fail
              exact hK _ (.pointer (some ⟨w.heap.size, i * 64, none⟩)) _ (by simp only [Act.put, List.setIfInBounds_toArray, List.set_cons_zero, List.set_cons_succ, e1]) ⟨hB, hz, s0, s1, s2, s3, s4, h0, h1, (fun _ => rfl), h3, h4, h5, h6, h7, h8, h9, h10, h11, h12⟩
            · intro L v W5 hd hn ⟨hB, hz, s0, s1, s2, s3, s4, h0, h1, h2, h3, h4, h5, h6, h7, h8, h9, h10, h11, h12⟩ K hK
              have e2 := h2 (hd ⟨2, .data⟩ (by simp) rfl)
              refine wp_load_mid 23 _ rfl _ (i * 64) e2 _ _ ((s0).sk (by omega)) Try.underlying23 rfl (by rw [bl_length]; exact Try.size23) ?_
              exact hK _ _ _ rfl ⟨hB, hz, s0, s1, s2, s3, s4, h0, h1, h2, (fun _ => rfl), h4, h5, h6, h7, h8, h9, h10, h11, h12⟩
            · intro L v W5 hd hn ⟨hB, hz, s0, s1, s2, s3, s4, h0, h1, h2, h3, h4, h5, h6, h7, h8, h9, h10, h11, h12⟩ K hK
              refine wp_load_rowv 83 _ rfl _ rfl 83 _ s1 _ Try.underlying83 rfl 65 Try.size83 (by simp [fdC_len]) ?_
              exact hK _ _ _ rfl ⟨hB, hz, s0, s1, s2, s3, s4, h0, h1, h2, h3, (fun _ => rfl), h5, h6, h7, h8, h9, h10, h11, h12⟩
            · intro L v W5 hd hn ⟨hB, hz, s0, s1, s2, s3, s4, h0, h1, h2, h3, h4, h5, h6, h7, h8, h9, h10, h11, h12⟩ K hK
              go_wp2_with fail
              exact hK _ (.int .i64 (j : Int)) _ (by simp only [Act.put, List.setIfInBounds_toArray, List.set_cons_zero, List.set_cons_succ ]) ⟨hB, hz, s0, s1, s2, s3, s4, h0, h1, h2, h3, h4, (fun _ => rfl), h6, h7, h8, h9, h10, h11, h12⟩
            · intro L v W5 hd hn ⟨hB, hz, s0, s1, s2, s3, s4, h0, h1, h2, h3, h4, h5, h6, h7, h8, h9, h10, h11, h12⟩ K hK
              have e5 := h5 (hd ⟨5, .data⟩ (by simp) rfl)
              go_wp2_with fail
              exact hK _ (.pointer (some ⟨w.heap.size + 1 + 1, j * 64, none⟩)) _ (by simp only [Act.put, List.setIfInBounds_toArray, List.set_cons_zero, List.set_cons_succ, e5]) ⟨hB, hz, s0, s1, s2, s3, s4, h0, h1, h2, h3, h4, h5, (fun _ => rfl), h7, h8, h9, h10, h11, h12⟩
            · intro L v W5 hd hn ⟨hB, hz, s0, s1, s2, s3, s4, h0, h1, h2, h3, h4, h5, h6, h7, h8, h9, h10, h11, h12⟩ K hK
              have e6 := h6 (hd ⟨6, .data⟩ (by simp) rfl)
              refine wp_load_mid 23 _ rfl _ (j * 64) e6 _ _ ((s2).sk (by omega)) Try.underlying23 rfl (by rw [bl_length]; exact Try.size23) ?_
              exact hK _ _ _ rfl ⟨hB, hz, s0, s1, s2, s3, s4, h0, h1, h2, h3, h4, h5, h6, (fun _ => rfl), h8, h9, h10, h11, h12⟩
            · intro L v W5 hd hn ⟨hB, hz, s0, s1, s2, s3, s4, h0, h1, h2, h3, h4, h5, h6, h7, h8, h9, h10, h11, h12⟩ K hK
              go_wp2_with fail
              exact hK _ (.int .i64 (i : Int)) _ (by simp only [Act.put, List.setIfInBounds_toArray, List.set_cons_zero, List.set_cons_succ ]) ⟨hB, hz, s0, s1, s2, s3, s4, h0, h1, h2, h3, h4, h5, h6, h7, (fun _ => rfl), h9, h10, h11, h12⟩
            · intro L v W5 hd hn ⟨hB, hz, s0, s1, s2, s3, s4, h0, h1, h2, h3, h4, h5, h6, h7, h8, h9, h10, h11, h12⟩ K hK
              have e4 := h4 (hd ⟨4, .data⟩ (by simp) rfl)
              have e7 := h7 (hd ⟨7, .data⟩ (by simp) rfl)
              have e8 := h8 (hd ⟨8, .data⟩ (by simp) rfl)
              go_wp2_with (go_at_call 166; refine (HK1.out _).mono ?_; rintro e wy ⟨rfl, hy⟩)
              exact hK _ (.agg (bcells 64 (frN p m (G j) (i % d)))) _ (by simp only [Act.put, List.setIfInBounds_toArray, List.set_cons_zero, List.set_cons_succ, e4, e7, e8]) ⟨hB.trans (hy.mono hB.size), (Nat.le_trans hz hy.size), (s0).below hy (s0).lt, (s1).below hy (s1).lt, (s2).below hy (s2).lt, (s3).below hy (s3).lt, (s4).below hy (s4).lt, h0, h1, h2, h3, h4, h5, h6, h7, h8, (fun _ => rfl), h10, (fun h => (h11 h).below hy), (fun h => (h12 h).below hy)⟩
            · intro L v W5 hd hn ⟨hB, hz, s0, s1, s2, s3, s4, h0, h1, h2, h3, h4, h5, h6, h7, h8, h9, h10, h11, h12⟩ K hK
              have e0 := h0 (hd ⟨0, .data⟩ (by simp) rfl)
              have e3 := h3 (hd ⟨3, .data⟩ (by simp) rfl)
              have e9 := h9 (hd ⟨9, .data⟩ (by simp) rfl)
              go_wp2_with (go_at_call 165; refine (HK2.out _).mono ?_; rintro e wy ⟨rfl, hy⟩)
              exact hK _ (.agg (bcells 64 (mmP p (F i) (frN p m (G j) (i % d)) m))) _ (by simp only [Act.put, List.setIfInBounds_toArray, List.set_cons_zero, List.set_cons_succ, e0, e3, e9]) ⟨hB.trans (hy.mono hB.size), (Nat.le_trans hz hy.size), (s0).below hy (s0).lt, (s1).below hy (s1).lt, (s2).below hy (s2).lt, (s3).below hy (s3).lt, (s4).below hy (s4).lt, h0, h1, h2, h3, h4, h5, h6, h7, h8, h9, (fun _ => rfl), (fun h => (h11 h).below hy), (fun h => (h12 h).below hy)⟩
            · intro L v W5 hd hn ⟨hB, hz, s0, s1, s2, s3, s4, h0, h1, h2, h3, h4, h5, h6, h7, h8, h9, h10, h11, h12⟩ K hK
              go_wp2_with fail
              rw [← zero64]
              exact hK _ (.pointer (some ⟨W5.heap.size, 0, none⟩)) _ (by simp only [Act.put, List.setIfInBounds_toArray, List.set_cons_zero, List.set_cons_succ ]) ⟨hB.alloc hB.size _, (by simp; omega), (s0).alloc _, (s1).alloc _, (s2).alloc _, (s3).alloc _, (s4).alloc _, h0, h1, h2, h3, h4, h5, h6, h7, h8, h9, h10, (fun _ => (PF.new W5 64 23 _ hz).af), (fun h => absurd rfl (hn 12 _ rfl h ⟨11, .data⟩ (by simp) rfl))⟩
            · intro L v W5 hd hn ⟨hB, hz, s0, s1, s2, s3, s4, h0, h1, h2, h3, h4, h5, h6, h7, h8, h9, h10, h11, h12⟩ K hK
              have e10 := h10 (hd ⟨10, .data⟩ (by simp) rfl)
              obtain ⟨gz, b, ea, hN, hk⟩ := (h11 (hd ⟨11, .data⟩ (by simp) rfl)).out
              refine wp_store_blk 23 _ _ rfl b 64 (mmP p (F i) (frN p m (G j) (i % d)) m) ea e10 23 gz hk Try.size23 ?_
              exact hK _ undef _ rfl ⟨below_row hB (Nat.le_trans hbase hN) _, (by simpa [World.setRow] using hz), (s0).rowOther (by omega), (s1).rowOther (by omega), (s2).rowOther (by omega), (s3).rowOther (by omega), (s4).rowOther (by omega), h0, h1, h2, h3, h4, h5, h6, h7, h8, h9, h10, (fun h => (h11 h).row hk), (fun _ => by rw [show updV v 12 undef 11 = v 11 from rfl, ea]; exact PF.row hk hN _)⟩
          · intro L v W5 hL ⟨hB, hz, s0, s1, s2, s3, s4, h0, h1, h2, h3, h4, h5, h6, h7, h8, h9, h10, h11, h12⟩
            have e0 := h0 (hL 0 (by decide))
            have e1 := h1 (hL 1 (by decide))
            have e2 := h2 (hL 2 (by decide))
            have e3 := h3 (hL 3 (by decide))
            have e4 := h4 (hL 4 (by decide))
            have e5 := h5 (hL 5 (by decide))
            have e6 := h6 (hL 6 (by decide))
            have e7 := h7 (hL 7 (by decide))
            have e8 := h8 (hL 8 (by decide))
            have e9 := h9 (hL 9 (by decide))
            have e10 := h10 (hL 10 (by decide))
            obtain ⟨k8_11, e11, hNk8_11, hk8_11⟩ := (h12 (hL 12 (by decide))).out
            clear hL h0 h1 h2 h3 h4 h5 h6 h7 h8 h9 h10 h11 h12
            simp only [Exit.then, e0, e1, e2, e3, e4, e5, e6, e7, e8, e9, e10, e11]
            clear e0 e1 e2 e3 e4 e5 e6 e7 e8 e9 e10 e11
            clear B0
            have B0 := s0
            clear s0
            clear B1
            have B1 := s1
            clear s1
            clear B2
            have B2 := s2
            clear s2
            clear B3
            have B3 := s3
            clear s3
            clear B4
            have B4 := s4
            clear s4
            clear hb
            have hb := hB
            clear hB
            have B5 := hk8_11
            clear hk8_11
            have zk8_11_0 : w.heap.size < k8_11 := by omega
            have zk8_11_1 : w.heap.size + 1 < k8_11 := by omega
            have zk8_11_2 : w.heap.size + 1 + 1 < k8_11 := by omega
            have zk8_11_3 : w.heap.size + 1 + 1 + 1 < k8_11 := by omega
            have zk8_11_4 : N1 < k8_11 := by omega
            clear hbase hz lt_B0 lt_B1 lt_B2 lt_B3 lt_B4
            go_upto_region 9 with (fail)
            have lt_B0 : (w.heap.size) < W5.heap.size := B0.lt
            have lt_B1 : (w.heap.size + 1) < W5.heap.size := B1.lt
            have lt_B2 : (w.heap.size + 1 + 1) < W5.heap.size := B2.lt
            have lt_B3 : (w.heap.size + 1 + 1 + 1) < W5.heap.size := B3.lt
            have lt_B4 : (N1) < W5.heap.size := B4.lt
            have lt_B5 : (k8_11) < W5.heap.size := B5.lt
            have hbase : w.heap.size ≤ W5.heap.size := hb.size
            refine wp_region_steps0 Try.mixed (by kernel_rfl) (by kernel_rfl) (fun v => by (simp only [frL, Act.put, List.setIfInBounds_toArray, List.set_cons_zero, List.set_cons_succ, Nat.reduceAdd, Nat.zero_add]; exact rfl))
              (fun L v W6 => Below w.heap.size w W6 ∧ W5.heap.size ≤ W6.heap.size ∧ Blk W6 (w.heap.size) 512 34 (fl 64 F) ∧ Row W6 (w.heap.size + 1) 83 (fdC (p : Int) m).toArray ∧ Blk W6 (w.heap.size + 1 + 1) 512 34 (fl 64 G) ∧ Blk W6 (w.heap.size + 1 + 1 + 1) 512 34 (fl 64 (fun _ _ => 0)) ∧ (∃ g, Blk W6 (N1) 512 34 (g)) ∧ (L 13 = false → Blk W6 (N1) 512 34 (fl 64 O)) ∧ (L 13 = true → Blk W6 (N1) 512 34 (fl 64 (updR O Q (addK p (O Q) (mmP p (F i) (frN p m (G j) (i % d)) m) 1)))) ∧ Blk W6 (k8_11) 64 23 (mmP p (F i) (frN p m (G j) (i % d)) m) ∧ (L 0 = true → v 0 = (.int .i64 (i : Int))) ∧ (L 1 = true → v 1 = (.int .i64 (j : Int))) ∧ (L 2 = true → v 2 = (.int .i64 (Q : Int))) ∧ (L 3 = true → v 3 = (.pointer (some ⟨w.heap.size + 1, 0, none⟩))) ∧ (L 4 = true → v 4 = (.int .i64 (p : Int))) ∧ (L 5 = true → v 5 = (.int .i64 (i : Int))) ∧ (L 6 = true → v 6 = (.int .i64 (j : Int))) ∧ (L 7 = true → v 7 = (.int .i64 (Q : Int))) ∧ (L 8 = true → v 8 = (.pointer (some ⟨N1, Q * 64, none⟩))) ∧ (L 9 = true → v 9 = (.agg (bcells 64 (O Q)))) ∧ (L 10 = true → v 10 = (.agg (bcells 64 (mmP p (F i) (frN p m (G j) (i % d)) m)))) ∧ (L 11 = true → v 11 = (.agg (bcells 64 (addK p (O Q) (mmP p (F i) (frN p m (G j) (i % d)) m) 1)))) ∧ (L 12 = true → v 12 = (.pointer (some ⟨N1, Q * 64, none⟩)))) ?_ ?_ ?_
            · intro v hv0
              exact ⟨hb.drew, Nat.le_refl _, B0.drew, B1.drew, B2.drew, B3.drew, ⟨_, B4.drew⟩, (fun _ => B4.drew), (fun h => by cases h), B5.drew, (fun h => by cases h), (fun h => by cases h), (fun h => by cases h), (fun h => by cases h), (fun h => by cases h), (fun h => by cases h), (fun h => by cases h), (fun h => by cases h), (fun h => by cases h), (fun h => by cases h), (fun h => by cases h), (fun h => by cases h), (fun h => by cases h)⟩
            · refine (.cons rfl ?_ (.cons rfl ?_ (.cons rfl ?_ (.cons rfl ?_ (.cons rfl ?_ (.cons rfl ?_ (.cons rfl ?_ (.cons rfl ?_ (.cons rfl ?_ (.cons rfl ?_ (.cons rfl ?_ (.cons rfl ?_ (.cons rfl ?_ (.cons rfl ?_ (.nil _)))))))))))))))
              · intro L v W6 hd hn ⟨hB, hz, s0, s1, s2, s3, x4, q4, n4, s5, h0, h1, h2, h3, h4, h5, h6, h7, h8, h9, h10, h11, h12⟩ K hK
                go_wp2_with fail
                exact hK _ (.int .i64 (i : Int)) _ (by simp only [Act.put, List.setIfInBounds_toArray, List.set_cons_zero, List.set_cons_succ ]) ⟨hB, hz, s0, s1, s2, s3, x4, q4, n4, s5, (fun _ => rfl), h1, h2, h3, h4, h5, h6, h7, h8, h9, h10, h11, h12⟩
              · intro L v W6 hd hn ⟨hB, hz, s0, s1, s2, s3, x4, q4, n4, s5, h0, h1, h2, h3, h4, h5, h6, h7, h8, h9, h10, h11, h12⟩ K hK
                go_wp2_with fail
                exact hK _ (.int .i64 (j : Int)) _ (by simp only [Act.put, List.setIfInBounds_toArray, List.set_cons_zero, List.set_cons_succ ]) ⟨hB, hz, s0, s1, s2, s3, x4, q4, n4, s5, h0, (fun _ => rfl), h2, h3, h4, h5, h6, h7, h8, h9, h10, h11, h12⟩
              · intro L v W6 hd hn ⟨hB, hz, s0, s1, s2, s3, x4, q4, n4, s5, h0, h1, h2, h3, h4, h5, h6, h7, h8, h9, h10, h11, h12⟩ K hK
                have e0 := h0 (hd ⟨0, .data⟩ (by simp) rfl)
                have e1 := h1 (hd ⟨1, .data⟩ (by simp) rfl)
                go_wp2_with fail
                exact hK _ (.int .i64 (Q : Int)) _ (by simp only [Act.put, List.setIfInBounds_toArray, List.set_cons_zero, List.set_cons_succ, e0, e1]) ⟨hB, hz, s0, s1, s2, s3, x4, q4, n4, s5, h0, h1, (fun _ => rfl), h3, h4, h5, h6, h7, h8, h9, h10, h11, h12⟩
              · intro L v W6 hd hn ⟨hB, hz, s0, s1, s2, s3, x4, q4, n4, s5, h0, h1, h2, h3, h4, h5, h6, h7, h8, h9, h10, h11, h12⟩ K hK
                go_wp2_with fail
                exact hK _ (.pointer (some ⟨w.heap.size + 1, 0, none⟩)) _ (by simp only [Act.put, List.setIfInBounds_toArray, List.set_cons_zero, List.set_cons_succ ]) ⟨hB, hz, s0, s1, s2, s3, x4, q4, n4, s5, h0, h1, h2, (fun _ => rfl), h4, h5, h6, h7, h8, h9, h10, h11, h12⟩
              · intro L v W6 hd hn ⟨hB, hz, s0, s1, s2, s3, x4, q4, n4, s5, h0, h1, h2, h3, h4, h5, h6, h7, h8, h9, h10, h11, h12⟩ K hK
                have e3 := h3 (hd ⟨3, .data⟩ (by simp) rfl)
                have cc := s1.cell (i := 0) (v := .int .i64 (p : Int)) (fdC_at (p : Int) m)
                go_wp2_with fail
                exact hK _ (.int .i64 (p : Int)) _ (by simp only [Act.put, List.setIfInBounds_toArray, List.set_cons_zero, List.set_cons_succ, e3]) ⟨hB, hz, s0, s1, s2, s3, x4, q4, n4, s5, h0, h1, h2, h3, (fun _ => rfl), h5, h6, h7, h8, h9, h10, h11, h12⟩
              · intro L v W6 hd hn ⟨hB, hz, s0, s1, s2, s3, x4, q4, n4, s5, h0, h1, h2, h3, h4, h5, h6, h7, h8, h9, h10, h11, h12⟩ K hK
                go_wp2_with fail
                exact hK _ (.int .i64 (i : Int)) _ (by simp only [Act.put, List.setIfInBounds_toArray, List.set_cons_zero, List.set_cons_succ ]) ⟨hB, hz, s0, s1, s2, s3, x4, q4, n4, s5, h0, h1, h2, h3, h4, (fun _ => rfl), h6, h7, h8, h9, h10, h11, h12⟩
              · intro L v W6 hd hn ⟨hB, hz, s0, s1, s2, s3, x4, q4, n4, s5, h0, h1, h2, h3, h4, h5, h6, h7, h8, h9, h10, h11, h12⟩ K hK
                go_wp2_with fail
                exact hK _ (.int .i64 (j : Int)) _ (by simp only [Act.put, List.setIfInBounds_toArray, List.set_cons_zero, List.set_cons_succ ]) ⟨hB, hz, s0, s1, s2, s3, x4, q4, n4, s5, h0, h1, h2, h3, h4, h5, (fun _ => rfl), h7, h8, h9, h10, h11, h12⟩
              · intro L v W6 hd hn ⟨hB, hz, s0, s1, s2, s3, x4, q4, n4, s5, h0, h1, h2, h3, h4, h5, h6, h7, h8, h9, h10, h11, h12⟩ K hK
                have e5 := h5 (hd ⟨5, .data⟩ (by simp) rfl)
                have e6 := h6 (hd ⟨6, .data⟩ (by simp) rfl)
                go_wp2_with fail
                exact hK _ (.int .i64 (Q : Int)) _ (by simp only [Act.put, List.setIfInBounds_toArray, List.set_cons_zero, List.set_cons_succ, e5, e6]) ⟨hB, hz, s0, s1, s2, s3, x4, q4, n4, s5, h0, h1, h2, h3, h4, h5, h6, (fun _ => rfl), h8, h9, h10, h11, h12⟩
              · intro L v W6 hd hn ⟨hB, hz, s0, s1, s2, s3, x4, q4, n4, s5, h0, h1, h2, h3, h4, h5, h6, h7, h8, h9, h10, h11, h12⟩ K hK
                have e7 := h7 (hd ⟨7, .data⟩ (by simp) rfl)
                go_wp2_with fail
                exact hK _ (.pointer (some ⟨N1, Q * 64, none⟩)) _ (by simp only [Act.put, List.setIfInBounds_toArray, List.set_cons_zero, List.set_cons_succ, e7]) ⟨hB, hz, s0, s1, s2, s3, x4, q4, n4, s5, h0, h1, h2, h3, h4, h5, h6, h7, (fun _ => rfl), h9, h10, h11, h12⟩
              · intro L v W6 hd hn ⟨hB, hz, s0, s1, s2, s3, x4, q4, n4, s5, h0, h1, h2, h3, h4, h5, h6, h7, h8, h9, h10, h11, h12⟩ K hK
                have e8 := h8 (hd ⟨8, .data⟩ (by simp) rfl)
                have s4 := q4 (by
                  cases hL : L 13 with
                  | false => rfl
                  | true => exact absurd rfl (hn 13 _ rfl hL ⟨9, .phase⟩ (by simp) rfl))
                refine wp_load_mid 23 _ rfl _ (Q * 64) e8 _ _ ((s4).sk (by omega)) Try.underlying23 rfl (by rw [bl_length]; exact Try.size23) ?_
                exact hK _ _ _ rfl ⟨hB, hz, s0, s1, s2, s3, x4, q4, n4, s5, h0, h1, h2, h3, h4, h5, h6, h7, h8, (fun _ => rfl), h10, h11, h12⟩
              · intro L v W6 hd hn ⟨hB, hz, s0, s1, s2, s3, x4, q4, n4, s5, h0, h1, h2, h3, h4, h5, h6, h7, h8, h9, h10, h11, h12⟩ K hK
                refine wp_load_any 23 _ rfl _ rfl 64 23 _ s5 _ Try.underlying23 rfl Try.size23 ?_
                exact hK _ _ _ rfl ⟨hB, hz, s0, s1, s2, s3, x4, q4, n4, s5, h0, h1, h2, h3, h4, h5, h6, h7, h8, h9, (fun _ => rfl), h11, h12⟩
              · intro L v W6 hd hn ⟨hB, hz, s0, s1, s2, s3, x4, q4, n4, s5, h0, h1, h2, h3, h4, h5, h6, h7, h8, h9, h10, h11, h12⟩ K hK
                have e4 := h4 (hd ⟨4, .data⟩ (by simp) rfl)
                have e9 := h9 (hd ⟨9, .data⟩ (by simp) rfl)
                have e10 := h10 (hd ⟨10, .data⟩ (by simp) rfl)
                go_wp2_with (go_at_call 162; refine (HK3.out _).mono ?_; rintro e wy ⟨rfl, hy⟩)
                exact hK _ (.agg (bcells 64 (addK p (O Q) (mmP p (F i) (frN p m (G j) (i % d)) m) 1))) _ (by simp only [Act.put, List.setIfInBounds_toArray, List.set_cons_zero, List.set_cons_succ, e4, e9, e10]) ⟨hB.trans (hy.mono hB.size), (Nat.le_trans hz hy.size), (s0).below hy (s0).lt, (s1).below hy (s1).lt, (s2).below hy (s2).lt, (s3).below hy (s3).lt, (let ⟨g, h⟩ := x4; ⟨g, (h).below hy (h).lt⟩), (fun h => (q4 h).below hy (q4 h).lt), (fun h => (n4 h).below hy (n4 h).lt), (s5).below hy (s5).lt, h0, h1, h2, h3, h4, h5, h6, h7, h8, h9, h10, (fun _ => rfl), h12⟩
              · intro L v W6 hd hn ⟨hB, hz, s0, s1, s2, s3, x4, q4, n4, s5, h0, h1, h2, h3, h4, h5, h6, h7, h8, h9, h10, h11, h12⟩ K hK
                have e2 := h2 (hd ⟨2, .data⟩ (by simp) rfl)
                go_wp2_with fail
                exact hK _ (.pointer (some ⟨N1, Q * 64, none⟩)) _ (by simp only [Act.put, List.setIfInBounds_toArray, List.set_cons_zero, List.set_cons_succ, e2]) ⟨hB, hz, s0, s1, s2, s3, x4, q4, n4, s5, h0, h1, h2, h3, h4, h5, h6, h7, h8, h9, h10, h11, (fun _ => rfl)⟩
              · intro L v W6 hd hn ⟨hB, hz, s0, s1, s2, s3, x4, q4, n4, s5, h0, h1, h2, h3, h4, h5, h6, h7, h8, h9, h10, h11, h12⟩ K hK
                have e12 := h12 (hd ⟨12, .data⟩ (by simp) rfl)
                have e11 := h11 (hd ⟨11, .data⟩ (by simp) rfl)
                obtain ⟨gz, hk, hg⟩ : ∃ gz, Blk W6 (N1) 512 34 (fl 64 gz) ∧ updR gz (Q) (addK p (O Q) (mmP p (F i) (frN p m (G j) (i % d)) m) 1) = updR O (Q) (addK p (O Q) (mmP p (F i) (frN p m (G j) (i % d)) m) 1) := by
                  cases hL : L 13 with
                  | false => exact ⟨_, q4 hL, rfl⟩
                  | true => exact ⟨_, n4 hL, updR_twice _ _ _⟩
                refine wp_store_sk 23 _ _ rfl _ (Q) (addK p (O Q) (mmP p (F i) (frN p m (G j) (i % d)) m) 1) e12 e11 34 gz hk (by omega) Try.size23 ?_
                rw [hg]
                exact hK _ undef _ rfl ⟨below_row hB (by omega) _, (by simpa [World.setRow] using hz), (s0).rowOther (by omega), (s1).rowOther (by omega), (s2).rowOther (by omega), (s3).rowOther (by omega), ⟨_, hk.row _⟩, (fun h => absurd h (by simp [setL])), (fun _ => hk.row _), (s5).rowOther (by omega), h0, h1, h2, h3, h4, h5, h6, h7, h8, h9, h10, h11, h12⟩
            · intro L v W6 hL ⟨hB, hz, s0, s1, s2, s3, x4, q4, n4, s5, h0, h1, h2, h3, h4, h5, h6, h7, h8, h9, h10, h11, h12⟩
              have r4 := n4 (hL 13 (by decide))
              have e0 := h0 (hL 0 (by decide))
              have e1 := h1 (hL 1 (by decide))
              have e2 := h2 (hL 2 (by decide))
              have e3 := h3 (hL 3 (by decide))
              have e4 := h4 (hL 4 (by decide))
              have e5 := h5 (hL 5 (by decide))
              have e6 := h6 (hL 6 (by decide))
              have e7 := h7 (hL 7 (by decide))
              have e8 := h8 (hL 8 (by decide))
              have e9 := h9 (hL 9 (by decide))
              have e10 := h10 (hL 10 (by decide))
              have e11 := h11 (hL 11 (by decide))
              have e12 := h12 (hL 12 (by decide))
              clear hL x4 q4 n4 h0 h1 h2 h3 h4 h5 h6 h7 h8 h9 h10 h11 h12
              simp only [Exit.then, e0, e1, e2, e3, e4, e5, e6, e7, e8, e9, e10, e11, e12]
              clear e0 e1 e2 e3 e4 e5 e6 e7 e8 e9 e10 e11 e12
              clear B0
              have B0 := s0
              clear s0
              clear B1
              have B1 := s1
              clear s1
              clear B2
              have B2 := s2
              clear s2
              clear B3
              have B3 := s3
              clear s3
              clear B4
              have B4 := r4
              clear r4
              clear B5
              have B5 := s5
              clear s5
              clear hb
              have hb := hB
              clear hB
              clear hbase hz lt_B0 lt_B1 lt_B2 lt_B3 lt_B4 lt_B5
              go_wp2_with fail
              go_roundw
              case rel => exact ⟨j + 1, _, by go_num, by omega, Lib.hid (by rw [HJS.out, ← hO.out, ← HQ.out]), hb, B0, B1, B2, B3, B4⟩
              case measure => simp [intOf] <;> omega
        · have hjI : ¬ (j : Int) < (B : Int) - 1 + 1 := by omega
          obtain rfl : j = B := by omega
          go_wp2_with fail
          go_roundw
          case rel => exact ⟨i + 1, O, by go_num, by omega, Lib.hid (by rw [HS.out, hO.out]), hb, B0, B1, B2, B3, B4⟩
          case measure => simp [intOf] <;> omega
    · have hiI : ¬ (i : Int) < (A : Int) - 1 + 1 := by omega
      obtain rfl : i = A := by omega
      go_upto_region 12 with (fail)
      have lt_B0 := B0.lt
      have lt_B1 := B1.lt
      have lt_B2 := B2.lt
      have lt_B3 := B3.lt
      have lt_B4 := B4.lt
      go_wp2_with (first | rw [← zero64] | rw [← zero512] | (refine wpList_load_any rfl 34 (.tmp 7) rfl _ rfl 512 34 _ (B4) _ Try.underlying34 rfl Try.size34 ?_) | (refine wpList_store_blk rfl 34 (.tmp 6) (.tmp 49) rfl _ 512 (fl 64 O) rfl rfl 34 _ (B3) Try.size34 ?_; try simp only [Act.put]))
      have qB0 : Blk (wr.setRow (w.heap.size + 1 + 1 + 1) (bcells 512 (fl 64 O))) (w.heap.size) 512 34 (fl 64 F) := (B0.rowOther (by omega))
      have qB1 : Row (wr.setRow (w.heap.size + 1 + 1 + 1) (bcells 512 (fl 64 O))) (w.heap.size + 1) 83 (fdC (p : Int) m).toArray := (B1.rowOther (by omega))
      have qB2 : Blk (wr.setRow (w.heap.size + 1 + 1 + 1) (bcells 512 (fl 64 O))) (w.heap.size + 1 + 1) 512 34 (fl 64 G) := (B2.rowOther (by omega))
      have qB3 : Blk (wr.setRow (w.heap.size + 1 + 1 + 1) (bcells 512 (fl 64 O))) (w.heap.size + 1 + 1 + 1) 512 34 (fl 64 O) := (B3.row (fl 64 O))
      have qB4 : Blk (wr.setRow (w.heap.size + 1 + 1 + 1) (bcells 512 (fl 64 O))) (N1) 512 34 (fl 64 O) := (B4.rowOther (by omega))
      have qhb : Below w.heap.size w (wr.setRow (w.heap.size + 1 + 1 + 1) (bcells 512 (fl 64 O))) := (below_row hb (by omega) _)
      obtain ⟨W4, hwo⟩ : ∃ v : World, v = (wr.setRow (w.heap.size + 1 + 1 + 1) (bcells 512 (fl 64 O))) := ⟨_, rfl⟩
      rw [← hwo] at qB0 qB1 qB2 qB3 qB4 qhb ⊢
      clear hwo
      clear B0 B1 B2 B3 B4 hb
      have B0 := qB0
      have B1 := qB1
      have B2 := qB2
      have B3 := qB3
      have B4 := qB4
      have hb := qhb
      clear qB0 qB1 qB2 qB3 qB4 qhb
      try simp only [Act.put, List.setIfInBounds_toArray, List.set_cons_zero, List.set_cons_succ]
      refine bodyPost_ret (results_any rfl _ _ _ 512 _ _ rfl B3 _ Try.underlying34 rfl Try.size34) rfl ⟨by first | (rw [HP.out, ← hO.out]; done) | (rw [HP.out, ← hO.out]; rfl), hb⟩
end Go.Proofs.Ytbjpkmbhbpcbgaa
end
section
namespace Go.Proofs.Ytbjpkmbhbpcbgaa
open Go Go.RowKit
set_option linter.unusedVariables false
set_option linter.unusedSimpArgs false
attribute [local irreducible] deg addK okA flV
noncomputable def muV (p : Int) (m : Nat → Nat) (F G : Nat → Nat → Nat) : (Nat → Nat → Nat) × Int :=
  if ckS p m [F, G] = 0 then (if skD F + skD G ≤ 7 then (tmP p.toNat m (deg m).toNat F G, 0) else (fun _ _ => 0, 3)) else (fun _ _ => 0, 1)
theorem muV_0 {n d : Nat} {m : Nat → Nat} {F G : Nat → Nat → Nat} (h : ckS (n : Int) m [F, G] = 0) (hd : deg m = (d : Int)) (h2 : skD F + skD G ≤ 7) : muV (n : Int) m F G = (tmP n m d F G, 0) := by
  unfold muV; rw [if_pos h, if_pos h2, hd]; rfl
theorem muV_3 {p : Int} {m : Nat → Nat} {F G : Nat → Nat → Nat} (h : ckS p m [F, G] = 0) (h2 : ¬ skD F + skD G ≤ 7) : muV p m F G = (fun _ _ => 0, 3) := by unfold muV; rw [if_pos h, if_neg h2]
theorem muV_1 {p : Int} {m : Nat → Nat} {F G : Nat → Nat → Nat} (h : ckS p m [F, G] = 1) : muV p m F G = (fun _ _ => 0, 1) := if_neg (by omega)
attribute [irreducible] muV
set_option maxRecDepth 100000 in
set_option maxHeartbeats 1600000 in
theorem spec_MultiplySkews_any (p : Int) (m : Nat → Nat) (F G : Nat → Nat → Nat) (hm : byte m) (hF : ∀ i, byte (F i)) (hG : ∀ i, byte (G i)) (w : World) :
    Calls Try.prog 37 #[.int .i64 p, .agg (bcells 64 m), .agg (bcells 512 (fl 64 F)), .agg (bcells 512 (fl 64 G))] w fun e w' => e = .returned (.tuple #[.agg (bcells 512 (fl 64 (muV p m F G).1)), .int .i64 (muV p m F G).2]) ∧ Below w.heap.size w w' := by
  go_enter Try.func37, Try.ntmps37
  go_upto_region 1 with (fail)
  rw [← zero512]
  obtain ⟨W1, hwo⟩ : ∃ v : World, v = ((((w.alloc (.cells (bcells 64 (m)) 23)).alloc (.cells (bcells 512 (fl 64 F)) 34)).alloc (.cells (bcells 512 (fl 64 G)) 34)).alloc (.cells (bcells 512 (fl 64 (fun _ _ => 0))) 34)) := ⟨_, rfl⟩
  have B0 : Blk W1 (w.heap.size) 64 23 (m) := by subst hwo; have := ((((Blk.new w 64 23 (m)).alloc (.cells (bcells 512 (fl 64 F)) 34)).alloc (.cells (bcells 512 (fl 64 G)) 34)).alloc (.cells (bcells 512 (fl 64 (fun _ _ => 0))) 34)); simpa using this
  have B1 : Blk W1 (w.heap.size + 1) 512 34 (fl 64 F) := by subst hwo; have := (((Blk.new (w.alloc (.cells (bcells 64 (m)) 23)) 512 34 (fl 64 F)).alloc (.cells (bcells 512 (fl 64 G)) 34)).alloc (.cells (bcells 512 (fl 64 (fun _ _ => 0))) 34)); simpa using this
  have B2 : Blk W1 (w.heap.size + 1 + 1) 512 34 (fl 64 G) := by subst hwo; have := ((Blk.new ((w.alloc (.cells (bcells 64 (m)) 23)).alloc (.cells (bcells 512 (fl 64 F)) 34)) 512 34 (fl 64 G)).alloc (.cells (bcells 512 (fl 64 (fun _ _ => 0))) 34)); simpa using this
  have B3 : Blk W1 (w.heap.size + 1 + 1 + 1) 512 34 (fl 64 (fun _ _ => 0)) := by subst hwo; have := (Blk.new (((w.alloc (.cells (bcells 64 (m)) 23)).alloc (.cells (bcells 512 (fl 64 F)) 34)).alloc (.cells (bcells 512 (fl 64 G)) 34)) 512 34 (fl 64 (fun _ _ => 0))); simpa using this
  have hb : Below w.heap.size w W1 := by subst hwo; exact (((((Below.refl _ _).alloc (Nat.le_refl _) _).alloc (by simp) _).alloc (by simp; omega) _).alloc (by simp; omega) _)
  rw [← hwo]
  clear hwo
  rcases ckS_two p m [F, G] with hc | hc
  · obtain ⟨n, rfl, hpr, lm, ⟨d, hmon, hd1, hd4⟩, hl⟩ := ckS_fld hc
    have hd := hmon.1
    have lF : ∀ i, i < 8 → ∀ j, j < 64 → F i j < n := fun i hi => (hl F (by simp) i hi).1
    have lG : ∀ i, i < 8 → rsd n m (G i) := fun i hi => hl G (by simp) i hi
    obtain ⟨a1, a2⟩ := skD_bounds F
    obtain ⟨b1, b2⟩ := skD_bounds G
    by_cases hs : skD F + skD G ≤ 7
    · have HV := Lib.hid (muV_0 hc hd hs)
      have HTI := Lib.hid (fun W => l03Times_ok n m F G W hpr lm d hd hd1 (by omega) lF lG hs)
      go_upto_region 4 with (first | (refine wpList_load_any rfl 23 (.tmp 5) rfl _ rfl 64 23 _ B0 _ Try.underlying23 rfl Try.size23 ?_) | (refine wpList_load_any rfl 34 (.tmp 6) rfl _ rfl 512 34 _ B1 _ Try.underlying34 rfl Try.size34 ?_) | (refine wpList_load_any rfl 34 (.tmp 7) rfl _ rfl 512 34 _ B2 _ Try.underlying34 rfl Try.size34 ?_) | (refine wpList_build_sks rfl 127 _ [F, G] rfl 34 Try.underlying127 Try.elem34 (by simp) (by simp) rfl ?_; intro wa hps hba) | (go_at_call 95; refine (l03Code_any _ m hm [F, G] (by simp [hF, hG]) (by simp) _ _ hps).mono ?_; rintro e W2 ⟨rfl, hbb⟩; rw [hc]))
      have hBB : Below W1.heap.size W1 W2 := hba.trans (hbb.mono hba.size)
      replace B0 := B0.below hBB B0.lt
      replace B1 := B1.below hBB B1.lt
      replace B2 := B2.below hBB B2.lt
      replace B3 := B3.below hBB B3.lt
      replace hb := hb.trans (hBB.mono hb.size)
      clear hBB hba hbb hps
      clear hc hl lF lG hmon
      have lt_B0 := B0.lt
      have lt_B1 := B1.lt
      have lt_B2 := B2.lt
      have lt_B3 := B3.lt
      go_upto_region 7 with (first | rw [← zero64] | rw [← zero512] | (refine wpList_load_any rfl 23 (.tmp 5) rfl _ rfl 64 23 _ (B0) _ Try.underlying23 rfl Try.size23 ?_) | (refine wpList_load_any rfl 34 (.tmp 6) rfl _ rfl 512 34 _ (B1) _ Try.underlying34 rfl Try.size34 ?_) | (refine wpList_load_any rfl 34 (.tmp 7) rfl _ rfl 512 34 _ (B2) _ Try.underlying34 rfl Try.size34 ?_) | (go_at_call 100; refine (HTI.out _).mono ?_; rintro e W3 ⟨rfl, hW3⟩; replace B0 := B0.below hW3 B0.lt; replace B1 := B1.below hW3 B1.lt; replace B2 := B2.below hW3 B2.lt; replace B3 := B3.below hW3 B3.lt; replace hb := (hb).trans (hW3.mono (hb).size)) | (refine wpList_store_blk rfl 34 (.tmp 11) (.tmp 29) rfl _ 512 (fl 64 (tmP n m d F G)) rfl rfl 34 _ ((Blk.new W3 512 34 (fl 64 (fun _ _ => 0)))) Try.size34 ?_; try simp only [Act.put]; go_upto_region 7 with (fail)))
      have lt_B0 := B0.lt
      have lt_B1 := B1.lt
      have lt_B2 := B2.lt
      have lt_B3 := B3.lt
      have lhb := hb.size
      have qB0 : Blk ((W3.alloc (.cells (bcells 512 (fl 64 (fun _ _ => 0))) 34)).setRow (W3.heap.size) (bcells 512 (fl 64 (tmP n m d F G)))) (w.heap.size) 64 23 (m) := ((B0.alloc (.cells (bcells 512 (fl 64 (fun _ _ => 0))) 34)).rowOther (by omega))
      have qB1 : Blk ((W3.alloc (.cells (bcells 512 (fl 64 (fun _ _ => 0))) 34)).setRow (W3.heap.size) (bcells 512 (fl 64 (tmP n m d F G)))) (w.heap.size + 1) 512 34 (fl 64 F) := ((B1.alloc (.cells (bcells 512 (fl 64 (fun _ _ => 0))) 34)).rowOther (by omega))
      have qB2 : Blk ((W3.alloc (.cells (bcells 512 (fl 64 (fun _ _ => 0))) 34)).setRow (W3.heap.size) (bcells 512 (fl 64 (tmP n m d F G)))) (w.heap.size + 1 + 1) 512 34 (fl 64 G) := ((B2.alloc (.cells (bcells 512 (fl 64 (fun _ _ => 0))) 34)).rowOther (by omega))
      have qB3 : Blk ((W3.alloc (.cells (bcells 512 (fl 64 (fun _ _ => 0))) 34)).setRow (W3.heap.size) (bcells 512 (fl 64 (tmP n m d F G)))) (w.heap.size + 1 + 1 + 1) 512 34 (fl 64 (fun _ _ => 0)) := ((B3.alloc (.cells (bcells 512 (fl 64 (fun _ _ => 0))) 34)).rowOther (by omega))
      have qB4 : Blk ((W3.alloc (.cells (bcells 512 (fl 64 (fun _ _ => 0))) 34)).setRow (W3.heap.size) (bcells 512 (fl 64 (tmP n m d F G)))) (W3.heap.size) 512 34 (fl 64 (tmP n m d F G)) := ((Blk.new W3 512 34 (fl 64 (fun _ _ => 0))).row (fl 64 (tmP n m d F G)))
      have qhb : Below w.heap.size w ((W3.alloc (.cells (bcells 512 (fl 64 (fun _ _ => 0))) 34)).setRow (W3.heap.size) (bcells 512 (fl 64 (tmP n m d F G)))) := (below_row (hb.alloc (by have := hb.size; simp; omega) (.cells (bcells 512 (fl 64 (fun _ _ => 0))) 34)) (by omega) _)
      obtain ⟨W4, hwo⟩ : ∃ v : World, v = ((W3.alloc (.cells (bcells 512 (fl 64 (fun _ _ => 0))) 34)).setRow (W3.heap.size) (bcells 512 (fl 64 (tmP n m d F G)))) := ⟨_, rfl⟩
      rw [← hwo] at qB0 qB1 qB2 qB3 qB4 qhb ⊢
      clear hwo
      clear B0 B1 B2 B3 hb
      have B0 := qB0
      have B1 := qB1
      have B2 := qB2
      have B3 := qB3
      have B4 := qB4
      have hb := qhb
      clear qB0 qB1 qB2 qB3 qB4 qhb
      obtain ⟨N1, hNN⟩ : ∃ n : Nat, n = W3.heap.size := ⟨_, rfl⟩
      rw [← hNN] at lt_B0 lt_B1 lt_B2 lt_B3 lhb B4 ⊢
      clear hNN
      have zN1_0 := lt_B0
      have zN1_1 := lt_B1
      have zN1_2 := lt_B2
      have zN1_3 := lt_B3
      have zN1 := lhb
      clear lt_B0 lt_B1 lt_B2 lt_B3 lhb
      try simp only [Act.put, List.setIfInBounds_toArray, List.set_cons_zero, List.set_cons_succ]
      have lt_B0 := B0.lt
      have lt_B1 := B1.lt
      have lt_B2 := B2.lt
      have lt_B3 := B3.lt
      have lt_B4 := B4.lt
      go_wp2_with (first | rw [← zero64] | rw [← zero512] | (refine wpList_load_any rfl 34 (.tmp 11) rfl _ rfl 512 34 _ (B4) _ Try.underlying34 rfl Try.size34 ?_) | (refine wpList_store_blk rfl 34 (.tmp 8) (.tmp 34) rfl _ 512 (fl 64 (tmP n m d F G)) rfl rfl 34 _ (B3) Try.size34 ?_; try simp only [Act.put]; go_wp2_with fail))
      have qB0 : Blk (W4.setRow (w.heap.size + 1 + 1 + 1) (bcells 512 (fl 64 (tmP n m d F G)))) (w.heap.size) 64 23 (m) := (B0.rowOther (by omega))
      have qB1 : Blk (W4.setRow (w.heap.size + 1 + 1 + 1) (bcells 512 (fl 64 (tmP n m d F G)))) (w.heap.size + 1) 512 34 (fl 64 F) := (B1.rowOther (by omega))
      have qB2 : Blk (W4.setRow (w.heap.size + 1 + 1 + 1) (bcells 512 (fl 64 (tmP n m d F G)))) (w.heap.size + 1 + 1) 512 34 (fl 64 G) := (B2.rowOther (by omega))
      have qB3 : Blk (W4.setRow (w.heap.size + 1 + 1 + 1) (bcells 512 (fl 64 (tmP n m d F G)))) (w.heap.size + 1 + 1 + 1) 512 34 (fl 64 (tmP n m d F G)) := (B3.row (fl 64 (tmP n m d F G)))
      have qB4 : Blk (W4.setRow (w.heap.size + 1 + 1 + 1) (bcells 512 (fl 64 (tmP n m d F G)))) (N1) 512 34 (fl 64 (tmP n m d F G)) := (B4.rowOther (by omega))
      have qhb : Below w.heap.size w (W4.setRow (w.heap.size + 1 + 1 + 1) (bcells 512 (fl 64 (tmP n m d F G)))) := (below_row hb (by omega) _)
      obtain ⟨W5, hwo⟩ : ∃ v : World, v = (W4.setRow (w.heap.size + 1 + 1 + 1) (bcells 512 (fl 64 (tmP n m d F G)))) := ⟨_, rfl⟩
      rw [← hwo] at qB0 qB1 qB2 qB3 qB4 qhb ⊢
      clear hwo
      clear B0 B1 B2 B3 B4 hb
      have B0 := qB0
      have B1 := qB1
      have B2 := qB2
      have B3 := qB3
      have B4 := qB4
      have hb := qhb
      clear qB0 qB1 qB2 qB3 qB4 qhb
      try simp only [Act.put, List.setIfInBounds_toArray, List.set_cons_zero, List.set_cons_succ]
      refine bodyPost_ret (results_anyt rfl _ _ _ 512 _ _ rfl B3 _ Try.underlying34 rfl Try.size34) rfl ⟨by first | (rw [HV.out]; rfl) | rw [HV.out], hb⟩
    · have HV := Lib.hid (muV_3 hc hs)
      have HTI := Lib.hid (fun W => l03Times_no (n : Int) m F G W (by omega))
      go_upto_region 4 with (first | (refine wpList_load_any rfl 23 (.tmp 5) rfl _ rfl 64 23 _ B0 _ Try.underlying23 rfl Try.size23 ?_) | (refine wpList_load_any rfl 34 (.tmp 6) rfl _ rfl 512 34 _ B1 _ Try.underlying34 rfl Try.size34 ?_) | (refine wpList_load_any rfl 34 (.tmp 7) rfl _ rfl 512 34 _ B2 _ Try.underlying34 rfl Try.size34 ?_) | (refine wpList_build_sks rfl 127 _ [F, G] rfl 34 Try.underlying127 Try.elem34 (by simp) (by simp) rfl ?_; intro wa hps hba) | (go_at_call 95; refine (l03Code_any _ m hm [F, G] (by simp [hF, hG]) (by simp) _ _ hps).mono ?_; rintro e W2 ⟨rfl, hbb⟩; rw [hc]))
      have hBB : Below W1.heap.size W1 W2 := hba.trans (hbb.mono hba.size)
      replace B0 := B0.below hBB B0.lt
      replace B1 := B1.below hBB B1.lt
      replace B2 := B2.below hBB B2.lt
      replace B3 := B3.below hBB B3.lt
      replace hb := hb.trans (hBB.mono hb.size)
      clear hBB hba hbb hps
      clear hc hl lF lG hmon
      have lt_B0 := B0.lt
      have lt_B1 := B1.lt
      have lt_B2 := B2.lt
      have lt_B3 := B3.lt
      go_upto_region 6 with (first | rw [← zero64] | rw [← zero512] | (refine wpList_load_any rfl 23 (.tmp 5) rfl _ rfl 64 23 _ (B0) _ Try.underlying23 rfl Try.size23 ?_) | (refine wpList_load_any rfl 34 (.tmp 6) rfl _ rfl 512 34 _ (B1) _ Try.underlying34 rfl Try.size34 ?_) | (refine wpList_load_any rfl 34 (.tmp 7) rfl _ rfl 512 34 _ (B2) _ Try.underlying34 rfl Try.size34 ?_) | (go_at_call 100; refine (HTI.out _).mono ?_; rintro e W3 ⟨rfl, hW3⟩; replace B0 := B0.below hW3 B0.lt; replace B1 := B1.below hW3 B1.lt; replace B2 := B2.below hW3 B2.lt; replace B3 := B3.below hW3 B3.lt; replace hb := (hb).trans (hW3.mono (hb).size)) | (refine wpList_store_blk rfl 34 (.tmp 11) (.tmp 29) rfl _ 512 (fl 64 (fun _ _ => 0)) rfl rfl 34 _ ((Blk.new W3 512 34 (fl 64 (fun _ _ => 0)))) Try.size34 ?_; try simp only [Act.put]; go_upto_region 6 with (fail)))
      have lt_B0 := B0.lt
      have lt_B1 := B1.lt
      have lt_B2 := B2.lt
      have lt_B3 := B3.lt
      have lhb := hb.size
      have qB0 : Blk ((W3.alloc (.cells (bcells 512 (fl 64 (fun _ _ => 0))) 34)).setRow (W3.heap.size) (bcells 512 (fl 64 (fun _ _ => 0)))) (w.heap.size) 64 23 (m) := ((B0.alloc (.cells (bcells 512 (fl 64 (fun _ _ => 0))) 34)).rowOther (by omega))
      have qB1 : Blk ((W3.alloc (.cells (bcells 512 (fl 64 (fun _ _ => 0))) 34)).setRow (W3.heap.size) (bcells 512 (fl 64 (fun _ _ => 0)))) (w.heap.size + 1) 512 34 (fl 64 F) := ((B1.alloc (.cells (bcells 512 (fl 64 (fun _ _ => 0))) 34)).rowOther (by omega))
      have qB2 : Blk ((W3.alloc (.cells (bcells 512 (fl 64 (fun _ _ => 0))) 34)).setRow (W3.heap.size) (bcells 512 (fl 64 (fun _ _ => 0)))) (w.heap.size + 1 + 1) 512 34 (fl 64 G) := ((B2.alloc (.cells (bcells 512 (fl 64 (fun _ _ => 0))) 34)).rowOther (by omega))
      have qB3 : Blk ((W3.alloc (.cells (bcells 512 (fl 64 (fun _ _ => 0))) 34)).setRow (W3.heap.size) (bcells 512 (fl 64 (fun _ _ => 0)))) (w.heap.size + 1 + 1 + 1) 512 34 (fl 64 (fun _ _ => 0)) := ((B3.alloc (.cells (bcells 512 (fl 64 (fun _ _ => 0))) 34)).rowOther (by omega))
      have qB4 : Blk ((W3.alloc (.cells (bcells 512 (fl 64 (fun _ _ => 0))) 34)).setRow (W3.heap.size) (bcells 512 (fl 64 (fun _ _ => 0)))) (W3.heap.size) 512 34 (fl 64 (fun _ _ => 0)) := ((Blk.new W3 512 34 (fl 64 (fun _ _ => 0))).row (fl 64 (fun _ _ => 0)))
      have qhb : Below w.heap.size w ((W3.alloc (.cells (bcells 512 (fl 64 (fun _ _ => 0))) 34)).setRow (W3.heap.size) (bcells 512 (fl 64 (fun _ _ => 0)))) := (below_row (hb.alloc (by have := hb.size; simp; omega) (.cells (bcells 512 (fl 64 (fun _ _ => 0))) 34)) (by omega) _)
      obtain ⟨W4, hwo⟩ : ∃ v : World, v = ((W3.alloc (.cells (bcells 512 (fl 64 (fun _ _ => 0))) 34)).setRow (W3.heap.size) (bcells 512 (fl 64 (fun _ _ => 0)))) := ⟨_, rfl⟩
      rw [← hwo] at qB0 qB1 qB2 qB3 qB4 qhb ⊢
      clear hwo
      clear B0 B1 B2 B3 hb
      have B0 := qB0
      have B1 := qB1
      have B2 := qB2
      have B3 := qB3
      have B4 := qB4
      have hb := qhb
      clear qB0 qB1 qB2 qB3 qB4 qhb
      obtain ⟨N1, hNN⟩ : ∃ n : Nat, n = W3.heap.size := ⟨_, rfl⟩
      rw [← hNN] at lt_B0 lt_B1 lt_B2 lt_B3 lhb B4 ⊢
      clear hNN
      have zN1_0 := lt_B0
      have zN1_1 := lt_B1
      have zN1_2 := lt_B2
      have zN1_3 := lt_B3
      have zN1 := lhb
      clear lt_B0 lt_B1 lt_B2 lt_B3 lhb
      try simp only [Act.put, List.setIfInBounds_toArray, List.set_cons_zero, List.set_cons_succ]
      have lt_B0 := B0.lt
      have lt_B1 := B1.lt
      have lt_B2 := B2.lt
      have lt_B3 := B3.lt
      have lt_B4 := B4.lt
      go_wp2_with (first | rw [← zero64] | rw [← zero512] | (refine wpList_store_blk rfl 34 (.tmp 8) (.tmp 33) rfl _ 512 (fl 64 (fun _ _ => 0)) rfl rfl 34 _ (B3) Try.size34 ?_; try simp only [Act.put]; go_wp2_with fail))
      have qB0 : Blk (W4.setRow (w.heap.size + 1 + 1 + 1) (bcells 512 (fl 64 (fun _ _ => 0)))) (w.heap.size) 64 23 (m) := (B0.rowOther (by omega))
      have qB1 : Blk (W4.setRow (w.heap.size + 1 + 1 + 1) (bcells 512 (fl 64 (fun _ _ => 0)))) (w.heap.size + 1) 512 34 (fl 64 F) := (B1.rowOther (by omega))
      have qB2 : Blk (W4.setRow (w.heap.size + 1 + 1 + 1) (bcells 512 (fl 64 (fun _ _ => 0)))) (w.heap.size + 1 + 1) 512 34 (fl 64 G) := (B2.rowOther (by omega))
      have qB3 : Blk (W4.setRow (w.heap.size + 1 + 1 + 1) (bcells 512 (fl 64 (fun _ _ => 0)))) (w.heap.size + 1 + 1 + 1) 512 34 (fl 64 (fun _ _ => 0)) := (B3.row (fl 64 (fun _ _ => 0)))
      have qB4 : Blk (W4.setRow (w.heap.size + 1 + 1 + 1) (bcells 512 (fl 64 (fun _ _ => 0)))) (N1) 512 34 (fl 64 (fun _ _ => 0)) := (B4.rowOther (by omega))
      have qhb : Below w.heap.size w (W4.setRow (w.heap.size + 1 + 1 + 1) (bcells 512 (fl 64 (fun _ _ => 0)))) := (below_row hb (by omega) _)
      obtain ⟨W5, hwo⟩ : ∃ v : World, v = (W4.setRow (w.heap.size + 1 + 1 + 1) (bcells 512 (fl 64 (fun _ _ => 0)))) := ⟨_, rfl⟩
      rw [← hwo] at qB0 qB1 qB2 qB3 qB4 qhb ⊢
      clear hwo
      clear B0 B1 B2 B3 B4 hb
      have B0 := qB0
      have B1 := qB1
      have B2 := qB2
      have B3 := qB3
      have B4 := qB4
      have hb := qhb
      clear qB0 qB1 qB2 qB3 qB4 qhb
      try simp only [Act.put, List.setIfInBounds_toArray, List.set_cons_zero, List.set_cons_succ]
      refine bodyPost_ret (results_anyt rfl _ _ _ 512 _ _ rfl B3 _ Try.underlying34 rfl Try.size34) rfl ⟨by first | (rw [HV.out]; rfl) | rw [HV.out], hb⟩
  · have HV := Lib.hid (muV_1 hc)
    go_upto_region 3 with (first | (refine wpList_load_any rfl 23 (.tmp 5) rfl _ rfl 64 23 _ B0 _ Try.underlying23 rfl Try.size23 ?_) | (refine wpList_load_any rfl 34 (.tmp 6) rfl _ rfl 512 34 _ B1 _ Try.underlying34 rfl Try.size34 ?_) | (refine wpList_load_any rfl 34 (.tmp 7) rfl _ rfl 512 34 _ B2 _ Try.underlying34 rfl Try.size34 ?_) | (refine wpList_build_sks rfl 127 _ [F, G] rfl 34 Try.underlying127 Try.elem34 (by simp) (by simp) rfl ?_; intro wa hps hba) | (go_at_call 95; refine (l03Code_any _ m hm [F, G] (by simp [hF, hG]) (by simp) _ _ hps).mono ?_; rintro e W2 ⟨rfl, hbb⟩; rw [hc]))
    have hBB : Below W1.heap.size W1 W2 := hba.trans (hbb.mono hba.size)
    replace B0 := B0.below hBB B0.lt
    replace B1 := B1.below hBB B1.lt
    replace B2 := B2.below hBB B2.lt
    replace B3 := B3.below hBB B3.lt
    replace hb := hb.trans (hBB.mono hb.size)
    clear hBB hba hbb hps
    clear hc
    have lt_B0 := B0.lt
    have lt_B1 := B1.lt
    have lt_B2 := B2.lt
    have lt_B3 := B3.lt
    go_wp2_with (first | rw [← zero64] | rw [← zero512] | (refine wpList_store_blk rfl 34 (.tmp 8) (.tmp 21) rfl _ 512 (fl 64 (fun _ _ => 0)) rfl rfl 34 _ (B3) Try.size34 ?_; try simp only [Act.put]; go_wp2_with fail))
    have qB0 : Blk (W2.setRow (w.heap.size + 1 + 1 + 1) (bcells 512 (fl 64 (fun _ _ => 0)))) (w.heap.size) 64 23 (m) := (B0.rowOther (by omega))
    have qB1 : Blk (W2.setRow (w.heap.size + 1 + 1 + 1) (bcells 512 (fl 64 (fun _ _ => 0)))) (w.heap.size + 1) 512 34 (fl 64 F) := (B1.rowOther (by omega))
    have qB2 : Blk (W2.setRow (w.heap.size + 1 + 1 + 1) (bcells 512 (fl 64 (fun _ _ => 0)))) (w.heap.size + 1 + 1) 512 34 (fl 64 G) := (B2.rowOther (by omega))
    have qB3 : Blk (W2.setRow (w.heap.size + 1 + 1 + 1) (bcells 512 (fl 64 (fun _ _ => 0)))) (w.heap.size + 1 + 1 + 1) 512 34 (fl 64 (fun _ _ => 0)) := (B3.row (fl 64 (fun _ _ => 0)))
    have qhb : Below w.heap.size w (W2.setRow (w.heap.size + 1 + 1 + 1) (bcells 512 (fl 64 (fun _ _ => 0)))) := (below_row hb (by omega) _)
    obtain ⟨W3, hwo⟩ : ∃ v : World, v = (W2.setRow (w.heap.size + 1 + 1 + 1) (bcells 512 (fl 64 (fun _ _ => 0)))) := ⟨_, rfl⟩
    rw [← hwo] at qB0 qB1 qB2 qB3 qhb ⊢
    clear hwo
    clear B0 B1 B2 B3 hb
    have B0 := qB0
    have B1 := qB1
    have B2 := qB2
    have B3 := qB3
    have hb := qhb
    clear qB0 qB1 qB2 qB3 qhb
    try simp only [Act.put, List.setIfInBounds_toArray, List.set_cons_zero, List.set_cons_succ]
    refine bodyPost_ret (results_anyt rfl _ _ _ 512 _ _ rfl B3 _ Try.underlying34 rfl Try.size34) rfl ⟨by first | (rw [HV.out]; rfl) | rw [HV.out], hb⟩
set_option maxRecDepth 100000 in
set_option maxHeartbeats 1600000 in
theorem impl_MultiplySkews_any (p : Int) (m : Nat → Nat) (F G : Nat → Nat → Nat) (hm : byte m) (hF : ∀ i, byte (F i)) (hG : ∀ i, byte (G i)) (w : World) :
    Calls Try.prog 38 #[.int .i64 p, .agg (bcells 64 m), .agg (bcells 512 (fl 64 F)), .agg (bcells 512 (fl 64 G))] w fun e w' => e = .returned (.tuple #[.agg (bcells 512 (fl 64 (muV p m F G).1)), .int .i64 (muV p m F G).2]) ∧ Below w.heap.size w w' := by
  go_enter Try.func38, Try.ntmps38
  go_upto_region 1 with (fail)
  rw [← zero512]
  obtain ⟨W1, hwo⟩ : ∃ v : World, v = ((((w.alloc (.cells (bcells 64 (m)) 23)).alloc (.cells (bcells 512 (fl 64 F)) 34)).alloc (.cells (bcells 512 (fl 64 G)) 34)).alloc (.cells (bcells 512 (fl 64 (fun _ _ => 0))) 34)) := ⟨_, rfl⟩
  have B0 : Blk W1 (w.heap.size) 64 23 (m) := by subst hwo; have := ((((Blk.new w 64 23 (m)).alloc (.cells (bcells 512 (fl 64 F)) 34)).alloc (.cells (bcells 512 (fl 64 G)) 34)).alloc (.cells (bcells 512 (fl 64 (fun _ _ => 0))) 34)); simpa using this
  have B1 : Blk W1 (w.heap.size + 1) 512 34 (fl 64 F) := by subst hwo; have := (((Blk.new (w.alloc (.cells (bcells 64 (m)) 23)) 512 34 (fl 64 F)).alloc (.cells (bcells 512 (fl 64 G)) 34)).alloc (.cells (bcells 512 (fl 64 (fun _ _ => 0))) 34)); simpa using this
  have B2 : Blk W1 (w.heap.size + 1 + 1) 512 34 (fl 64 G) := by subst hwo; have := ((Blk.new ((w.alloc (.cells (bcells 64 (m)) 23)).alloc (.cells (bcells 512 (fl 64 F)) 34)) 512 34 (fl 64 G)).alloc (.cells (bcells 512 (fl 64 (fun _ _ => 0))) 34)); simpa using this
  have B3 : Blk W1 (w.heap.size + 1 + 1 + 1) 512 34 (fl 64 (fun _ _ => 0)) := by subst hwo; have := (Blk.new (((w.alloc (.cells (bcells 64 (m)) 23)).alloc (.cells (bcells 512 (fl 64 F)) 34)).alloc (.cells (bcells 512 (fl 64 G)) 34)) 512 34 (fl 64 (fun _ _ => 0))); simpa using this
  have hb : Below w.heap.size w W1 := by subst hwo; exact (((((Below.refl _ _).alloc (Nat.le_refl _) _).alloc (by simp) _).alloc (by simp; omega) _).alloc (by simp; omega) _)
  rw [← hwo]
  clear hwo
  rcases ckS_two p m [F, G] with hc | hc
  · obtain ⟨n, rfl, hpr, lm, ⟨d, hmon, hd1, hd4⟩, hl⟩ := ckS_fld hc
    have hd := hmon.1
    have lF : ∀ i, i < 8 → ∀ j, j < 64 → F i j < n := fun i hi => (hl F (by simp) i hi).1
    have lG : ∀ i, i < 8 → rsd n m (G i) := fun i hi => hl G (by simp) i hi
    obtain ⟨a1, a2⟩ := skD_bounds F
    obtain ⟨b1, b2⟩ := skD_bounds G
    by_cases hs : skD F + skD G ≤ 7
    · have HV := Lib.hid (muV_0 hc hd hs)
      have HTI := Lib.hid (fun W => skTimes_any n m F G W hpr lm d hd hd1 (by omega) lF lG hs)
      have hsg : ¬ skD F + skD G > 7 := by omega
      go_upto_region 4 with (first | (refine wpList_load_any rfl 23 (.tmp 5) rfl _ rfl 64 23 _ B0 _ Try.underlying23 rfl Try.size23 ?_) | (refine wpList_load_any rfl 34 (.tmp 6) rfl _ rfl 512 34 _ B1 _ Try.underlying34 rfl Try.size34 ?_) | (refine wpList_load_any rfl 34 (.tmp 7) rfl _ rfl 512 34 _ B2 _ Try.underlying34 rfl Try.size34 ?_) | (refine wpList_build_sks rfl 127 _ [F, G] rfl 34 Try.underlying127 Try.elem34 (by simp) (by simp) rfl ?_; intro wa hps hba) | (go_at_call 94; refine (checkSkews_any _ m hm [F, G] (by simp [hF, hG]) (by simp) _ _ hps).mono ?_; rintro e W2 ⟨rfl, hbb⟩; rw [hc]))
      have hBB : Below W1.heap.size W1 W2 := hba.trans (hbb.mono hba.size)
      replace B0 := B0.below hBB B0.lt
      replace B1 := B1.below hBB B1.lt
      replace B2 := B2.below hBB B2.lt
      replace B3 := B3.below hBB B3.lt
      replace hb := hb.trans (hBB.mono hb.size)
      clear hBB hba hbb hps
      clear hc hl lF lG hmon
      have lt_B0 : (w.heap.size) < W2.heap.size := B0.lt
      have lt_B1 : (w.heap.size + 1) < W2.heap.size := B1.lt
      have lt_B2 : (w.heap.size + 1 + 1) < W2.heap.size := B2.lt
      have lt_B3 : (w.heap.size + 1 + 1 + 1) < W2.heap.size := B3.lt
      have hbase : w.heap.size ≤ W2.heap.size := hb.size
      refine wp_region_steps0 Try.mixed (by kernel_rfl) (by kernel_rfl) (fun v => by (simp only [frL, Act.put, List.setIfInBounds_toArray, List.set_cons_zero, List.set_cons_succ, Nat.reduceAdd, Nat.zero_add]; exact rfl))
        (fun L v W3 => Below w.heap.size w W3 ∧ W2.heap.size ≤ W3.heap.size ∧ Blk W3 (w.heap.size) 64 23 (m) ∧ Blk W3 (w.heap.size + 1) 512 34 (fl 64 F) ∧ Blk W3 (w.heap.size + 1 + 1) 512 34 (fl 64 G) ∧ Blk W3 (w.heap.size + 1 + 1 + 1) 512 34 (fl 64 (fun _ _ => 0)) ∧ (L 0 = true → v 0 = (.agg (bcells 512 (fl 64 F)))) ∧ (L 1 = true → v 1 = (.int .i64 (skD F))) ∧ (L 2 = true → v 2 = (.agg (bcells 512 (fl 64 G)))) ∧ (L 3 = true → v 3 = (.int .i64 (skD G))) ∧ (L 4 = true → v 4 = (.int .i64 (skD F + skD G))) ∧ (L 5 = true → v 5 = (.bool false))) ?_ ?_ ?_
      · intro v hv0
        exact ⟨hb.drew, Nat.le_refl _, B0.drew, B1.drew, B2.drew, B3.drew, (fun h => by cases h), (fun h => by cases h), (fun h => by cases h), (fun h => by cases h), (fun h => by cases h), (fun h => by cases h)⟩
      · refine (.cons rfl ?_ (.cons rfl ?_ (.cons rfl ?_ (.cons rfl ?_ (.cons rfl ?_ (.cons rfl ?_ (.nil _)))))))
        · intro L v W3 hd hn ⟨hB, hz, s0, s1, s2, s3, h0, h1, h2, h3, h4, h5⟩ K hK
          refine wp_load_any 34 _ rfl _ rfl 512 34 _ s1 _ Try.underlying34 rfl Try.size34 ?_
          exact hK _ _ _ rfl ⟨hB, hz, s0, s1, s2, s3, (fun _ => rfl), h1, h2, h3, h4, h5⟩
        · intro L v W3 hd hn ⟨hB, hz, s0, s1, s2, s3, h0, h1, h2, h3, h4, h5⟩ K hK
          have e0 := h0 (hd ⟨0, .data⟩ (by simp) rfl)
          go_wp2_with (go_at_call 97; refine (skDegree_any F _).mono ?_; rintro e wy ⟨rfl, hy⟩)
          exact hK _ (.int .i64 (skD F)) _ (by simp only [Act.put, List.setIfInBounds_toArray, List.set_cons_zero, List.set_cons_succ, e0]) ⟨hB.trans (hy.mono hB.size), (Nat.le_trans hz hy.size), (s0).below hy (s0).lt, (s1).below hy (s1).lt, (s2).below hy (s2).lt, (s3).below hy (s3).lt, h0, (fun _ => rfl), h2, h3, h4, h5⟩
        · intro L v W3 hd hn ⟨hB, hz, s0, s1, s2, s3, h0, h1, h2, h3, h4, h5⟩ K hK
          refine wp_load_any 34 _ rfl _ rfl 512 34 _ s2 _ Try.underlying34 rfl Try.size34 ?_
          exact hK _ _ _ rfl ⟨hB, hz, s0, s1, s2, s3, h0, h1, (fun _ => rfl), h3, h4, h5⟩
        · intro L v W3 hd hn ⟨hB, hz, s0, s1, s2, s3, h0, h1, h2, h3, h4, h5⟩ K hK
          have e2 := h2 (hd ⟨2, .data⟩ (by simp) rfl)
          go_wp2_with (go_at_call 97; refine (skDegree_any G _).mono ?_; rintro e wy ⟨rfl, hy⟩)
          exact hK _ (.int .i64 (skD G)) _ (by simp only [Act.put, List.setIfInBounds_toArray, List.set_cons_zero, List.set_cons_succ, e2]) ⟨hB.trans (hy.mono hB.size), (Nat.le_trans hz hy.size), (s0).below hy (s0).lt, (s1).below hy (s1).lt, (s2).below hy (s2).lt, (s3).below hy (s3).lt, h0, h1, h2, (fun _ => rfl), h4, h5⟩
        · intro L v W3 hd hn ⟨hB, hz, s0, s1, s2, s3, h0, h1, h2, h3, h4, h5⟩ K hK
          have e1 := h1 (hd ⟨1, .data⟩ (by simp) rfl)
          have e3 := h3 (hd ⟨3, .data⟩ (by simp) rfl)
          go_wp2_with fail
          exact hK _ (.int .i64 (skD F + skD G)) _ (by simp only [Act.put, List.setIfInBounds_toArray, List.set_cons_zero, List.set_cons_succ, e1, e3]) ⟨hB, hz, s0, s1, s2, s3, h0, h1, h2, h3, (fun _ => rfl), h5⟩
        · intro L v W3 hd hn ⟨hB, hz, s0, s1, s2, s3, h0, h1, h2, h3, h4, h5⟩ K hK
          have e4 := h4 (hd ⟨4, .data⟩ (by simp) rfl)
          go_wp2_with fail
          try rw [show decide (7 < skD F + skD G) = false by simp; omega]
          exact hK _ (.bool false) _ (by simp only [Act.put, List.setIfInBounds_toArray, List.set_cons_zero, List.set_cons_succ, e4]) ⟨hB, hz, s0, s1, s2, s3, h0, h1, h2, h3, h4, (fun _ => rfl)⟩
      · intro L v W3 hL ⟨hB, hz, s0, s1, s2, s3, h0, h1, h2, h3, h4, h5⟩
        have e0 := h0 (hL 0 (by decide))
        have e1 := h1 (hL 1 (by decide))
        have e2 := h2 (hL 2 (by decide))
        have e3 := h3 (hL 3 (by decide))
        have e4 := h4 (hL 4 (by decide))
        have e5 := h5 (hL 5 (by decide))
        clear hL h0 h1 h2 h3 h4 h5
        simp only [Exit.then, e0, e1, e2, e3, e4, e5]
        clear e0 e1 e2 e3 e4 e5
        clear B0
        have B0 := s0
        clear s0
        clear B1
        have B1 := s1
        clear s1
        clear B2
        have B2 := s2
        clear s2
        clear B3
        have B3 := s3
        clear s3
        clear hb
        have hb := hB
        clear hB
        clear hbase hz lt_B0 lt_B1 lt_B2 lt_B3
        go_upto_region 6 with (fail)
        have lt_B0 := B0.lt
        have lt_B1 := B1.lt
        have lt_B2 := B2.lt
        have lt_B3 := B3.lt
        go_wp2_with (first | rw [← zero64] | rw [← zero512] | (refine wpList_load_any rfl 34 (.tmp 6) rfl _ rfl 512 34 _ (B1) _ Try.underlying34 rfl Try.size34 ?_) | (refine wpList_load_any rfl 23 (.tmp 5) rfl _ rfl 64 23 _ (B0) _ Try.underlying23 rfl Try.size23 ?_) | (refine wpList_build_of rfl 83 _ rfl (fdC (n : Int) m).toArray (by rw [Array.toList_map]; exact built_fd (n : Int) m) ?_) | (refine wpList_load_any rfl 34 (.tmp 7) rfl _ rfl 512 34 _ (B2) _ Try.underlying34 rfl Try.size34 ?_) | (go_at_call 101; refine (HTI.out _).mono ?_; rintro e W4 ⟨rfl, hW4⟩; replace B0 := B0.below hW4 B0.lt; replace B1 := B1.below hW4 B1.lt; replace B2 := B2.below hW4 B2.lt; replace B3 := B3.below hW4 B3.lt; replace hb := (hb).trans (hW4.mono (hb).size)) | (refine wpList_store_blk rfl 34 (.tmp 8) (.tmp 33) rfl _ 512 (fl 64 (tmP n m d F G)) rfl rfl 34 _ (B3) Try.size34 ?_; try simp only [Act.put]; go_wp2_with fail))
        have qB0 : Blk (W4.setRow (w.heap.size + 1 + 1 + 1) (bcells 512 (fl 64 (tmP n m d F G)))) (w.heap.size) 64 23 (m) := (B0.rowOther (by omega))
        have qB1 : Blk (W4.setRow (w.heap.size + 1 + 1 + 1) (bcells 512 (fl 64 (tmP n m d F G)))) (w.heap.size + 1) 512 34 (fl 64 F) := (B1.rowOther (by omega))
        have qB2 : Blk (W4.setRow (w.heap.size + 1 + 1 + 1) (bcells 512 (fl 64 (tmP n m d F G)))) (w.heap.size + 1 + 1) 512 34 (fl 64 G) := (B2.rowOther (by omega))
        have qB3 : Blk (W4.setRow (w.heap.size + 1 + 1 + 1) (bcells 512 (fl 64 (tmP n m d F G)))) (w.heap.size + 1 + 1 + 1) 512 34 (fl 64 (tmP n m d F G)) := (B3.row (fl 64 (tmP n m d F G)))
        have qhb : Below w.heap.size w (W4.setRow (w.heap.size + 1 + 1 + 1) (bcells 512 (fl 64 (tmP n m d F G)))) := (below_row hb (by omega) _)
        obtain ⟨W5, hwo⟩ : ∃ v : World, v = (W4.setRow (w.heap.size + 1 + 1 + 1) (bcells 512 (fl 64 (tmP n m d F G)))) := ⟨_, rfl⟩
        rw [← hwo] at qB0 qB1 qB2 qB3 qhb ⊢
        clear hwo
        clear B0 B1 B2 B3 hb
        have B0 := qB0
        have B1 := qB1
        have B2 := qB2
        have B3 := qB3
        have hb := qhb
        clear qB0 qB1 qB2 qB3 qhb
        try simp only [Act.put, List.setIfInBounds_toArray, List.set_cons_zero, List.set_cons_succ]
        refine bodyPost_ret (results_anyt rfl _ _ _ 512 _ _ rfl B3 _ Try.underlying34 rfl Try.size34) rfl ⟨by first | (rw [HV.out]; rfl) | rw [HV.out], hb⟩
    · have HV := Lib.hid (muV_3 hc hs)
      have hsg : skD F + skD G > 7 := by omega
      go_upto_region 4 with (first | (refine wpList_load_any rfl 23 (.tmp 5) rfl _ rfl 64 23 _ B0 _ Try.underlying23 rfl Try.size23 ?_) | (refine wpList_load_any rfl 34 (.tmp 6) rfl _ rfl 512 34 _ B1 _ Try.underlying34 rfl Try.size34 ?_) | (refine wpList_load_any rfl 34 (.tmp 7) rfl _ rfl 512 34 _ B2 _ Try.underlying34 rfl Try.size34 ?_) | (refine wpList_build_sks rfl 127 _ [F, G] rfl 34 Try.underlying127 Try.elem34 (by simp) (by simp) rfl ?_; intro wa hps hba) | (go_at_call 94; refine (checkSkews_any _ m hm [F, G] (by simp [hF, hG]) (by simp) _ _ hps).mono ?_; rintro e W2 ⟨rfl, hbb⟩; rw [hc]))
      have hBB : Below W1.heap.size W1 W2 := hba.trans (hbb.mono hba.size)
      replace B0 := B0.below hBB B0.lt
      replace B1 := B1.below hBB B1.lt
      replace B2 := B2.below hBB B2.lt
      replace B3 := B3.below hBB B3.lt
      replace hb := hb.trans (hBB.mono hb.size)
      clear hBB hba hbb hps
      clear hc hl lF lG hmon
      have lt_B0 : (w.heap.size) < W2.heap.size := B0.lt
      have lt_B1 : (w.heap.size + 1) < W2.heap.size := B1.lt
      have lt_B2 : (w.heap.size + 1 + 1) < W2.heap.size := B2.lt
      have lt_B3 : (w.heap.size + 1 + 1 + 1) < W2.heap.size := B3.lt
      have hbase : w.heap.size ≤ W2.heap.size := hb.size
      refine wp_region_steps0 Try.mixed (by kernel_rfl) (by kernel_rfl) (fun v => by (simp only [frL, Act.put, List.setIfInBounds_toArray, List.set_cons_zero, List.set_cons_succ, Nat.reduceAdd, Nat.zero_add]; exact rfl))
        (fun L v W3 => Below w.heap.size w W3 ∧ W2.heap.size ≤ W3.heap.size ∧ Blk W3 (w.heap.size) 64 23 (m) ∧ Blk W3 (w.heap.size + 1) 512 34 (fl 64 F) ∧ Blk W3 (w.heap.size + 1 + 1) 512 34 (fl 64 G) ∧ Blk W3 (w.heap.size + 1 + 1 + 1) 512 34 (fl 64 (fun _ _ => 0)) ∧ (L 0 = true → v 0 = (.agg (bcells 512 (fl 64 F)))) ∧ (L 1 = true → v 1 = (.int .i64 (skD F))) ∧ (L 2 = true → v 2 = (.agg (bcells 512 (fl 64 G)))) ∧ (L 3 = true → v 3 = (.int .i64 (skD G))) ∧ (L 4 = true → v 4 = (.int .i64 (skD F + skD G))) ∧ (L 5 = true → v 5 = (.bool true))) ?_ ?_ ?_
      · intro v hv0
        exact ⟨hb.drew, Nat.le_refl _, B0.drew, B1.drew, B2.drew, B3.drew, (fun h => by cases h), (fun h => by cases h), (fun h => by cases h), (fun h => by cases h), (fun h => by cases h), (fun h => by cases h)⟩
      · refine (.cons rfl ?_ (.cons rfl ?_ (.cons rfl ?_ (.cons rfl ?_ (.cons rfl ?_ (.cons rfl ?_ (.nil _)))))))
        · intro L v W3 hd hn ⟨hB, hz, s0, s1, s2, s3, h0, h1, h2, h3, h4, h5⟩ K hK
          refine wp_load_any 34 _ rfl _ rfl 512 34 _ s1 _ Try.underlying34 rfl Try.size34 ?_
          exact hK _ _ _ rfl ⟨hB, hz, s0, s1, s2, s3, (fun _ => rfl), h1, h2, h3, h4, h5⟩
        · intro L v W3 hd hn ⟨hB, hz, s0, s1, s2, s3, h0, h1, h2, h3, h4, h5⟩ K hK
          have e0 := h0 (hd ⟨0, .data⟩ (by simp) rfl)
          go_wp2_with (go_at_call 97; refine (skDegree_any F _).mono ?_; rintro e wy ⟨rfl, hy⟩)
          exact hK _ (.int .i64 (skD F)) _ (by simp only [Act.put, List.setIfInBounds_toArray, List.set_cons_zero, List.set_cons_succ, e0]) ⟨hB.trans (hy.mono hB.size), (Nat.le_trans hz hy.size), (s0).below hy (s0).lt, (s1).below hy (s1).lt, (s2).below hy (s2).lt, (s3).below hy (s3).lt, h0, (fun _ => rfl), h2, h3, h4, h5⟩
        · intro L v W3 hd hn ⟨hB, hz, s0, s1, s2, s3, h0, h1, h2, h3, h4, h5⟩ K hK
          refine wp_load_any 34 _ rfl _ rfl 512 34 _ s2 _ Try.underlying34 rfl Try.size34 ?_
          exact hK _ _ _ rfl ⟨hB, hz, s0, s1, s2, s3, h0, h1, (fun _ => rfl), h3, h4, h5⟩
        · intro L v W3 hd hn ⟨hB, hz, s0, s1, s2, s3, h0, h1, h2, h3, h4, h5⟩ K hK
          have e2 := h2 (hd ⟨2, .data⟩ (by simp) rfl)
          go_wp2_with (go_at_call 97; refine (skDegree_any G _).mono ?_; rintro e wy ⟨rfl, hy⟩)
          exact hK _ (.int .i64 (skD G)) _ (by simp only [Act.put, List.setIfInBounds_toArray, List.set_cons_zero, List.set_cons_succ, e2]) ⟨hB.trans (hy.mono hB.size), (Nat.le_trans hz hy.size), (s0).below hy (s0).lt, (s1).below hy (s1).lt, (s2).below hy (s2).lt, (s3).below hy (s3).lt, h0, h1, h2, (fun _ => rfl), h4, h5⟩
        · intro L v W3 hd hn ⟨hB, hz, s0, s1, s2, s3, h0, h1, h2, h3, h4, h5⟩ K hK
          have e1 := h1 (hd ⟨1, .data⟩ (by simp) rfl)
          have e3 := h3 (hd ⟨3, .data⟩ (by simp) rfl)
          go_wp2_with fail
          exact hK _ (.int .i64 (skD F + skD G)) _ (by simp only [Act.put, List.setIfInBounds_toArray, List.set_cons_zero, List.set_cons_succ, e1, e3]) ⟨hB, hz, s0, s1, s2, s3, h0, h1, h2, h3, (fun _ => rfl), h5⟩
        · intro L v W3 hd hn ⟨hB, hz, s0, s1, s2, s3, h0, h1, h2, h3, h4, h5⟩ K hK
          have e4 := h4 (hd ⟨4, .data⟩ (by simp) rfl)
          go_wp2_with fail
          try rw [show decide (7 < skD F + skD G) = true by simp; omega]
          exact hK _ (.bool true) _ (by simp only [Act.put, List.setIfInBounds_toArray, List.set_cons_zero, List.set_cons_succ, e4]) ⟨hB, hz, s0, s1, s2, s3, h0, h1, h2, h3, h4, (fun _ => rfl)⟩
      · intro L v W3 hL ⟨hB, hz, s0, s1, s2, s3, h0, h1, h2, h3, h4, h5⟩
        have e0 := h0 (hL 0 (by decide))
        have e1 := h1 (hL 1 (by decide))
        have e2 := h2 (hL 2 (by decide))
        have e3 := h3 (hL 3 (by decide))
        have e4 := h4 (hL 4 (by decide))
        have e5 := h5 (hL 5 (by decide))
        clear hL h0 h1 h2 h3 h4 h5
        simp only [Exit.then, e0, e1, e2, e3, e4, e5]
        clear e0 e1 e2 e3 e4 e5
        clear B0
        have B0 := s0
        clear s0
        clear B1
        have B1 := s1
        clear s1
        clear B2
        have B2 := s2
        clear s2
        clear B3
        have B3 := s3
        clear s3
        clear hb
        have hb := hB
        clear hB
        clear hbase hz lt_B0 lt_B1 lt_B2 lt_B3
        go_upto_region 5 with (fail)
        have lt_B0 := B0.lt
        have lt_B1 := B1.lt
        have lt_B2 := B2.lt
        have lt_B3 := B3.lt
        go_wp2_with (first | rw [← zero64] | rw [← zero512] | (refine wpList_store_blk rfl 34 (.tmp 8) (.tmp 27) rfl _ 512 (fl 64 (fun _ _ => 0)) rfl rfl 34 _ (B3) Try.size34 ?_; try simp only [Act.put]; go_wp2_with fail))
        have qB0 : Blk (W3.setRow (w.heap.size + 1 + 1 + 1) (bcells 512 (fl 64 (fun _ _ => 0)))) (w.heap.size) 64 23 (m) := (B0.rowOther (by omega))
        have qB1 : Blk (W3.setRow (w.heap.size + 1 + 1 + 1) (bcells 512 (fl 64 (fun _ _ => 0)))) (w.heap.size + 1) 512 34 (fl 64 F) := (B1.rowOther (by omega))
        have qB2 : Blk (W3.setRow (w.heap.size + 1 + 1 + 1) (bcells 512 (fl 64 (fun _ _ => 0)))) (w.heap.size + 1 + 1) 512 34 (fl 64 G) := (B2.rowOther (by omega))
        have qB3 : Blk (W3.setRow (w.heap.size + 1 + 1 + 1) (bcells 512 (fl 64 (fun _ _ => 0)))) (w.heap.size + 1 + 1 + 1) 512 34 (fl 64 (fun _ _ => 0)) := (B3.row (fl 64 (fun _ _ => 0)))
        have qhb : Below w.heap.size w (W3.setRow (w.heap.size + 1 + 1 + 1) (bcells 512 (fl 64 (fun _ _ => 0)))) := (below_row hb (by omega) _)
        obtain ⟨W4, hwo⟩ : ∃ v : World, v = (W3.setRow (w.heap.size + 1 + 1 + 1) (bcells 512 (fl 64 (fun _ _ => 0)))) := ⟨_, rfl⟩
        rw [← hwo] at qB0 qB1 qB2 qB3 qhb ⊢
        clear hwo
        clear B0 B1 B2 B3 hb
        have B0 := qB0
        have B1 := qB1
        have B2 := qB2
        have B3 := qB3
        have hb := qhb
        clear qB0 qB1 qB2 qB3 qhb
        try simp only [Act.put, List.setIfInBounds_toArray, List.set_cons_zero, List.set_cons_succ]
        refine bodyPost_ret (results_anyt rfl _ _ _ 512 _ _ rfl B3 _ Try.underlying34 rfl Try.size34) rfl ⟨by first | (rw [HV.out]; rfl) | rw [HV.out], hb⟩
  · have HV := Lib.hid (muV_1 hc)
    go_upto_region 3 with (first | (refine wpList_load_any rfl 23 (.tmp 5) rfl _ rfl 64 23 _ B0 _ Try.underlying23 rfl Try.size23 ?_) | (refine wpList_load_any rfl 34 (.tmp 6) rfl _ rfl 512 34 _ B1 _ Try.underlying34 rfl Try.size34 ?_) | (refine wpList_load_any rfl 34 (.tmp 7) rfl _ rfl 512 34 _ B2 _ Try.underlying34 rfl Try.size34 ?_) | (refine wpList_build_sks rfl 127 _ [F, G] rfl 34 Try.underlying127 Try.elem34 (by simp) (by simp) rfl ?_; intro wa hps hba) | (go_at_call 94; refine (checkSkews_any _ m hm [F, G] (by simp [hF, hG]) (by simp) _ _ hps).mono ?_; rintro e W2 ⟨rfl, hbb⟩; rw [hc]))
    have hBB : Below W1.heap.size W1 W2 := hba.trans (hbb.mono hba.size)
    replace B0 := B0.below hBB B0.lt
    replace B1 := B1.below hBB B1.lt
    replace B2 := B2.below hBB B2.lt
    replace B3 := B3.below hBB B3.lt
    replace hb := hb.trans (hBB.mono hb.size)
    clear hBB hba hbb hps
    clear hc
    have lt_B0 := B0.lt
    have lt_B1 := B1.lt
    have lt_B2 := B2.lt
    have lt_B3 := B3.lt
    go_wp2_with (first | rw [← zero64] | rw [← zero512] | (refine wpList_store_blk rfl 34 (.tmp 8) (.tmp 19) rfl _ 512 (fl 64 (fun _ _ => 0)) rfl rfl 34 _ (B3) Try.size34 ?_; try simp only [Act.put]; go_wp2_with fail))
    have qB0 : Blk (W2.setRow (w.heap.size + 1 + 1 + 1) (bcells 512 (fl 64 (fun _ _ => 0)))) (w.heap.size) 64 23 (m) := (B0.rowOther (by omega))
    have qB1 : Blk (W2.setRow (w.heap.size + 1 + 1 + 1) (bcells 512 (fl 64 (fun _ _ => 0)))) (w.heap.size + 1) 512 34 (fl 64 F) := (B1.rowOther (by omega))
    have qB2 : Blk (W2.setRow (w.heap.size + 1 + 1 + 1) (bcells 512 (fl 64 (fun _ _ => 0)))) (w.heap.size + 1 + 1) 512 34 (fl 64 G) := (B2.rowOther (by omega))
    have qB3 : Blk (W2.setRow (w.heap.size + 1 + 1 + 1) (bcells 512 (fl 64 (fun _ _ => 0)))) (w.heap.size + 1 + 1 + 1) 512 34 (fl 64 (fun _ _ => 0)) := (B3.row (fl 64 (fun _ _ => 0)))
    have qhb : Below w.heap.size w (W2.setRow (w.heap.size + 1 + 1 + 1) (bcells 512 (fl 64 (fun _ _ => 0)))) := (below_row hb (by omega) _)
    obtain ⟨W3, hwo⟩ : ∃ v : World, v = (W2.setRow (w.heap.size + 1 + 1 + 1) (bcells 512 (fl 64 (fun _ _ => 0)))) := ⟨_, rfl⟩
    rw [← hwo] at qB0 qB1 qB2 qB3 qhb ⊢
    clear hwo
    clear B0 B1 B2 B3 hb
    have B0 := qB0
    have B1 := qB1
    have B2 := qB2
    have B3 := qB3
    have hb := qhb
    clear qB0 qB1 qB2 qB3 qhb
    try simp only [Act.put, List.setIfInBounds_toArray, List.set_cons_zero, List.set_cons_succ]
    refine bodyPost_ret (results_anyt rfl _ _ _ 512 _ _ rfl B3 _ Try.underlying34 rfl Try.size34) rfl ⟨by first | (rw [HV.out]; rfl) | rw [HV.out], hb⟩
end Go.Proofs.Ytbjpkmbhbpcbgaa
end
section
namespace Go.Proofs.Ytbjpkmbhbpcbgaa
open Go Go.RowKit
set_option linter.unusedVariables false
set_option linter.unusedSimpArgs false
set_option maxRecDepth 100000 in
set_option maxHeartbeats 1600000 in
theorem FnExactMultiplySkews_walk (p : Int) (m : Nat → Nat) (F : Nat → Nat → Nat) (G : Nat → Nat → Nat) (hm : byte m) (hF : ∀ i, byte (F i)) (hG : ∀ i, byte (G i)) (w : World) :
    Calls Try.prog 8 #[.int .i64 p, .agg (bcells 64 m), .agg (bcells 512 (fl 64 F)), .agg (bcells 512 (fl 64 G))] w fun e w' => e = .returned (.bool true) ∧ Below w.heap.size w w' := by
  go_enter Try.func8, Try.ntmps8
  go_upto_region 1 with (fail)
  obtain ⟨W1, hwo⟩ : ∃ v : World, v = (((w.alloc (.cells (bcells 64 (m)) 22)).alloc (.cells (bcells 512 (fl 64 F)) 31)).alloc (.cells (bcells 512 (fl 64 G)) 31)) := ⟨_, rfl⟩
  have B0 : Blk W1 (w.heap.size) 64 22 (m) := by subst hwo; have := (((Blk.new w 64 22 (m)).alloc (.cells (bcells 512 (fl 64 F)) 31)).alloc (.cells (bcells 512 (fl 64 G)) 31)); simpa using this
  have B1 : Blk W1 (w.heap.size + 1) 512 31 (fl 64 F) := by subst hwo; have := ((Blk.new (w.alloc (.cells (bcells 64 (m)) 22)) 512 31 (fl 64 F)).alloc (.cells (bcells 512 (fl 64 G)) 31)); simpa using this
  have B2 : Blk W1 (w.heap.size + 1 + 1) 512 31 (fl 64 G) := by subst hwo; have := (Blk.new ((w.alloc (.cells (bcells 64 (m)) 22)).alloc (.cells (bcells 512 (fl 64 F)) 31)) 512 31 (fl 64 G)); simpa using this
  have hb : Below w.heap.size w W1 := by subst hwo; exact ((((Below.refl _ _).alloc (Nat.le_refl _) _).alloc (by simp) _).alloc (by simp; omega) _)
  rw [← hwo]
  clear hwo
  have hne1 : (((muV p m F G).2) != ((muV p m F G).2)) = false := by simp
  have lt_B0 : (w.heap.size) < W1.heap.size := B0.lt
  have lt_B1 : (w.heap.size + 1) < W1.heap.size := B1.lt
  have lt_B2 : (w.heap.size + 1 + 1) < W1.heap.size := B2.lt
  have hbase : w.heap.size ≤ W1.heap.size := hb.size
  refine wp_region_steps0 Try.mixed (by kernel_rfl) (by kernel_rfl) (fun v => by (simp only [frL, Act.put, List.setIfInBounds_toArray, List.set_cons_zero, List.set_cons_succ, Nat.reduceAdd, Nat.zero_add]; exact rfl))
    (fun L v W2 => Below w.heap.size w W2 ∧ W1.heap.size ≤ W2.heap.size ∧ Blk W2 (w.heap.size) 64 22 (m) ∧ Blk W2 (w.heap.size + 1) 512 31 (fl 64 F) ∧ Blk W2 (w.heap.size + 1 + 1) 512 31 (fl 64 G) ∧ (L 0 = true → v 0 = (.int .i64 p)) ∧ (L 1 = true → v 1 = (.agg (bcells 64 (m)))) ∧ (L 2 = true → v 2 = (.agg (bcells 64 (m)))) ∧ (L 3 = true → v 3 = (.agg (bcells 512 (fl 64 F)))) ∧ (L 4 = true → v 4 = (.agg (bcells 512 (fl 64 F)))) ∧ (L 5 = true → v 5 = (.agg (bcells 512 (fl 64 G)))) ∧ (L 6 = true → v 6 = (.agg (bcells 512 (fl 64 G)))) ∧ (L 7 = true → v 7 = (.tuple #[(.agg (bcells 512 (fl 64 ((muV p m F G).1)))), (.int .i64 ((muV p m F G).2))])) ∧ (L 8 = true → v 8 = (.tuple #[(.agg (bcells 512 (fl 64 ((muV p m F G).1)))), (.int .i64 ((muV p m F G).2))])) ∧ (L 9 = true → v 9 = (.agg (bcells 512 (fl 64 ((muV p m F G).1))))) ∧ (L 10 = true → v 10 = (.int .i64 ((muV p m F G).2))) ∧ (L 11 = true → AF (v 11) W2 W1.heap.size 512 34) ∧ (L 12 = true → PF (v 11) W2 W1.heap.size 512 34 (fl 64 ((muV p m F G).1))) ∧ (L 13 = true → v 13 = (.int .i64 ((muV p m F G).2)))) ?_ ?_ ?_
  · intro v hv0
    exact ⟨hb.drew, Nat.le_refl _, B0.drew, B1.drew, B2.drew, (fun h => by cases h), (fun h => by cases h), (fun h => by cases h), (fun h => by cases h), (fun h => by cases h), (fun h => by cases h), (fun h => by cases h), (fun h => by cases h), (fun h => by cases h), (fun h => by cases h), (fun h => by cases h), (fun h => by cases h), (fun h => by cases h), (fun h => by cases h)⟩
  · refine (.cons rfl ?_ (.cons rfl ?_ (.cons rfl ?_ (.cons rfl ?_ (.cons rfl ?_ (.cons rfl ?_ (.cons rfl ?_ (.cons rfl ?_ (.cons rfl ?_ (.cons rfl ?_ (.cons rfl ?_ (.cons rfl ?_ (.cons rfl ?_ (.cons rfl ?_ (.nil _)))))))))))))))
    · intro L v W2 hd hn ⟨hB, hz, s0, s1, s2, h0, h1, h2, h3, h4, h5, h6, h7, h8, h9, h10, h11, h12, h13⟩ K hK
      go_wp2_with fail
      exact hK _ (.int .i64 p) _ (by simp only [Act.put, List.setIfInBounds_toArray, List.set_cons_zero, List.set_cons_succ ]) ⟨hB, hz, s0, s1, s2, (fun _ => rfl), h1, h2, h3, h4, h5, h6, h7, h8, h9, h10, h11, h12, h13⟩
    · intro L v W2 hd hn ⟨hB, hz, s0, s1, s2, h0, h1, h2, h3, h4, h5, h6, h7, h8, h9, h10, h11, h12, h13⟩ K hK
      refine wp_load_any 22 _ rfl _ rfl 64 22 _ s0 _ Try.underlying22 rfl Try.size22 ?_
      exact hK _ _ _ rfl ⟨hB, hz, s0, s1, s2, h0, (fun _ => rfl), h2, h3, h4, h5, h6, h7, h8, h9, h10, h11, h12, h13⟩
    · intro L v W2 hd hn ⟨hB, hz, s0, s1, s2, h0, h1, h2, h3, h4, h5, h6, h7, h8, h9, h10, h11, h12, h13⟩ K hK
      have e1 := h1 (hd ⟨1, .data⟩ (by simp) rfl)
      go_wp2_with (go_at_call 24; refine (toPoly_any m hm _).mono ?_; rintro e wy ⟨rfl, hy⟩)
      exact hK _ (.agg (bcells 64 (m))) _ (by simp only [Act.put, List.setIfInBounds_toArray, List.set_cons_zero, List.set_cons_succ, e1]) ⟨hB.trans (hy.mono hB.size), (Nat.le_trans hz hy.size), (s0).below hy (s0).lt, (s1).below hy (s1).lt, (s2).below hy (s2).lt, h0, h1, (fun _ => rfl), h3, h4, h5, h6, h7, h8, h9, h10, (fun h => (h11 h).below hy), (fun h => (h12 h).below hy), h13⟩
    · intro L v W2 hd hn ⟨hB, hz, s0, s1, s2, h0, h1, h2, h3, h4, h5, h6, h7, h8, h9, h10, h11, h12, h13⟩ K hK
      refine wp_load_any 31 _ rfl _ rfl 512 31 _ s1 _ Try.underlying31 rfl Try.size31 ?_
      exact hK _ _ _ rfl ⟨hB, hz, s0, s1, s2, h0, h1, h2, (fun _ => rfl), h4, h5, h6, h7, h8, h9, h10, h11, h12, h13⟩
    · intro L v W2 hd hn ⟨hB, hz, s0, s1, s2, h0, h1, h2, h3, h4, h5, h6, h7, h8, h9, h10, h11, h12, h13⟩ K hK
      have e3 := h3 (hd ⟨3, .data⟩ (by simp) rfl)
      go_wp2_with (go_at_call 30; refine (toSkew_any F hF _).mono ?_; rintro e wy ⟨rfl, hy⟩)
      exact hK _ (.agg (bcells 512 (fl 64 F))) _ (by simp only [Act.put, List.setIfInBounds_toArray, List.set_cons_zero, List.set_cons_succ, e3]) ⟨hB.trans (hy.mono hB.size), (Nat.le_trans hz hy.size), (s0).below hy (s0).lt, (s1).below hy (s1).lt, (s2).below hy (s2).lt, h0, h1, h2, h3, (fun _ => rfl), h5, h6, h7, h8, h9, h10, (fun h => (h11 h).below hy), (fun h => (h12 h).below hy), h13⟩
    · intro L v W2 hd hn ⟨hB, hz, s0, s1, s2, h0, h1, h2, h3, h4, h5, h6, h7, h8, h9, h10, h11, h12, h13⟩ K hK
      refine wp_load_any 31 _ rfl _ rfl 512 31 _ s2 _ Try.underlying31 rfl Try.size31 ?_
      exact hK _ _ _ rfl ⟨hB, hz, s0, s1, s2, h0, h1, h2, h3, h4, (fun _ => rfl), h6, h7, h8, h9, h10, h11, h12, h13⟩
    · intro L v W2 hd hn ⟨hB, hz, s0, s1, s2, h0, h1, h2, h3, h4, h5, h6, h7, h8, h9, h10, h11, h12, h13⟩ K hK
      have e5 := h5 (hd ⟨5, .data⟩ (by simp) rfl)
      go_wp2_with (go_at_call 30; refine (toSkew_any G hG _).mono ?_; rintro e wy ⟨rfl, hy⟩)
      exact hK _ (.agg (bcells 512 (fl 64 G))) _ (by simp only [Act.put, List.setIfInBounds_toArray, List.set_cons_zero, List.set_cons_succ, e5]) ⟨hB.trans (hy.mono hB.size), (Nat.le_trans hz hy.size), (s0).below hy (s0).lt, (s1).below hy (s1).lt, (s2).below hy (s2).lt, h0, h1, h2, h3, h4, h5, (fun _ => rfl), h7, h8, h9, h10, (fun h => (h11 h).below hy), (fun h => (h12 h).below hy), h13⟩
    · intro L v W2 hd hn ⟨hB, hz, s0, s1, s2, h0, h1, h2, h3, h4, h5, h6, h7, h8, h9, h10, h11, h12, h13⟩ K hK
      have e0 := h0 (hd ⟨0, .data⟩ (by simp) rfl)
      have e2 := h2 (hd ⟨2, .data⟩ (by simp) rfl)
      have e4 := h4 (hd ⟨4, .data⟩ (by simp) rfl)
      have e6 := h6 (hd ⟨6, .data⟩ (by simp) rfl)
      go_wp2_with (go_at_call 37; refine (spec_MultiplySkews_any p m F G hm hF hG _).mono ?_; rintro e wy ⟨rfl, hy⟩)
      exact hK _ (.tuple #[(.agg (bcells 512 (fl 64 ((muV p m F G).1)))), (.int .i64 ((muV p m F G).2))]) _ (by simp only [Act.put, List.setIfInBounds_toArray, List.set_cons_zero, List.set_cons_succ, e0, e2, e4, e6]) ⟨hB.trans (hy.mono hB.size), (Nat.le_trans hz hy.size), (s0).below hy (s0).lt, (s1).below hy (s1).lt, (s2).below hy (s2).lt, h0, h1, h2, h3, h4, h5, h6, (fun _ => rfl), h8, h9, h10, (fun h => (h11 h).below hy), (fun h => (h12 h).below hy), h13⟩
    · intro L v W2 hd hn ⟨hB, hz, s0, s1, s2, h0, h1, h2, h3, h4, h5, h6, h7, h8, h9, h10, h11, h12, h13⟩ K hK
      have e7 := h7 (hd ⟨7, .data⟩ (by simp) rfl)
      go_wp2_with fail
      exact hK _ (.tuple #[(.agg (bcells 512 (fl 64 ((muV p m F G).1)))), (.int .i64 ((muV p m F G).2))]) _ (by simp only [Act.put, List.setIfInBounds_toArray, List.set_cons_zero, List.set_cons_succ, e7]) ⟨hB, hz, s0, s1, s2, h0, h1, h2, h3, h4, h5, h6, h7, (fun _ => rfl), h9, h10, h11, h12, h13⟩
    · intro L v W2 hd hn ⟨hB, hz, s0, s1, s2, h0, h1, h2, h3, h4, h5, h6, h7, h8, h9, h10, h11, h12, h13⟩ K hK
      have e8 := h8 (hd ⟨8, .data⟩ (by simp) rfl)
      go_wp2_with fail
      exact hK _ (.agg (bcells 512 (fl 64 ((muV p m F G).1)))) _ (by simp only [Act.put, List.setIfInBounds_toArray, List.set_cons_zero, List.set_cons_succ, e8]) ⟨hB, hz, s0, s1, s2, h0, h1, h2, h3, h4, h5, h6, h7, h8, (fun _ => rfl), h10, h11, h12, h13⟩
    · intro L v W2 hd hn ⟨hB, hz, s0, s1, s2, h0, h1, h2, h3, h4, h5, h6, h7, h8, h9, h10, h11, h12, h13⟩ K hK
      have e8 := h8 (hd ⟨8, .data⟩ (by simp) rfl)
      go_wp2_with fail
      exact hK _ (.int .i64 ((muV p m F G).2)) _ (by simp only [Act.put, List.setIfInBounds_toArray, List.set_cons_zero, List.set_cons_succ, e8]) ⟨hB, hz, s0, s1, s2, h0, h1, h2, h3, h4, h5, h6, h7, h8, h9, (fun _ => rfl), h11, h12, h13⟩
    · intro L v W2 hd hn ⟨hB, hz, s0, s1, s2, h0, h1, h2, h3, h4, h5, h6, h7, h8, h9, h10, h11, h12, h13⟩ K hK
      go_wp2_with fail
      rw [← zero512]
      exact hK _ (.pointer (some ⟨W2.heap.size, 0, none⟩)) _ (by simp only [Act.put, List.setIfInBounds_toArray, List.set_cons_zero, List.set_cons_succ ]) ⟨hB.alloc hB.size _, (by simp; omega), (s0).alloc _, (s1).alloc _, (s2).alloc _, h0, h1, h2, h3, h4, h5, h6, h7, h8, h9, h10, (fun _ => (PF.new W2 512 34 _ hz).af), (fun h => absurd rfl (hn 12 _ rfl h ⟨11, .data⟩ (by simp) rfl)), h13⟩
    · intro L v W2 hd hn ⟨hB, hz, s0, s1, s2, h0, h1, h2, h3, h4, h5, h6, h7, h8, h9, h10, h11, h12, h13⟩ K hK
      have e9 := h9 (hd ⟨9, .data⟩ (by simp) rfl)
      obtain ⟨gz, b, ea, hN, hk⟩ := (h11 (hd ⟨11, .data⟩ (by simp) rfl)).out
      refine wp_store_blk 34 _ _ rfl b 512 (fl 64 ((muV p m F G).1)) ea e9 34 gz hk Try.size34 ?_
      exact hK _ undef _ rfl ⟨below_row hB (Nat.le_trans hbase hN) _, (by simpa [World.setRow] using hz), (s0).rowOther (by omega), (s1).rowOther (by omega), (s2).rowOther (by omega), h0, h1, h2, h3, h4, h5, h6, h7, h8, h9, h10, (fun h => (h11 h).row hk), (fun _ => by rw [show updV v 12 undef 11 = v 11 from rfl, ea]; exact PF.row hk hN _), h13⟩
    · intro L v W2 hd hn ⟨hB, hz, s0, s1, s2, h0, h1, h2, h3, h4, h5, h6, h7, h8, h9, h10, h11, h12, h13⟩ K hK
      have e10 := h10 (hd ⟨10, .data⟩ (by simp) rfl)
      go_wp2_with fail
      exact hK _ (.int .i64 ((muV p m F G).2)) _ (by simp only [Act.put, List.setIfInBounds_toArray, List.set_cons_zero, List.set_cons_succ, e10]) ⟨hB, hz, s0, s1, s2, h0, h1, h2, h3, h4, h5, h6, h7, h8, h9, h10, h11, h12, (fun _ => rfl)⟩
  · intro L v W2 hL ⟨hB, hz, s0, s1, s2, h0, h1, h2, h3, h4, h5, h6, h7, h8, h9, h10, h11, h12, h13⟩
    have e0 := h0 (hL 0 (by decide))
    have e1 := h1 (hL 1 (by decide))
    have e2 := h2 (hL 2 (by decide))
    have e3 := h3 (hL 3 (by decide))
    have e4 := h4 (hL 4 (by decide))
    have e5 := h5 (hL 5 (by decide))
    have e6 := h6 (hL 6 (by decide))
    have e7 := h7 (hL 7 (by decide))
    have e8 := h8 (hL 8 (by decide))
    have e9 := h9 (hL 9 (by decide))
    have e10 := h10 (hL 10 (by decide))
    obtain ⟨k1_11, e11, hNk1_11, hk1_11⟩ := (h12 (hL 12 (by decide))).out
    have e13 := h13 (hL 13 (by decide))
    clear hL h0 h1 h2 h3 h4 h5 h6 h7 h8 h9 h10 h11 h12 h13
    simp only [Exit.then, e0, e1, e2, e3, e4, e5, e6, e7, e8, e9, e10, e11, e13]
    clear e0 e1 e2 e3 e4 e5 e6 e7 e8 e9 e10 e11 e13
    clear B0
    have B0 := s0
    clear s0
    clear B1
    have B1 := s1
    clear s1
    clear B2
    have B2 := s2
    clear s2
    clear hb
    have hb := hB
    clear hB
    have B3 := hk1_11
    clear hk1_11
    have zk1_11_0 : w.heap.size < k1_11 := by omega
    have zk1_11_1 : w.heap.size + 1 < k1_11 := by omega
    have zk1_11_2 : w.heap.size + 1 + 1 < k1_11 := by omega
    clear hbase hz lt_B0 lt_B1 lt_B2
    go_upto_region 2 with (fail)
    have lt_B0 : (w.heap.size) < W2.heap.size := B0.lt
    have lt_B1 : (w.heap.size + 1) < W2.heap.size := B1.lt
    have lt_B2 : (w.heap.size + 1 + 1) < W2.heap.size := B2.lt
    have lt_B3 : (k1_11) < W2.heap.size := B3.lt
    have hbase : w.heap.size ≤ W2.heap.size := hb.size
    refine wp_region_steps0 Try.mixed (by kernel_rfl) (by kernel_rfl) (fun v => by (simp only [frL, Act.put, List.setIfInBounds_toArray, List.set_cons_zero, List.set_cons_succ, Nat.reduceAdd, Nat.zero_add]; exact rfl))
      (fun L v W3 => Below w.heap.size w W3 ∧ W2.heap.size ≤ W3.heap.size ∧ Blk W3 (w.heap.size) 64 22 (m) ∧ Blk W3 (w.heap.size + 1) 512 31 (fl 64 F) ∧ Blk W3 (w.heap.size + 1 + 1) 512 31 (fl 64 G) ∧ Blk W3 (k1_11) 512 34 (fl 64 ((muV p m F G).1)) ∧ (L 0 = true → v 0 = (.int .i64 p)) ∧ (L 1 = true → v 1 = (.agg (bcells 64 (m)))) ∧ (L 2 = true → v 2 = (.agg (bcells 64 (m)))) ∧ (L 3 = true → v 3 = (.agg (bcells 512 (fl 64 F)))) ∧ (L 4 = true → v 4 = (.agg (bcells 512 (fl 64 F)))) ∧ (L 5 = true → v 5 = (.agg (bcells 512 (fl 64 G)))) ∧ (L 6 = true → v 6 = (.agg (bcells 512 (fl 64 G)))) ∧ (L 7 = true → v 7 = (.tuple #[(.agg (bcells 512 (fl 64 ((muV p m F G).1)))), (.int .i64 ((muV p m F G).2))])) ∧ (L 8 = true → v 8 = (.tuple #[(.agg (bcells 512 (fl 64 ((muV p m F G).1)))), (.int .i64 ((muV p m F G).2))])) ∧ (L 9 = true → v 9 = (.agg (bcells 512 (fl 64 ((muV p m F G).1))))) ∧ (L 10 = true → v 10 = (.int .i64 ((muV p m F G).2))) ∧ (L 11 = true → AF (v 11) W3 W2.heap.size 512 34) ∧ (L 12 = true → PF (v 11) W3 W2.heap.size 512 34 (fl 64 ((muV p m F G).1))) ∧ (L 13 = true → v 13 = (.int .i64 ((muV p m F G).2)))) ?_ ?_ ?_
    · intro v hv0
      exact ⟨hb.drew, Nat.le_refl _, B0.drew, B1.drew, B2.drew, B3.drew, (fun h => by cases h), (fun h => by cases h), (fun h => by cases h), (fun h => by cases h), (fun h => by cases h), (fun h => by cases h), (fun h => by cases h), (fun h => by cases h), (fun h => by cases h), (fun h => by cases h), (fun h => by cases h), (fun h => by cases h), (fun h => by cases h), (fun h => by cases h)⟩
    · refine (.cons rfl ?_ (.cons rfl ?_ (.cons rfl ?_ (.cons rfl ?_ (.cons rfl ?_ (.cons rfl ?_ (.cons rfl ?_ (.cons rfl ?_ (.cons rfl ?_ (.cons rfl ?_ (.cons rfl ?_ (.cons rfl ?_ (.cons rfl ?_ (.cons rfl ?_ (.nil _)))))))))))))))
      · intro L v W3 hd hn ⟨hB, hz, s0, s1, s2, s3, h0, h1, h2, h3, h4, h5, h6, h7, h8, h9, h10, h11, h12, h13⟩ K hK
        go_wp2_with fail
        exact hK _ (.int .i64 p) _ (by simp only [Act.put, List.setIfInBounds_toArray, List.set_cons_zero, List.set_cons_succ ]) ⟨hB, hz, s0, s1, s2, s3, (fun _ => rfl), h1, h2, h3, h4, h5, h6, h7, h8, h9, h10, h11, h12, h13⟩
      · intro L v W3 hd hn ⟨hB, hz, s0, s1, s2, s3, h0, h1, h2, h3, h4, h5, h6, h7, h8, h9, h10, h11, h12, h13⟩ K hK
        refine wp_load_any 22 _ rfl _ rfl 64 22 _ s0 _ Try.underlying22 rfl Try.size22 ?_
        exact hK _ _ _ rfl ⟨hB, hz, s0, s1, s2, s3, h0, (fun _ => rfl), h2, h3, h4, h5, h6, h7, h8, h9, h10, h11, h12, h13⟩
      · intro L v W3 hd hn ⟨hB, hz, s0, s1, s2, s3, h0, h1, h2, h3, h4, h5, h6, h7, h8, h9, h10, h11, h12, h13⟩ K hK
        have e1 := h1 (hd ⟨1, .data⟩ (by simp) rfl)
        go_wp2_with (go_at_call 24; refine (toPoly_any m hm _).mono ?_; rintro e wy ⟨rfl, hy⟩)
        exact hK _ (.agg (bcells 64 (m))) _ (by simp only [Act.put, List.setIfInBounds_toArray, List.set_cons_zero, List.set_cons_succ, e1]) ⟨hB.trans (hy.mono hB.size), (Nat.le_trans hz hy.size), (s0).below hy (s0).lt, (s1).below hy (s1).lt, (s2).below hy (s2).lt, (s3).below hy (s3).lt, h0, h1, (fun _ => rfl), h3, h4, h5, h6, h7, h8, h9, h10, (fun h => (h11 h).below hy), (fun h => (h12 h).below hy), h13⟩
      · intro L v W3 hd hn ⟨hB, hz, s0, s1, s2, s3, h0, h1, h2, h3, h4, h5, h6, h7, h8, h9, h10, h11, h12, h13⟩ K hK
        refine wp_load_any 31 _ rfl _ rfl 512 31 _ s1 _ Try.underlying31 rfl Try.size31 ?_
        exact hK _ _ _ rfl ⟨hB, hz, s0, s1, s2, s3, h0, h1, h2, (fun _ => rfl), h4, h5, h6, h7, h8, h9, h10, h11, h12, h13⟩
      · intro L v W3 hd hn ⟨hB, hz, s0, s1, s2, s3, h0, h1, h2, h3, h4, h5, h6, h7, h8, h9, h10, h11, h12, h13⟩ K hK
        have e3 := h3 (hd ⟨3, .data⟩ (by simp) rfl)
        go_wp2_with (go_at_call 30; refine (toSkew_any F hF _).mono ?_; rintro e wy ⟨rfl, hy⟩)
        exact hK _ (.agg (bcells 512 (fl 64 F))) _ (by simp only [Act.put, List.setIfInBounds_toArray, List.set_cons_zero, List.set_cons_succ, e3]) ⟨hB.trans (hy.mono hB.size), (Nat.le_trans hz hy.size), (s0).below hy (s0).lt, (s1).below hy (s1).lt, (s2).below hy (s2).lt, (s3).below hy (s3).lt, h0, h1, h2, h3, (fun _ => rfl), h5, h6, h7, h8, h9, h10, (fun h => (h11 h).below hy), (fun h => (h12 h).below hy), h13⟩
      · intro L v W3 hd hn ⟨hB, hz, s0, s1, s2, s3, h0, h1, h2, h3, h4, h5, h6, h7, h8, h9, h10, h11, h12, h13⟩ K hK
        refine wp_load_any 31 _ rfl _ rfl 512 31 _ s2 _ Try.underlying31 rfl Try.size31 ?_
        exact hK _ _ _ rfl ⟨hB, hz, s0, s1, s2, s3, h0, h1, h2, h3, h4, (fun _ => rfl), h6, h7, h8, h9, h10, h11, h12, h13⟩
      · intro L v W3 hd hn ⟨hB, hz, s0, s1, s2, s3, h0, h1, h2, h3, h4, h5, h6, h7, h8, h9, h10, h11, h12, h13⟩ K hK
        have e5 := h5 (hd ⟨5, .data⟩ (by simp) rfl)
        go_wp2_with (go_at_call 30; refine (toSkew_any G hG _).mono ?_; rintro e wy ⟨rfl, hy⟩)
        exact hK _ (.agg (bcells 512 (fl 64 G))) _ (by simp only [Act.put, List.setIfInBounds_toArray, List.set_cons_zero, List.set_cons_succ, e5]) ⟨hB.trans (hy.mono hB.size), (Nat.le_trans hz hy.size), (s0).below hy (s0).lt, (s1).below hy (s1).lt, (s2).below hy (s2).lt, (s3).below hy (s3).lt, h0, h1, h2, h3, h4, h5, (fun _ => rfl), h7, h8, h9, h10, (fun h => (h11 h).below hy), (fun h => (h12 h).below hy), h13⟩
      · intro L v W3 hd hn ⟨hB, hz, s0, s1, s2, s3, h0, h1, h2, h3, h4, h5, h6, h7, h8, h9, h10, h11, h12, h13⟩ K hK
        have e0 := h0 (hd ⟨0, .data⟩ (by simp) rfl)
        have e2 := h2 (hd ⟨2, .data⟩ (by simp) rfl)
        have e4 := h4 (hd ⟨4, .data⟩ (by simp) rfl)
        have e6 := h6 (hd ⟨6, .data⟩ (by simp) rfl)
        go_wp2_with (go_at_call 38; refine (impl_MultiplySkews_any p m F G hm hF hG _).mono ?_; rintro e wy ⟨rfl, hy⟩)
        exact hK _ (.tuple #[(.agg (bcells 512 (fl 64 ((muV p m F G).1)))), (.int .i64 ((muV p m F G).2))]) _ (by simp only [Act.put, List.setIfInBounds_toArray, List.set_cons_zero, List.set_cons_succ, e0, e2, e4, e6]) ⟨hB.trans (hy.mono hB.size), (Nat.le_trans hz hy.size), (s0).below hy (s0).lt, (s1).below hy (s1).lt, (s2).below hy (s2).lt, (s3).below hy (s3).lt, h0, h1, h2, h3, h4, h5, h6, (fun _ => rfl), h8, h9, h10, (fun h => (h11 h).below hy), (fun h => (h12 h).below hy), h13⟩
      · intro L v W3 hd hn ⟨hB, hz, s0, s1, s2, s3, h0, h1, h2, h3, h4, h5, h6, h7, h8, h9, h10, h11, h12, h13⟩ K hK
        have e7 := h7 (hd ⟨7, .data⟩ (by simp) rfl)
        go_wp2_with fail
        exact hK _ (.tuple #[(.agg (bcells 512 (fl 64 ((muV p m F G).1)))), (.int .i64 ((muV p m F G).2))]) _ (by simp only [Act.put, List.setIfInBounds_toArray, List.set_cons_zero, List.set_cons_succ, e7]) ⟨hB, hz, s0, s1, s2, s3, h0, h1, h2, h3, h4, h5, h6, h7, (fun _ => rfl), h9, h10, h11, h12, h13⟩
      · intro L v W3 hd hn ⟨hB, hz, s0, s1, s2, s3, h0, h1, h2, h3, h4, h5, h6, h7, h8, h9, h10, h11, h12, h13⟩ K hK
        have e8 := h8 (hd ⟨8, .data⟩ (by simp) rfl)
        go_wp2_with fail
        exact hK _ (.agg (bcells 512 (fl 64 ((muV p m F G).1)))) _ (by simp only [Act.put, List.setIfInBounds_toArray, List.set_cons_zero, List.set_cons_succ, e8]) ⟨hB, hz, s0, s1, s2, s3, h0, h1, h2, h3, h4, h5, h6, h7, h8, (fun _ => rfl), h10, h11, h12, h13⟩
      · intro L v W3 hd hn ⟨hB, hz, s0, s1, s2, s3, h0, h1, h2, h3, h4, h5, h6, h7, h8, h9, h10, h11, h12, h13⟩ K hK
        have e8 := h8 (hd ⟨8, .data⟩ (by simp) rfl)
        go_wp2_with fail
        exact hK _ (.int .i64 ((muV p m F G).2)) _ (by simp only [Act.put, List.setIfInBounds_toArray, List.set_cons_zero, List.set_cons_succ, e8]) ⟨hB, hz, s0, s1, s2, s3, h0, h1, h2, h3, h4, h5, h6, h7, h8, h9, (fun _ => rfl), h11, h12, h13⟩
      · intro L v W3 hd hn ⟨hB, hz, s0, s1, s2, s3, h0, h1, h2, h3, h4, h5, h6, h7, h8, h9, h10, h11, h12, h13⟩ K hK
        go_wp2_with fail
        rw [← zero512]
        exact hK _ (.pointer (some ⟨W3.heap.size, 0, none⟩)) _ (by simp only [Act.put, List.setIfInBounds_toArray, List.set_cons_zero, List.set_cons_succ ]) ⟨hB.alloc hB.size _, (by simp; omega), (s0).alloc _, (s1).alloc _, (s2).alloc _, (s3).alloc _, h0, h1, h2, h3, h4, h5, h6, h7, h8, h9, h10, (fun _ => (PF.new W3 512 34 _ hz).af), (fun h => absurd rfl (hn 12 _ rfl h ⟨11, .data⟩ (by simp) rfl)), h13⟩
      · intro L v W3 hd hn ⟨hB, hz, s0, s1, s2, s3, h0, h1, h2, h3, h4, h5, h6, h7, h8, h9, h10, h11, h12, h13⟩ K hK
        have e9 := h9 (hd ⟨9, .data⟩ (by simp) rfl)
        obtain ⟨gz, b, ea, hN, hk⟩ := (h11 (hd ⟨11, .data⟩ (by simp) rfl)).out
        refine wp_store_blk 34 _ _ rfl b 512 (fl 64 ((muV p m F G).1)) ea e9 34 gz hk Try.size34 ?_
        exact hK _ undef _ rfl ⟨below_row hB (Nat.le_trans hbase hN) _, (by simpa [World.setRow] using hz), (s0).rowOther (by omega), (s1).rowOther (by omega), (s2).rowOther (by omega), (s3).rowOther (by omega), h0, h1, h2, h3, h4, h5, h6, h7, h8, h9, h10, (fun h => (h11 h).row hk), (fun _ => by rw [show updV v 12 undef 11 = v 11 from rfl, ea]; exact PF.row hk hN _), h13⟩
      · intro L v W3 hd hn ⟨hB, hz, s0, s1, s2, s3, h0, h1, h2, h3, h4, h5, h6, h7, h8, h9, h10, h11, h12, h13⟩ K hK
        have e10 := h10 (hd ⟨10, .data⟩ (by simp) rfl)
        go_wp2_with fail
        exact hK _ (.int .i64 ((muV p m F G).2)) _ (by simp only [Act.put, List.setIfInBounds_toArray, List.set_cons_zero, List.set_cons_succ, e10]) ⟨hB, hz, s0, s1, s2, s3, h0, h1, h2, h3, h4, h5, h6, h7, h8, h9, h10, h11, h12, (fun _ => rfl)⟩
    · intro L v W3 hL ⟨hB, hz, s0, s1, s2, s3, h0, h1, h2, h3, h4, h5, h6, h7, h8, h9, h10, h11, h12, h13⟩
      have e0 := h0 (hL 0 (by decide))
      have e1 := h1 (hL 1 (by decide))
      have e2 := h2 (hL 2 (by decide))
      have e3 := h3 (hL 3 (by decide))
      have e4 := h4 (hL 4 (by decide))
      have e5 := h5 (hL 5 (by decide))
      have e6 := h6 (hL 6 (by decide))
      have e7 := h7 (hL 7 (by decide))
      have e8 := h8 (hL 8 (by decide))
      have e9 := h9 (hL 9 (by decide))
      have e10 := h10 (hL 10 (by decide))
      obtain ⟨k2_11, e11, hNk2_11, hk2_11⟩ := (h12 (hL 12 (by decide))).out
      have e13 := h13 (hL 13 (by decide))
      clear hL h0 h1 h2 h3 h4 h5 h6 h7 h8 h9 h10 h11 h12 h13
      simp only [Exit.then, e0, e1, e2, e3, e4, e5, e6, e7, e8, e9, e10, e11, e13]
      clear e0 e1 e2 e3 e4 e5 e6 e7 e8 e9 e10 e11 e13
      clear B0
      have B0 := s0
      clear s0
      clear B1
      have B1 := s1
      clear s1
      clear B2
      have B2 := s2
      clear s2
      clear B3
      have B3 := s3
      clear s3
      clear hb
      have hb := hB
      clear hB
      have B4 := hk2_11
      clear hk2_11
      have zk2_11_0 : w.heap.size < k2_11 := by omega
      have zk2_11_1 : w.heap.size + 1 < k2_11 := by omega
      have zk2_11_2 : w.heap.size + 1 + 1 < k2_11 := by omega
      have zk2_11_3 : k1_11 < k2_11 := by omega
      clear hbase hz lt_B0 lt_B1 lt_B2 lt_B3
      go_upto_region 3 with (fail)
      go_wp2_with (first | (refine wpList_load_any rfl 34 (.tmp 11) rfl _ rfl 512 34 _ (B4) _ Try.underlying34 rfl Try.size34 ?_) | (refine wpList_load_any rfl 34 (.tmp 9) rfl _ rfl 512 34 _ (B3) _ Try.underlying34 rfl Try.size34 ?_) | (go_at_call 36; refine (eqSkew_same _ _ (fun _ _ _ _ => rfl) _).mono ?_; rintro e W4 ⟨rfl, hW4⟩; replace B0 := B0.below hW4 B0.lt; replace B1 := B1.below hW4 B1.lt; replace B2 := B2.below hW4 B2.lt; replace B3 := B3.below hW4 B3.lt; replace B4 := B4.below hW4 B4.lt; replace hb := (hb).trans (hW4.mono (hb).size)))
      go_ret
      exact ⟨rfl, hb⟩
end Go.Proofs.Ytbjpkmbhbpcbgaa
end
