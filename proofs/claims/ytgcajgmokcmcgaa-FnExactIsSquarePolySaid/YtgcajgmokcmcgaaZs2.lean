/-
  What the rows of this claim rest on: arrays of bytes, walks of the functions, plain mathematics.
-/
import Derived.Test.YtgcajgmokcmcgaaZs1
import Derived.OpenShut
import Derived.ProofKit
import Derived.Test.YtgcajgmokcmcgaaRows
import Derived.JoinedOf
section
namespace Go.Proofs.Ytgcajgmokcmcgaa
open Go Go.RowKit
set_option linter.unusedVariables false
set_option linter.unusedSimpArgs false
/-- the rows of numbers -/
def ilZ (L : List Int) : List (List Value) := L.map fun x => [.int .i64 x]
theorem ilZ_snoc (L : List Int) (x : Int) : ilZ (L ++ [x]) = ilZ L ++ [[.int .i64 x]] := by simp [ilZ]
theorem ilZ_len (L : List Int) : (ilZ L).length = L.length := by simp [ilZ]
/-- a list of numbers whose block lies between lo and hi -/
def Seg (w : World) (lo hi : Nat) (v : Value) (L : List Int) : Prop :=
 lo ≤ hi ∧ hi ≤ w.heap.size ∧ ∃ a cap, v = .slice a L.length cap ∧ (L = [] ∨ ∃ g o t cs, a = some ⟨g, o, none⟩ ∧ lo ≤ g ∧ g < hi ∧ Row w g t cs ∧ o + L.length ≤ cs.size ∧ ∀ i x, L[i]? = some x → cs[o + i]? = some (.int .i64 x))
theorem Seg.lt {w : World} {lo hi : Nat} {v : Value} {L : List Int} (h : Seg w lo hi v L) : hi ≤ w.heap.size := h.2.1
theorem Seg.form {w : World} {lo hi : Nat} {v : Value} {L : List Int} (h : Seg w lo hi v L) : ∃ a cap, v = .slice a L.length cap := by
 obtain ⟨_, _, a, cap, e, _⟩ := h
 exact ⟨a, cap, e⟩
theorem Seg.move {w w' : World} {lo hi : Nat} {v : Value} {L : List Int} (h : Seg w lo hi v L) (hs : w.heap.size ≤ w'.heap.size) (hb : ∀ k, lo ≤ k → k < hi → w'.heap[k]? = w.heap[k]?) : Seg w' lo hi v L := by
 obtain ⟨h1, h2, a, cap, e, h3⟩ := h
 refine ⟨h1, Nat.le_trans h2 hs, a, cap, e, ?_⟩
 rcases h3 with h3 | ⟨g, o, t, cs, e2, g1, g2, hr, hc⟩
 · exact .inl h3
 · exact .inr ⟨g, o, t, cs, e2, g1, g2, hr.of (hb g g1 g2), hc⟩
theorem Seg.below {w w' : World} {lo hi : Nat} {v : Value} {L : List Int} (h : Seg w lo hi v L) {B : Nat} (hb : Below B w w') (hB : hi ≤ B) : Seg w' lo hi v L :=
 h.move hb.size fun k _ h2 => hb.block k (by omega)
theorem Seg.drew {w : World} {lo hi : Nat} {v : Value} {L : List Int} (h : Seg w lo hi v L) : Seg w.drew lo hi v L := h.move (Nat.le_refl _) fun _ _ _ => rfl
theorem Seg.nil (w : World) {lo hi : Nat} (a : Option Addr) (cap : Nat) (h1 : lo ≤ hi) (h : hi ≤ w.heap.size) : Seg w lo hi (.slice a 0 cap) [] := ⟨h1, h, a, cap, rfl, .inl rfl⟩
/-- the first q cells are marked -/
def MkS (w : World) (lo hi : Nat) (v : Value) (n q : Nat) : Prop :=
 hi ≤ w.heap.size ∧ ∃ a cap, v = .slice a n cap ∧ (n = 0 ∨ ∃ g o t cs, a = some ⟨g, o, none⟩ ∧ lo ≤ g ∧ g < hi ∧ Row w g t cs ∧ o + n ≤ cs.size ∧ ∀ k, k < q → cs[o + k]? = some (mkI k))
theorem MkS.below {w w' : World} {lo hi : Nat} {v : Value} {n q : Nat} (h : MkS w lo hi v n q) {B : Nat} (hb : Below B w w') (hB : hi ≤ B) : MkS w' lo hi v n q := by
 obtain ⟨h2, a, cap, e, h3⟩ := h
 refine ⟨Nat.le_trans h2 hb.size, a, cap, e, ?_⟩
 rcases h3 with h3 | ⟨g, o, t, cs, e2, g1, g2, hr, hc⟩
 · exact .inl h3
 · exact .inr ⟨g, o, t, cs, e2, g1, g2, hr.below hb (by omega), hc⟩
theorem MkS.lt {w : World} {lo hi : Nat} {v : Value} {n q : Nat} (h : MkS w lo hi v n q) : hi ≤ w.heap.size := h.1
attribute [local irreducible] mkI
end Go.Proofs.Ytgcajgmokcmcgaa
end
section
namespace Go.Proofs.Ytgcajgmokcmcgaa
open Go Go.RowKit
set_option linter.unusedVariables false
set_option linter.unusedSimpArgs false
/-- the digits in front -/
def rtl (p : Nat) (D : Nat → Nat) (top n : Nat) : List Int := (List.range n).map (rt p D top)
theorem rtl_len (p : Nat) (D : Nat → Nat) (top n : Nat) : (rtl p D top n).length = n := by simp [rtl]
theorem rtl_one (p : Nat) (D : Nat → Nat) (top : Nat) : rtl p D top 1 = [1] := rfl
theorem rtl_snoc (p : Nat) (D : Nat → Nat) (top n : Nat) : rtl p D top (n + 1) = rtl p D top n ++ [rt p D top n] := by unfold rtl; rw [List.range_succ, List.map_append]; rfl
theorem rtl_at {p : Nat} {D : Nat → Nat} {top n i : Nat} (h : i < n) : (rtl p D top n)[i]? = some (rt p D top i) := by unfold rtl; rw [List.getElem?_map, List.getElem?_range h]; rfl
theorem slL_int1 {w : World} {b base : Nat} {x : Int} (h : Row w b 2 #[.int .i64 x]) (hb : base ≤ b) : SlL w base 2 1 (.slice (some ⟨b, 0, none⟩) 1 1) (ilZ [x]) := by
 have hl := h.lt
 delta SlL
 refine ⟨by omega, ?_, ?_⟩
 · intro c hc
   unfold ilZ at hc
   simp at hc
   subst hc; rfl
 · refine ⟨by simp [ilZ], .inr ⟨b, 1, #[.int .i64 x], by simp [ilZ], hb, by delta Row at h; exact h, by simp [ilZ], by decide, by simp, by simp [ilZ]⟩⟩
theorem slL_zat {w : World} {base g n cap i : Nat} {L : List Int} {x : Int} (h : SlL w base 2 1 (.slice (some ⟨g, 0, none⟩) n cap) (ilZ L)) (hi : L[i]? = some x) : w.cell? ⟨g, i, none⟩ = some (.int .i64 x) := by
 have hr : (ilZ L)[i]? = some [.int .i64 x] := by unfold ilZ; rw [List.getElem?_map, hi]; rfl
 have cc := h.range hr 0 (.int .i64 x) rfl
 simpa using cc
attribute [local irreducible] deg icl rt rtW rtl ilZ
set_option maxRecDepth 100000 in
set_option maxHeartbeats 3200000 in
theorem l10Root_any (p top n : Nat) (D : Nat → Nat) (w : World) (hpr : p = 2 ∨ p = 3 ∨ p = 5 ∨ p = 7) (lD : ∀ k, k < 64 → D k < p) (hd : deg D = (top : Int)) (hn1 : 1 ≤ n) (hn72 : n ≤ 72) :
 Calls Try.prog 85 #[.int .i64 (p : Int), .agg (zb 64 D), .int .i64 (n : Int)] w fun e w' => ∃ v, e = .returned v ∧ SlL w' w.heap.size 2 1 v (ilZ (rtl p D top n)) ∧ Below w.heap.size w w' := by
 have HDG := Lib.hid (fun W => show Calls Try.prog _ _ W (fun e w' => e = .returned (.int .i64 (top : Int)) ∧ Below W.heap.size W w') from hd ▸ l01Deg_any D W)
 go_enter Try.func85, Try.ntmps85
 go_upto_region 1 with (fail)
 obtain ⟨W1, hwo⟩ : ∃ v : World, v = (w.alloc (.cells (zb 64 (D)) 26)) := ⟨_, rfl⟩
 have B0 : Blk W1 (w.heap.size) 64 26 (D) := by subst hwo; have := (Blk.new w 64 26 (D)); simpa using this
 have hb : Below w.heap.size w W1 := by subst hwo; exact ((Below.refl _ _).alloc (Nat.le_refl _) _)
 rw [← hwo]
 clear hwo
 obtain ⟨base, hbase0⟩ : ∃ b, b = W1.heap.size := ⟨_, rfl⟩
 have ybw : w.heap.size ≤ base := by rw [hbase0]; exact hb.size
 have yb0 : (w.heap.size) < base := by rw [hbase0]; exact B0.lt
 have HBA := Lib.hid (Nat.le_of_eq hbase0)
 clear hbase0
 go_upto_region 2 with (first | (refine wpList_buildI rfl 23 _ 1 rfl 2 Try.underlying23 Try.elemInt rfl ?_; intro wa hps hba; replace B0 := B0.zw hba; replace hb := hb.trans (hba.mono hb.size); have hS := slL_int1 hps HBA.out) | (refine zla (.tmp 4) B0 Try.underlying26 Try.size26 ?_) | (go_at_call 63; refine (HDG.out _).mono ?_; rintro e W5 ⟨rfl, h5⟩; replace B0 := B0.zw h5; replace hS := hS.zw h5; replace hb := hb.trans (h5.mono hb.size)))
 clear hps hba h5 HBA
 have hS0 := hS
 rw [← rtl_one p D top] at hS0
 clear hS
 obtain ⟨c2, hc2, hc4, hcn⟩ : ∃ c2 : Nat, ((p : Int) + 1) / 2 = (c2 : Int) ∧ c2 ≤ 4 ∧ c2 = (p + 1) / 2 := ⟨(p + 1) / 2, by omega, by omega, rfl⟩
 have p2 : 2 ≤ p := by omega
 have p7 : p ≤ 7 := by omega
 have HC2 := Lib.hid hcn
 have htop : top < 64 := (deg_lead hd).1
 have HRT := Lib.hid (fun i => rt_lt (D := D) (top := top) p2 i)
 have HRW := Lib.hid (fun k j => rtW_bound (k := k) p7 lD htop (fun i => rt_lt (D := D) (top := top) p2 i) j)
 have HLD := Lib.hid lD
 have HRL := Lib.hid (fun k => rtl_len p D top k)
 clear lD hd hcn
 go_upto_region 3 with (fail)
 rw [hc2]
 clear hc2
 go_wp2_with fail
 go_loopw [7, 10] (fun s x wr => ∃ (m : Nat) (lst : Value), lst = s ∧ m + 1 ≤ n ∧ x = .int .i64 ((m + 1 : Nat) : Int) ∧ Below w.heap.size w wr ∧ Blk wr (w.heap.size) 64 26 (D) ∧ SlL wr base 2 1 lst (ilZ (rtl p D top (m + 1)))) (fun _ x _ => n - (intOf x).toNat)
 case atStart => exact ⟨0, _, rfl, by omega, rfl, hb, B0, hS0⟩
 case round =>
  clear hb B0 hS0
  obtain ⟨m, lst, rfl, hm, rfl, hb, B0, hS⟩ := hrel
  obtain ⟨X, hX⟩ : ∃ X, X = m + 1 := ⟨_, rfl⟩
  rw [← hX] at hS ⊢
  have hX1 : 1 ≤ X := by omega
  by_cases hXn : X < n
  · have hXi : (X : Int) < (n : Int) := by omega
    have HXn := Lib.hid hX
    obtain ⟨f, hf⟩ : ∃ f, f = rt p D top := ⟨_, rfl⟩
    have HFB := Lib.hid (show ∀ i, 0 ≤ f i ∧ f i < 7 from fun i => by have := HRT.out i; rw [hf]; omega)
    have HWB := Lib.hid (show ∀ j : Nat, j ≤ 71 → -2600 ≤ rtW D top f X j ∧ rtW D top f X j ≤ 6 from fun j hj => by have := HRW.out X j; rw [hf]; omega)
    have Hfe := Lib.hid hf
    have HLE := Lib.hid (show (rtl p D top X).length = X from HRL.out X)
    obtain ⟨L, hL⟩ : ∃ L, L = rtl p D top X := ⟨_, rfl⟩
    have HLA := Lib.hid (show ∀ i, i < X → L[i]? = some (f i) from fun i hi => by rw [hL, rtl_at hi, hf])
    rw [← hL] at hS HLE
    have HLe := Lib.hid hL
    clear hf hX hL
    obtain ⟨cap, g, rfl⟩ : ∃ cap g, lst = .slice (some ⟨g, 0, none⟩) X cap := by
     obtain ⟨a, c, e⟩ := hS.form
     subst e
     obtain ⟨g, hg⟩ := hS.some (by rw [ilZ_len, HLE.out]; have := HXn.out; omega)
     exact ⟨c, g, by rw [ilZ_len, HLE.out, hg]⟩
    by_cases hXt : X ≤ top
    · have hXt2 : (X : Int) ≤ (top : Int) := by omega
      obtain ⟨q, hq⟩ : ∃ q : Nat, (top : Int) - (X : Int) = (q : Int) := ⟨top - X, by omega⟩
      have hq64 : q < 64 := by omega
      have cc := B0.cell (i := q) hq64
      obtain ⟨l0, hl0⟩ : ∃ l0, l0 = rtW D top f X 0 := ⟨_, rfl⟩
      have hDq : ((D q : Nat) : Int) = l0 := by rw [hl0, rtW_zero, if_pos hXt, show top - X = q by omega]
      have hlq : D q < 7 := by have := HLD.out q hq64; omega
      have HL0 := Lib.hid hl0
      have HDq := Lib.hid hDq
      clear hl0
      go_upto_region 9 with (fail)
      clear cc hq hq64
      go_wp2_with fail
      go_loopw [11, 12] (fun l i wv => ∃ (j : Nat) (wz : World), wz = wv ∧ j + 1 ≤ X ∧ i = .int .i64 ((j + 1 : Nat) : Int) ∧ l = .int .i64 (rtW D top f X j) ∧ Below w.heap.size w wz ∧ Blk wz (w.heap.size) 64 26 (D) ∧ SlL wz base 2 1 (.slice (some ⟨g, 0, none⟩) X cap) (ilZ L)) (fun _ i _ => X - (intOf i).toNat)
      case atStart => exact ⟨0, _, rfl, by omega, rfl, by first | (rw [← HL0.out]; done) | (rw [← HL0.out, ← HDq.out]; done), hb, B0, hS⟩
      case round =>
       clear hb B0 hS
       obtain ⟨j, wz, rfl, hjX, rfl, rfl, hb, B0, hS⟩ := hrel
       obtain ⟨l, hl⟩ : ∃ l, l = rtW D top f X j := ⟨_, rfl⟩
       have hlb := HWB.out j (by omega)
       have HLj := Lib.hid hl
       rw [← hl] at hlb ⊢
       clear hl
       obtain ⟨Y, hY⟩ : ∃ Y, Y = j + 1 := ⟨_, rfl⟩
       rw [← hY] at hjX ⊢
       have HY := Lib.hid hY
       by_cases hj : Y < X
       · have hjl : (Y : Int) < (X : Int) := by omega
         obtain ⟨q2, hq2⟩ : ∃ q2 : Nat, (X : Int) - (Y : Int) = (q2 : Int) := ⟨X - Y, by omega⟩
         have hq2X : q2 < X := by omega
         have c1 := slL_zat hS (HLA.out Y hj)
         have c2' := slL_zat hS (HLA.out q2 hq2X)
         have k1 := HFB.out Y
         have k2 := HFB.out q2
         have hst : rtW D top f X (j + 1) = l - f Y * f q2 := by rw [rtW_succ, HLj.out, hY, show q2 = X - 1 - j by omega]
         obtain ⟨a1, ha1⟩ : ∃ a, a = f Y := ⟨_, rfl⟩
         obtain ⟨a2, ha2⟩ : ∃ a, a = f q2 := ⟨_, rfl⟩
         rw [← ha1] at c1 k1 hst
         rw [← ha2] at c2' k2 hst
         clear ha1 ha2 hY
         have m1 : 0 ≤ a1 * a2 := Int.mul_nonneg k1.1 k2.1
         have m2 : a1 * a2 ≤ 6 * 6 := Int.mul_le_mul (by omega) (by omega) k2.1 (by omega)
         have HST := Lib.hid hst
         clear hst
         go_upto_region 12 with (fail)
         go_quiet (fail)
         go_wp2_with fail
         go_roundw
         case rel => exact ⟨j + 1, _, rfl, by have := HY.out; omega, by rw [HY.out]; go_num, by rw [HST.out], below_drewN' hb _, B0.drewN _, hS.below (below_drewN' (Below.refl _ _) _) hS.lt⟩
         case measure => simp [intOf] <;> omega
       · have hjl : ¬ (Y : Int) < (X : Int) := by omega
         obtain rfl : Y = X := by omega
         have q1 := Int.tmod_lt_of_pos l (show (0 : Int) < (p : Int) by omega)
         have q2 := Int.lt_tmod_of_pos l (show (0 : Int) < (p : Int) by omega)
         have t0 : 0 ≤ l.tmod (p : Int) % (p : Int) := Int.emod_nonneg _ (by omega)
         have t1 : l.tmod (p : Int) % (p : Int) < (p : Int) := Int.emod_lt_of_pos _ (by omega)
         have t2 : 0 ≤ l.tmod (p : Int) % (p : Int) * (c2 : Int) := Int.mul_nonneg t0 (by omega)
         have t3 : l.tmod (p : Int) % (p : Int) * (c2 : Int) ≤ 7 * 4 := Int.mul_le_mul (by omega) (by omega) (by omega) (by omega)
         have HRV := Lib.hid (show l.tmod (p : Int) % (p : Int) * (c2 : Int) % (p : Int) = rt p D top Y by
          rw [mod_sum2, HLj.out, Hfe.out, HY.out, rt_next, HC2.out]
          unfold rtX; rw [Nat.add_sub_cancel])
         have HLs := Lib.hid (show rtl p D top (Y + 1) = L ++ [rt p D top Y] by rw [rtl_snoc, HLe.out])
         clear hY
         go_wp2_with (first | (refine wpList_buildI rfl 23 _ _ rfl 2 Try.underlying23 Try.elemInt rfl ?_; intro wa2 hps hba; rw [HRV.out] at hps; have eB0 := B0.zw hba; have eS := hS.zw hba; have ehb := hb.trans (hba.mono hb.size)) | (at_builtin; refine wpList_append_sl _ rfl _ _ 23 rfl base 2 (.int .i64 0) 1 8 Try.underlying23 Try.infoInt (by rfl) (by decide) _ _ rfl eS wz.heap.size [.int .i64 (rt p D top Y)] rfl rfl (Row.range hps) (by intro u hu; rw [List.mem_singleton] at hu; subst hu; rfl) (by rw [ilZ_len, HLE.out]; unfold maxLen; omega) (by rw [ilZ_len, HLE.out]; omega) ?_; intro vp wp hSp hg1; have fB0 := eB0.grownO hg1 (eS.own) (base := base) yb0; have fhb := ehb.grown hg1 ehb.size (fun k e => Nat.le_trans ybw (eS.own k e))))
         go_roundw
         case rel => exact ⟨m + 1, vp, rfl, by have := HXn.out; omega, by rw [HXn.out]; go_num, fhb, fB0, by rw [← HXn.out, HLs.out, ilZ_snoc]; exact hSp⟩
         case measure => simp [intOf] <;> omega
    · have hXt2 : ¬ (X : Int) ≤ (top : Int) := by omega
      obtain ⟨l0, hl0⟩ : ∃ l0, l0 = rtW D top f X 0 := ⟨_, rfl⟩
      have hDq : (0 : Int) = l0 := by rw [hl0, rtW_zero, if_neg hXt]
      have HL0 := Lib.hid hl0
      clear hl0
      have HDq := Lib.hid hDq
      clear hDq
      go_upto_region 9 with (fail)
      go_wp2_with fail
      go_loopw [11, 12] (fun l i wv => ∃ (j : Nat) (wz : World), wz = wv ∧ j + 1 ≤ X ∧ i = .int .i64 ((j + 1 : Nat) : Int) ∧ l = .int .i64 (rtW D top f X j) ∧ Below w.heap.size w wz ∧ Blk wz (w.heap.size) 64 26 (D) ∧ SlL wz base 2 1 (.slice (some ⟨g, 0, none⟩) X cap) (ilZ L)) (fun _ i _ => X - (intOf i).toNat)
      case atStart => exact ⟨0, _, rfl, by omega, rfl, by first | (rw [← HL0.out]; done) | (rw [← HL0.out, ← HDq.out]; done), hb, B0, hS⟩
      case round =>
       clear hb B0 hS
       obtain ⟨j, wz, rfl, hjX, rfl, rfl, hb, B0, hS⟩ := hrel
       obtain ⟨l, hl⟩ : ∃ l, l = rtW D top f X j := ⟨_, rfl⟩
       have hlb := HWB.out j (by omega)
       have HLj := Lib.hid hl
       rw [← hl] at hlb ⊢
       clear hl
       obtain ⟨Y, hY⟩ : ∃ Y, Y = j + 1 := ⟨_, rfl⟩
       rw [← hY] at hjX ⊢
       have HY := Lib.hid hY
       by_cases hj : Y < X
       · have hjl : (Y : Int) < (X : Int) := by omega
         obtain ⟨q2, hq2⟩ : ∃ q2 : Nat, (X : Int) - (Y : Int) = (q2 : Int) := ⟨X - Y, by omega⟩
         have hq2X : q2 < X := by omega
         have c1 := slL_zat hS (HLA.out Y hj)
         have c2' := slL_zat hS (HLA.out q2 hq2X)
         have k1 := HFB.out Y
         have k2 := HFB.out q2
         have hst : rtW D top f X (j + 1) = l - f Y * f q2 := by rw [rtW_succ, HLj.out, hY, show q2 = X - 1 - j by omega]
         obtain ⟨a1, ha1⟩ : ∃ a, a = f Y := ⟨_, rfl⟩
         obtain ⟨a2, ha2⟩ : ∃ a, a = f q2 := ⟨_, rfl⟩
         rw [← ha1] at c1 k1 hst
         rw [← ha2] at c2' k2 hst
         clear ha1 ha2 hY
         have m1 : 0 ≤ a1 * a2 := Int.mul_nonneg k1.1 k2.1
         have m2 : a1 * a2 ≤ 6 * 6 := Int.mul_le_mul (by omega) (by omega) k2.1 (by omega)
         have HST := Lib.hid hst
         clear hst
         go_upto_region 12 with (fail)
         go_quiet (fail)
         go_wp2_with fail
         go_roundw
         case rel => exact ⟨j + 1, _, rfl, by have := HY.out; omega, by rw [HY.out]; go_num, by rw [HST.out], below_drewN' hb _, B0.drewN _, hS.below (below_drewN' (Below.refl _ _) _) hS.lt⟩
         case measure => simp [intOf] <;> omega
       · have hjl : ¬ (Y : Int) < (X : Int) := by omega
         obtain rfl : Y = X := by omega
         have q1 := Int.tmod_lt_of_pos l (show (0 : Int) < (p : Int) by omega)
         have q2 := Int.lt_tmod_of_pos l (show (0 : Int) < (p : Int) by omega)
         have t0 : 0 ≤ l.tmod (p : Int) % (p : Int) := Int.emod_nonneg _ (by omega)
         have t1 : l.tmod (p : Int) % (p : Int) < (p : Int) := Int.emod_lt_of_pos _ (by omega)
         have t2 : 0 ≤ l.tmod (p : Int) % (p : Int) * (c2 : Int) := Int.mul_nonneg t0 (by omega)
         have t3 : l.tmod (p : Int) % (p : Int) * (c2 : Int) ≤ 7 * 4 := Int.mul_le_mul (by omega) (by omega) (by omega) (by omega)
         have HRV := Lib.hid (show l.tmod (p : Int) % (p : Int) * (c2 : Int) % (p : Int) = rt p D top Y by
          rw [mod_sum2, HLj.out, Hfe.out, HY.out, rt_next, HC2.out]
          unfold rtX; rw [Nat.add_sub_cancel])
         have HLs := Lib.hid (show rtl p D top (Y + 1) = L ++ [rt p D top Y] by rw [rtl_snoc, HLe.out])
         clear hY
         go_wp2_with (first | (refine wpList_buildI rfl 23 _ _ rfl 2 Try.underlying23 Try.elemInt rfl ?_; intro wa2 hps hba; rw [HRV.out] at hps; have eB0 := B0.zw hba; have eS := hS.zw hba; have ehb := hb.trans (hba.mono hb.size)) | (at_builtin; refine wpList_append_sl _ rfl _ _ 23 rfl base 2 (.int .i64 0) 1 8 Try.underlying23 Try.infoInt (by rfl) (by decide) _ _ rfl eS wz.heap.size [.int .i64 (rt p D top Y)] rfl rfl (Row.range hps) (by intro u hu; rw [List.mem_singleton] at hu; subst hu; rfl) (by rw [ilZ_len, HLE.out]; unfold maxLen; omega) (by rw [ilZ_len, HLE.out]; omega) ?_; intro vp wp hSp hg1; have fB0 := eB0.grownO hg1 (eS.own) (base := base) yb0; have fhb := ehb.grown hg1 ehb.size (fun k e => Nat.le_trans ybw (eS.own k e))))
         go_roundw
         case rel => exact ⟨m + 1, vp, rfl, by have := HXn.out; omega, by rw [HXn.out]; go_num, fhb, fB0, by rw [← HXn.out, HLs.out, ilZ_snoc]; exact hSp⟩
         case measure => simp [intOf] <;> omega
  · have hXi : ¬ (X : Int) < (n : Int) := by omega
    have hXle : X = n := by omega
    clear hX
    obtain rfl := hXle
    go_wp2_with fail
    go_ret
    exact ⟨lst, rfl, hS.base ybw, hb⟩
end Go.Proofs.Ytgcajgmokcmcgaa
end
section
namespace Go.Proofs.Ytgcajgmokcmcgaa
open Go Go.RowKit
set_option linter.unusedVariables false
set_option linter.unusedSimpArgs false
attribute [local irreducible] deg icl rt rtl sqC rpJ ilZ
set_option maxRecDepth 100000 in
set_option maxHeartbeats 3200000 in
theorem l10Part_any (p g : Nat) (D : Nat → Nat) (w : World) (hpr : p = 2 ∨ p = 3 ∨ p = 5 ∨ p = 7) (lD : ∀ k, k < 64 → D k < p) (hd : deg D = ((2 * g : Nat) : Int)) (hg : g ≤ 31) :
 Calls Try.prog 82 #[.int .i64 (p : Int), .agg (zb 64 D)] w fun e w' => e = .returned (.agg (zb 64 (rpP p D g))) ∧ Below w.heap.size w w' := by
 have HDG := Lib.hid (fun W => show Calls Try.prog _ _ W (fun e w' => e = .returned (.int .i64 (2 * (g : Int))) ∧ Below W.heap.size W w') from by have h := l01Deg_any D W; rw [hd, show ((2 * g : Nat) : Int) = 2 * (g : Int) by omega] at h; exact h)
 have hgd : 2 * (g : Int) / 2 = (g : Int) := by omega
 have hg1 : (g : Int) + 1 = ((g + 1 : Nat) : Int) := by omega
 obtain ⟨q, hq⟩ : ∃ q : Nat, q = g + 1 := ⟨_, rfl⟩
 rw [← hq] at hg1
 have HRO := Lib.hid (fun W => l10Root_any p (2 * g) q D W hpr lD hd (by omega) (by omega))
 have HRT := Lib.hid (fun i => rt_lt (p := p) (D := D) (top := 2 * g) (by omega) i)
 have HQ := Lib.hid hq
 clear hd lD hq
 go_enter Try.func82, Try.ntmps82
 go_upto_region 1 with (fail)
 rw [← z64]
 obtain ⟨W1, hwo⟩ : ∃ v : World, v = ((w.alloc (.cells (zb 64 (D)) 26)).alloc (.cells (zb 64 (fun _ => 0)) 26)) := ⟨_, rfl⟩
 have B0 : Blk W1 (w.heap.size) 64 26 (D) := by subst hwo; have := ((Blk.new w 64 26 (D)).alloc (.cells (zb 64 (fun _ => 0)) 26)); simpa using this
 have B1 : Blk W1 (w.heap.size + 1) 64 26 (fun _ => 0) := by subst hwo; have := (Blk.new (w.alloc (.cells (zb 64 (D)) 26)) 64 26 (fun _ => 0)); simpa using this
 have hb : Below w.heap.size w W1 := by subst hwo; exact (((Below.refl _ _).alloc (Nat.le_refl _) _).alloc (by simp) _)
 rw [← hwo]
 clear hwo
 go_upto_region 2 with (first | (refine zla (.tmp 3) B0 Try.underlying26 Try.size26 ?_) | (go_at_call 63; refine (HDG.out _).mono ?_; rintro e W2 ⟨rfl, hW2⟩; replace B0 := B0.zw hW2; replace B1 := B1.zw hW2; replace hb := (hb).trans (hW2.mono (hb).size)))
 go_upto_region 3 with (first | rw [← z64] | (refine zla (.tmp 3) B0 Try.underlying26 Try.size26 ?_) | (go_at_call 85; refine (HRO.out _).mono ?_; rintro e W5 ⟨vl, rfl, hS, h5⟩; have hN5 := hb.size; have hN6 := B1.lt; replace B0 := B0.zw h5; replace B1 := B1.zw h5; replace hb := hb.trans (h5.mono hb.size)) | (refine wpList_store_blk rfl 26 (.tmp 7) (.tmp 17) rfl _ 64 (fun _ => 0) rfl rfl 26 _ (Blk.new W5 64 26 (fun _ => 0)) Try.size26 ?_; try simp only [Act.put]; go_upto_region 3 with (fail)))
 obtain ⟨cap, a5, rfl⟩ : ∃ cap a5, vl = .slice a5 q cap := by
  obtain ⟨a, c, e⟩ := hS.form
  exact ⟨c, a, by rw [e, ilZ_len, rtl_len]⟩
 have lt_B0 := B0.lt
 have lt_B1 := B1.lt
 have lhb := hb.size
 have T := hS.top
 obtain ⟨base, hbase⟩ : ∃ s, s = W2.heap.size := ⟨_, rfl⟩
 rw [← hbase] at T hS
 have hN7 := h5.size
 clear hbase
 obtain ⟨W6, hwo⟩ : ∃ v : World, v = ((W5.alloc (.cells (zb 64 (fun _ => 0)) 26)).setRow W5.heap.size (zb 64 (fun _ => 0))) := ⟨_, rfl⟩
 have qB2 : Blk W6 W5.heap.size 64 26 (fun _ => 0) := by subst hwo; exact (Blk.new W5 64 26 (fun _ => 0)).row _
 have qB0 : Blk W6 (w.heap.size) 64 26 (D) := by subst hwo; exact (B0.alloc _).rowOther (by omega)
 have qB1 : Blk W6 (w.heap.size + 1) 64 26 (fun _ => 0) := by subst hwo; exact (B1.alloc _).rowOther (by omega)
 have qT : SlT W6 base W5.heap.size 2 1 (.slice a5 q cap) (ilZ (rtl p D (2 * g) q)) := by subst hwo; exact (T.alloc _).rowOther (.inr (Nat.le_refl _))
 have qhb : Below w.heap.size w W6 := by subst hwo; exact zr (hb.alloc hb.size _) hb.size _
 rw [← hwo]
 clear hwo B0 B1 T hb hS h5 hN5 hN6 hN7
 obtain ⟨N, hN⟩ : ∃ n, n = W5.heap.size := ⟨_, rfl⟩
 rw [← hN] at qB2 qT lt_B0 lt_B1 lhb ⊢
 clear hN
 go_wp2_with fail
 go_loopw [8] (fun x wr => ∃ j : Nat, j ≤ q ∧ x = .int .i64 (j : Int) ∧ Below w.heap.size w wr ∧ Blk wr (w.heap.size) 64 26 (D) ∧ Blk wr (w.heap.size + 1) 64 26 (fun _ => 0) ∧ Blk wr N 64 26 (rpJ p D g j) ∧ SlT wr base N 2 1 (.slice a5 q cap) (ilZ (rtl p D (2 * g) q))) (fun x _ => q - (intOf x).toNat)
 case atStart => exact ⟨0, Nat.zero_le _, rfl, qhb, qB0, qB1, by rw [rpJ_zero]; exact qB2, qT⟩
 case round =>
  clear qhb qB0 qB1 qB2 qT
  obtain ⟨j, hjq, rfl, hb, B0, B1, B2, T⟩ := hrel
  by_cases hj : j < q
  · have hqg := HQ.out
    have hjl : (j : Int) ≤ (g : Int) := by omega
    have hjq2 : (j : Int) < (q : Int) := by omega
    obtain ⟨g5, rfl⟩ := T.1.some (by rw [ilZ_len, rtl_len]; omega)
    obtain ⟨q2, hq2⟩ : ∃ q2 : Nat, (g : Int) - (j : Int) = (q2 : Int) := ⟨g - j, by omega⟩
    have hq64 : q2 < 64 := by omega
    have c1 := slL_zat T.1 (rtl_at (p := p) (D := D) (top := 2 * g) hj)
    have k1 := HRT.out j
    have HST := Lib.hid (rpJ_next (p := p) (D := D) (show q2 + j = g by omega))
    clear hqg
    have hB3 := Lib.hid (show Blk (wr.setCell ⟨N, q2, none⟩ (.int .u8 (rt p D (2 * g) j))) N 64 26 (rpJ p D g (j + 1)) from HST.out ▸ B2.set (by have := HRT.out j; omega))
    have cc := B2.cell (i := q2) hq64
    have zz := B2.frozen q2
    have hbd : rt p D (2 * g) j < 256 := by omega
    go_wp2_with fail
    go_roundw
    case rel => exact ⟨j + 1, by omega, by go_num, hb.setCell (by show w.heap.size ≤ _; omega) _, B0.setOther (by dsimp only; omega), B1.setOther (by dsimp only; omega), hB3.out, T.setOther (.inr (by dsimp only; omega))⟩
    case measure => simp [intOf] <;> omega
  · have hqg := HQ.out
    have hjl : ¬ (j : Int) ≤ (g : Int) := by omega
    clear hqg
    obtain rfl : j = q := by omega
    rw [HQ.out] at B2
    go_upto_region 7 with (fail)
    have lt_B0 := B0.lt
    have lt_B1 := B1.lt
    have lt_B2 := B2.lt
    go_wp2_with (first | rw [← z64] | (refine zla (.tmp 7) B2 Try.underlying26 Try.size26 ?_) | (refine zsr (.tmp 4) (.tmp 32) (rpJ p D g (g + 1)) B1 Try.size26 ?_; try simp only [Act.put]))
    obtain ⟨W3, hwo, hzQ⟩ : ∃ v : World, v = (wr.setRow (w.heap.size + 1) (zb 64 (rpJ p D g (g + 1)))) ∧ Blk v (w.heap.size) 64 26 (D) ∧ Blk v (w.heap.size + 1) 64 26 (rpJ p D g (g + 1)) ∧ Blk v (N) 64 26 (rpJ p D g (g + 1)) ∧ Below w.heap.size w v := ⟨_, rfl, (B0.rowOther (by omega)), (B1.row (rpJ p D g (g + 1))), (B2.rowOther (by omega)), (zr hb (by omega) _)⟩
    rw [← hwo]
    clear hwo B0 B1 B2 hb
    obtain ⟨B0, B1, B2, hb⟩ := hzQ
    try simp only [Act.put, pA, pB, pC]
    refine bodyPost_ret (zrb rfl _ _ _ 64 26 5 _ rfl B1 Try.underlying26 Try.size26) rfl ⟨rfl, hb⟩
attribute [local irreducible] rpP prd iqV
set_option maxRecDepth 100000 in
set_option maxHeartbeats 3200000 in
theorem spec_IsSquarePoly_any (p : Int) (D : Nat → Nat) (hD : byte D) (w : World) :
 Calls Try.prog 42 #[.int .i64 p, .agg (zb 64 D)] w fun e w' => e = .returned (.tuple #[.bool (iqV p D).1, .int .i64 (iqV p D).2]) ∧ Below w.heap.size w w' := by
 go_enter Try.func42, Try.ntmps42
 go_upto_region 1 with (fail)
 obtain ⟨W1, hwo⟩ : ∃ v : World, v = (w.alloc (.cells (zb 64 (D)) 26)) := ⟨_, rfl⟩
 have B0 : Blk W1 (w.heap.size) 64 26 (D) := by subst hwo; have := (Blk.new w 64 26 (D)); simpa using this
 have hb : Below w.heap.size w W1 := by subst hwo; exact ((Below.refl _ _).alloc (Nat.le_refl _) _)
 rw [← hwo]
 clear hwo
 rcases sqC_split p D with ⟨c, hc, hc0⟩ | ⟨hc, n, g, rfl, hpr, lD, hd, hg⟩
 · have HV := Lib.hid (iqV_c hc hc0)
   have HC := Lib.hid (show ∀ W, Calls Try.prog _ _ W _ from fun W => hc ▸ l10Case_any p D hD W)
   have hcb : (c != 0) = true := by simp [hc0]
   clear hc hc0
   go_upto_region 3 with (first | (refine zla (.tmp 3) B0 Try.underlying26 Try.size26 ?_) | (go_at_call 81; refine (HC.out _).mono ?_; rintro e W2 ⟨rfl, hW2⟩; replace B0 := B0.zw hW2; replace hb := (hb).trans (hW2.mono (hb).size)))
   go_wp2_with fail
   go_ret2
   exact ⟨by rw [HV.out]; rfl, hb⟩
 · have HV := Lib.hid (iqV_0 hc hd)
   have HC := Lib.hid (show ∀ W, Calls Try.prog _ _ W _ from fun W => hc ▸ l10Case_any (n : Int) D hD W)
   have HRP := Lib.hid (fun W => l10Part_any n g D W hpr lD hd hg)
   obtain ⟨R, hR⟩ : ∃ R, R = rpP n D g := ⟨_, rfl⟩
   have lR : ∀ k, k < 64 → R k < n := fun k _ => by rw [hR]; exact rpP_lt (by omega) k
   have dR : deg R + deg R ≤ 63 := by have := rpP_deg (p := n) (D := D) hg; rw [hR]; omega
   rw [← hR] at HV HRP
   have HPD := Lib.hid (fun W => show Calls Try.prog _ _ W (fun e w' => e = .returned (.tuple #[.agg (zb 64 (prd n R R)), .bool true]) ∧ Below W.heap.size W w') from by have h := l01Times_any n R R W (by omega) (by omega) lR lR; rw [show tmV n R R = (prd n R R, true) from if_pos dR] at h; exact h)
   obtain ⟨S, hS⟩ : ∃ S, S = prd n R R := ⟨_, rfl⟩
   rw [← hS] at HV HPD
   clear hS hR lR dR
   clear hc lD hd
   go_upto_region 4 with (first | (refine zla (.tmp 3) B0 Try.underlying26 Try.size26 ?_) | (go_at_call 81; refine (HC.out _).mono ?_; rintro e W2 ⟨rfl, hW2⟩; replace B0 := B0.zw hW2; replace hb := (hb).trans (hW2.mono (hb).size)))
   have lt_B0 := B0.lt
   go_upto_region 5 with (first | rw [← z64] | (refine zla (.tmp 3) B0 Try.underlying26 Try.size26 ?_) | (go_at_call 82; refine (HRP.out _).mono ?_; rintro e W3 ⟨rfl, hW3⟩; replace B0 := B0.zw hW3; replace hb := (hb).trans (hW3.mono (hb).size)) | (refine wpList_store_blk rfl 26 (.tmp 7) (.tmp 18) rfl _ 64 (R) rfl rfl 26 _ ((Blk.new W3 64 26 (fun _ => 0))) Try.size26 ?_; try simp only [Act.put]))
   have lt_B0 := B0.lt
   have lhb := hb.size
   obtain ⟨W4, hwo, hzQ⟩ : ∃ v : World, v = ((W3.alloc (.cells (zb 64 (fun _ => 0)) 26)).setRow (W3.heap.size) (zb 64 (R))) ∧ Blk v (w.heap.size) 64 26 (D) ∧ Blk v (W3.heap.size) 64 26 (R) ∧ Below w.heap.size w v := ⟨_, rfl, ((B0.alloc (.cells (zb 64 (fun _ => 0)) 26)).rowOther (by omega)), ((Blk.new W3 64 26 (fun _ => 0)).row (R)), (zr (hb.alloc (by have := hb.size; simp; omega) (.cells (zb 64 (fun _ => 0)) 26)) (by omega) _)⟩
   rw [← hwo]
   clear hwo B0 hb
   obtain ⟨B0, B1, hb⟩ := hzQ
   obtain ⟨N1, hNN⟩ : ∃ n : Nat, n = W3.heap.size := ⟨_, rfl⟩
   rw [← hNN] at lt_B0 lhb B1 ⊢
   clear hNN
   have zN1_0 := lt_B0
   have zN1 := lhb
   clear lt_B0 lhb
   try simp only [Act.put, pA, pB, pC]
   have lt_B0 := B0.lt
   have lt_B1 := B1.lt
   go_upto_region 6 with (first | rw [← z64] | (refine zla (.tmp 7) B1 Try.underlying26 Try.size26 ?_) | (refine zla (.tmp 7) B1 Try.underlying26 Try.size26 ?_) | (go_at_call 66; refine (HPD.out _).mono ?_; rintro e W5 ⟨rfl, hW5⟩; replace B0 := B0.zw hW5; replace B1 := B1.zw hW5; replace hb := (hb).trans (hW5.mono (hb).size)) | (refine wpList_store_blk rfl 26 (.tmp 8) (.tmp 24) rfl _ 64 (S) rfl rfl 26 _ ((Blk.new W5 64 26 (fun _ => 0))) Try.size26 ?_; try simp only [Act.put]; go_upto_region 6 with (fail)))
   have lt_B0 := B0.lt
   have lt_B1 := B1.lt
   have lhb := hb.size
   obtain ⟨W6, hwo, hzQ⟩ : ∃ v : World, v = ((W5.alloc (.cells (zb 64 (fun _ => 0)) 26)).setRow (W5.heap.size) (zb 64 (S))) ∧ Blk v (w.heap.size) 64 26 (D) ∧ Blk v (N1) 64 26 (R) ∧ Blk v (W5.heap.size) 64 26 (S) ∧ Below w.heap.size w v := ⟨_, rfl, ((B0.alloc (.cells (zb 64 (fun _ => 0)) 26)).rowOther (by omega)), ((B1.alloc (.cells (zb 64 (fun _ => 0)) 26)).rowOther (by omega)), ((Blk.new W5 64 26 (fun _ => 0)).row (S)), (zr (hb.alloc (by have := hb.size; simp; omega) (.cells (zb 64 (fun _ => 0)) 26)) (by omega) _)⟩
   rw [← hwo]
   clear hwo B0 B1 hb
   obtain ⟨B0, B1, B2, hb⟩ := hzQ
   obtain ⟨N2, hNN⟩ : ∃ n : Nat, n = W5.heap.size := ⟨_, rfl⟩
   rw [← hNN] at lt_B0 lt_B1 lhb B2 ⊢
   clear hNN
   have zN2_0 := lt_B0
   have zN2_1 := lt_B1
   have zN2 := lhb
   clear lt_B0 lt_B1 lhb
   try simp only [Act.put, pA, pB, pC]
   have hgd := Try.noGuard26
   have heq := fun W => zeb (P := Try.prog) W 9998 26 5 64 S D Try.underlying26 Try.underlying5 Try.size5
   go_wp2_with (first | (refine zla (.tmp 8) B2 Try.underlying26 Try.size26 ?_) | (refine zla (.tmp 3) B0 Try.underlying26 Try.size26 ?_))
   go_ret2
   exact ⟨by rw [HV.out]; rfl, hb⟩
end Go.Proofs.Ytgcajgmokcmcgaa
end
section
namespace Go.Proofs.Ytgcajgmokcmcgaa
open Go Go.RowKit
set_option linter.unusedVariables false
set_option linter.unusedSimpArgs false
set_option maxRecDepth 100000 in
set_option maxHeartbeats 1600000 in
theorem FnExactIsSquarePoly_walk (p : Int) (d : Nat → Nat) (hd : byte d) (w : World) :
 Calls Try.prog 10 #[.int .i64 p, .agg (zb 64 d)] w fun e w' => e = .returned (.bool true) ∧ Below w.heap.size w w' := by
 go_enter Try.func10, Try.ntmps10
 go_upto_region 1 with (fail)
 obtain ⟨W1, hwo⟩ : ∃ v : World, v = (w.alloc (.cells (zb 64 (d)) 22)) := ⟨_, rfl⟩
 have B0 : Blk W1 (w.heap.size) 64 22 (d) := by subst hwo; have := (Blk.new w 64 22 (d)); simpa using this
 have hb : Below w.heap.size w W1 := by subst hwo; exact ((Below.refl _ _).alloc (Nat.le_refl _) _)
 rw [← hwo]
 clear hwo
 have hne0 : (((iqV p d).1) != ((iqV p d).1)) = false := by simp
 have hne1 : (((iqV p d).2) != ((iqV p d).2)) = false := by simp
 go_upto_region 2 with (first | (refine zla (.tmp 3) B0 Try.underlying22 Try.size22 ?_) | (go_at_call 19; refine (toPoly_any d hd _).mono ?_; rintro e W2 ⟨rfl, hW2⟩; replace B0 := B0.zw hW2; replace hb := (hb).trans (hW2.mono (hb).size)) | (go_at_call 42; refine (spec_IsSquarePoly_any p d hd _).mono ?_; rintro e W3 ⟨rfl, hW3⟩; replace B0 := B0.zw hW3; replace hb := (hb).trans (hW3.mono (hb).size)))
 go_upto_region 3 with (first | (refine zla (.tmp 3) B0 Try.underlying22 Try.size22 ?_) | (go_at_call 19; refine (toPoly_any d hd _).mono ?_; rintro e W4 ⟨rfl, hW4⟩; replace B0 := B0.zw hW4; replace hb := (hb).trans (hW4.mono (hb).size)) | (go_at_call 43; refine (impl_IsSquarePoly_any p d hd _).mono ?_; rintro e W5 ⟨rfl, hW5⟩; replace B0 := B0.zw hW5; replace hb := (hb).trans (hW5.mono (hb).size)))
 go_wp2_with fail
 go_ret
 exact ⟨rfl, hb⟩
end Go.Proofs.Ytgcajgmokcmcgaa
end
section
namespace Go.Proofs.Ytgcajgmokcmcgaa
open Go.ChangeShapes Go.WideShapes Go.ChangeAt Go.RowKit
section
variable {H : Type} {enc : TypeId × Value → H} {P : Program}
theorem trod_int_to {e : TypeId} {k : IntKind} (he : P.underlying e = some (.int k)) {w : World} (w' : World) {b : Nat} (b' : Nat) {s : Nat → Bool} (s' : Nat → Bool) {h : Bool} (h' : Bool) {m : Nat} {c : List Value} {x : DataW H × List MemPlace}
 (hx : DataW.trod enc P w b s h m e c = some x) : DataW.trod enc P w' b' s' h' m e c = some x := by
 cases m with
 | zero => simp [DataW.trod] at hx
 | succ m =>
  obtain ⟨n, rfl, rfl, hw⟩ := DataW.trod_int he hx
  unfold DataW.trod
  rw [he]
  simp [hw]
theorem trod_int_same {e : TypeId} {k : IntKind} (he : P.underlying e = some (.int k)) (w w' : World) (b b' : Nat) (s s' : Nat → Bool) (h h' : Bool) (m : Nat) (c : List Value) :
 DataW.trod enc P w b s h m e c = DataW.trod enc P w' b' s' h' m e c := by
 cases h1 : DataW.trod enc P w b s h m e c with
 | some x => rw [trod_int_to he w' b' s' h' h1]
 | none =>
  cases h2 : DataW.trod enc P w' b' s' h' m e c with
  | none => rfl
  | some x => rw [trod_int_to he w b s h h2] at h1; cases h1
theorem open_barr {t e : TypeId} {n : Nat} {w : World} {r : Reach} {b0 base : Nat} {spare : Nat → Bool} {held : Bool} {v : Value} {d : DataW H} {p : List MemPlace}
 (ht : P.underlying t = some (.array n e)) (he : P.underlying e = some (.int .u8)) (hC : P.cellsOf t = n) (hCe : P.cellsOf e = 1)
 (hv : Value.okWide P w r b0 t v) (h : DataW.Trod enc P w base spare held t v d p) :
 ∃ f : Nat → Nat, byte f ∧ v = .agg (zb n f) ∧ p = [] ∧ ∀ (w' : World) (base' : Nat) (spare' : Nat → Bool) (held' : Bool), DataW.Trod enc P w' base' spare' held' t v d [] := by
 unfold Value.okWide at hv
 rw [ht] at hv
 obtain ⟨cs, rfl, hsz, _⟩ := hv
 obtain ⟨fuel, hf⟩ := h
 obtain ⟨xs, m, hm, hx, hlen, hxl, hel⟩ := DataW.trod_array ht hf
 subst hm
 have hcs : cs.size = n := by rw [hsz, hC]
 have each : ∀ i, i < n → ∃ k : Nat, k < 256 ∧ cs[i]? = some (.int .u8 (k : Int)) ∧ xs[i]? = some (.lit (.int .u8 (k : Int)), []) := by
  intro i hi
  have h1 := hel i hi
  have hxi : xs[i]? = some (xs[i]'(by omega)) := List.getElem?_eq_getElem (by omega)
  rw [hxi, hCe] at h1
  obtain ⟨z, hz1, hz2, hz3⟩ := DataW.trod_int he h1
  have hb := bounds_u8 hz3
  obtain ⟨k, rfl⟩ := Int.eq_ofNat_of_zero_le hb.1
  refine ⟨k, by omega, ?_, by rw [hxi, hz2]⟩
  have h2 : ((cs.toList.drop (i * 1)).take 1)[0]? = some (.int .u8 (k : Int)) := by
   have h3 : (Value.agg cs).cells.toList = cs.toList := rfl
   rw [← h3, hz1]; rfl
  simpa using h2
 refine ⟨fun i => match cs[i]? with | some (.int _ z) => if i < n then z.toNat else 0 | _ => 0, ?_, ?_, ?_, ?_⟩
 · intro i
   by_cases hi : i < n
   · obtain ⟨k, hk, hc, _⟩ := each i hi
     simp only [hc, hi, if_true, Int.toNat_natCast]
     exact hk
   · have : cs[i]? = none := Array.getElem?_eq_none (by omega)
     simp [this]
 · congr 1
   apply Array.ext_getElem?
   intro i
   by_cases hi : i < n
   · obtain ⟨k, hk, hc, _⟩ := each i hi
     rw [bcells_get hi]
     simp only [hc, hi, if_true, Int.toNat_natCast]
   · rw [Array.getElem?_eq_none (by omega), Array.getElem?_eq_none (by rw [zbs]; omega)]
 · have hp : p = xs.flatMap (·.2) := by simpa using congrArg Prod.snd hx
   rw [hp]
   rw [List.flatMap_eq_nil_iff]
   intro x hxm
   obtain ⟨i, hi⟩ := List.getElem?_of_mem hxm
   have hin : i < n := by rw [← hxl]; exact (List.getElem?_eq_some_iff.1 hi).1
   obtain ⟨k, _, _, h2⟩ := each i hin
   rw [hi] at h2
   injection h2 with h2
   rw [h2]
 · intro w' base' spare' held'
   refine ⟨m + 1, ?_⟩
   have e1 : DataW.trod enc P w' base' spare' held' (m + 1) t (Value.agg cs).cells.toList = DataW.trod enc P w base spare held (m + 1) t (Value.agg cs).cells.toList := by
    unfold DataW.trod
    rw [ht]
    simp only [trod_int_same he w' w base' base spare' spare held' held m]
   rw [e1, hf]
   have hp : p = xs.flatMap (·.2) := by simpa using congrArg Prod.snd hx
   have : p = [] := by
    rw [hp, List.flatMap_eq_nil_iff]
    intro x hxm
    obtain ⟨i, hi⟩ := List.getElem?_of_mem hxm
    have hin : i < n := by rw [← hxl]; exact (List.getElem?_eq_some_iff.1 hi).1
    obtain ⟨k, _, _, h2⟩ := each i hin
    rw [hi] at h2
    injection h2 with h2
    rw [h2]
   rw [this]
/-- the row's last step where the call has only made new memory, and the row does not say 'again' -/
theorem post_of_below0 {f : Func} {s : ChangeSpec} {apart fresh handsOn : Bool} {W W' : World} {args : Array Value} {v : Value} {ds gs : List (DataW H)} {before pa pv : List MemPlace}
 (hW : DataW.Whole enc P f.params.toList s.vars apart W args.toList ds gs before)
 (hres : ∀ (b : Nat) (sp : Nat → Bool) (hd : Bool), DataW.TrodAll enc P W' b sp hd f.resultTypes.toList (v.resultList f.resultTypes.size) (s.fn H (ds ++ gs)).results [])
 (hargs : ∀ sp : Nat → Bool, (∀ p ∈ before, sp p.block = true) → DataW.TrodAll enc P W' 0 sp true f.params.toList args.toList (s.fn H (ds ++ gs)).args pa)
 (hvars : ∀ sp : Nat → Bool, (∀ p ∈ before, sp p.block = true) → DataW.TrodVars enc P W' sp s.vars (s.fn H (ds ++ gs)).vars pv)
 (hps : before = pa ++ pv) (hb : Below W.heap.size W W') : s.post enc P f apart fresh handsOn false W args v W' := by
 have held : ∀ p ∈ before, (fun b => decide (b < W.heap.size)) p.block = true := fun p hp => by simpa using hW.lt p hp
 refine ⟨ds, gs, before, [], pa, pv, hW, hres _ _ _, hargs _ held, hvars _ held, ?_, fun h => by cases h⟩
 refine World.keptBut_mono (fun p hp => ⟨hp, .inr ?_⟩) (hb.frame (· ∈ before))
 rw [hps, List.mem_append] at hp
 exact hp
end
end Go.Proofs.Ytgcajgmokcmcgaa
end
section
namespace Go.Proofs.Ytgcajgmokcmcgaa
open Go
def cutW : List Char := [Char.ofNat 99, Char.ofNat 117, Char.ofNat 116]
theorem strip_cut (rest : List (List Char)) : stripLifts liftWords (cutW :: rest) = ([], cutW :: rest) := by
 have key : ∀ os : List String, (os.all fun o => !(cutW == o.toList)) = true → stripLifts os (cutW :: rest) = ([], cutW :: rest) := by
  intro os
  induction os with
  | nil => intro _; rfl
  | cons o os ih =>
   intro h
   simp only [List.all_cons, Bool.and_eq_true, Bool.not_eq_true'] at h
   unfold stripLifts
   rw [h.1]
   exact ih h.2
 exact key _ (by decide +kernel)
theorem make_cut {P : Program} {rest : List (List Char)} (h : behindMainWord (wordsSigns P.initOrder.toList) = cutW :: rest) : P.make = some .cut := by
 unfold Program.make
 rw [h]
 have e1 : (cutW == "gc".toList || cutW == "spec".toList) = false := by decide +kernel
 have e2 : (cutW == "cut".toList) = true := by decide +kernel
 simp only [e1, e2, Bool.true_or]
 rfl
theorem mayEnter_cut {P : Program} {rest : List (List Char)} (h : behindMainWord (wordsSigns P.initOrder.toList) = cutW :: rest) (h1 : P.laysLater = false) (h2 : P.bearsReflect = false) (h3 : P.doorFits [] = true) : P.mayEnter = true := by
 unfold Program.mayEnter
 rw [h]
 have e2 : (some cutW == some "cut".toList) = true := by decide +kernel
 simp only [strip_cut, h1, h2, h3, List.head?_cons, e2]
 simp
theorem lifts_cut {P : Program} {rest : List (List Char)} (h : behindMainWord (wordsSigns P.initOrder.toList) = cutW :: rest) : P.liftsFinal = false := by
 unfold Program.liftsFinal Program.headLifts
 rw [h]
 have e2 : (some cutW == some "cut".toList) = true := by decide +kernel
 have e3 : (some cutW == some "carried".toList) = false := by decide +kernel
 simp only [strip_cut, List.head?_cons, e2, e3]
 simp
/-- the signs of the head, and its words behind the first three -/
def initRest : List (List Nat) := [[97, 116], [108, 111, 111, 112, 46, 101, 120, 97, 109, 112, 108, 101, 47, 103, 48, 49, 50, 52, 53, 47, 108, 97, 119, 115, 46, 70, 110, 69, 120, 97, 99, 116, 68, 105, 103, 105, 116, 115, 79, 102, 81, 117, 111, 116, 105, 101, 110, 116], [108, 111, 111, 112, 46, 101, 120, 97, 109, 112, 108, 101, 47, 103, 48, 49, 50, 52, 53, 47, 108, 97, 119, 115, 46, 70, 110, 69, 120, 97, 99, 116, 67, 111, 110, 116, 105, 110, 117, 101, 100, 70, 114, 97, 99, 116, 105, 111, 110], [108, 111, 111, 112, 46, 101, 120, 97, 109, 112, 108, 101, 47, 103, 48, 49, 50, 52, 53, 47, 108, 97, 119, 115, 46, 70, 110, 69, 120, 97, 99, 116, 67, 111, 110, 118, 101, 114, 103, 101, 110, 116, 115, 79, 102], [108, 111, 111, 112, 46, 101, 120, 97, 109, 112, 108, 101, 47, 103, 48, 49, 50, 52, 53, 47, 108, 97, 119, 115, 46, 70, 110, 69, 120, 97, 99, 116, 66, 101, 115, 116, 65, 112, 112, 114, 111, 120, 105, 109, 97, 116, 105, 111, 110], [108, 111, 111, 112, 46, 101, 120, 97, 109, 112, 108, 101, 47, 103, 48, 49, 50, 52, 53, 47, 108, 97, 119, 115, 46, 70, 110, 69, 120, 97, 99, 116, 68, 101, 103, 114, 101, 101, 115, 79, 102, 80, 97, 114, 116, 105, 97, 108, 115], [108, 111, 111, 112, 46, 101, 120, 97, 109, 112, 108, 101, 47, 103, 48, 49, 50, 52, 53, 47, 108, 97, 119, 115, 46, 70, 110, 69, 120, 97, 99, 116, 82, 111, 111, 116, 80, 97, 114, 116], [108, 111, 111, 112, 46, 101, 120, 97, 109, 112, 108, 101, 47, 103, 48, 49, 50, 52, 53, 47, 108, 97, 119, 115, 46, 70, 110, 69, 120, 97, 99, 116, 68, 105, 103, 105, 116, 115, 79, 102, 82, 111, 111, 116], [108, 111, 111, 112, 46, 101, 120, 97, 109, 112, 108, 101, 47, 103, 48, 49, 50, 52, 53, 47, 108, 97, 119, 115, 46, 70, 110, 69, 120, 97, 99, 116, 73, 115, 83, 113, 117, 97, 114, 101, 80, 111, 108, 121], [108, 111, 111, 112, 46, 101, 120, 97, 109, 112, 108, 101, 47, 103, 48, 49, 50, 52, 53, 47, 108, 97, 119, 115, 46, 70, 110, 69, 120, 97, 99, 116, 69, 120, 112, 111, 110, 101, 110, 116, 105, 97, 108, 85, 112, 84, 111], [108, 111, 111, 112, 46, 101, 120, 97, 109, 112, 108, 101, 47, 103, 48, 49, 50, 52, 53, 47, 108, 97, 119, 115, 46, 70, 110, 69, 120, 97, 99, 116, 76, 111, 103, 97, 114, 105, 116, 104, 109, 85, 112, 84, 111], [108, 111, 111, 112, 46, 101, 120, 97, 109, 112, 108, 101, 47, 103, 48, 49, 50, 52, 53, 47, 108, 97, 119, 115, 46, 70, 110, 69, 120, 97, 99, 116, 65, 99, 116, 105, 111, 110, 79, 102], [108, 111, 111, 112, 46, 101, 120, 97, 109, 112, 108, 101, 47, 103, 48, 49, 50, 52, 53, 47, 108, 97, 119, 115, 46, 70, 110, 69, 120, 97, 99, 116, 66, 105, 110, 111, 109, 105, 97, 108, 79, 102], [108, 111, 111, 112, 46, 101, 120, 97, 109, 112, 108, 101, 47, 103, 48, 49, 50, 52, 53, 47, 108, 97, 119, 115, 46, 70, 110, 69, 120, 97, 99, 116, 77, 111, 111, 114, 101, 77, 97, 116, 114, 105, 120], [108, 111, 111, 112, 46, 101, 120, 97, 109, 112, 108, 101, 47, 103, 48, 49, 50, 52, 53, 47, 108, 97, 119, 115, 46, 70, 110, 69, 120, 97, 99, 116, 68, 114, 105, 110, 102, 101, 108, 100, 65, 99, 116, 105, 111, 110], [108, 111, 111, 112, 46, 101, 120, 97, 109, 112, 108, 101, 47, 103, 48, 49, 50, 52, 53, 47, 108, 97, 119, 115, 46, 70, 110, 69, 120, 97, 99, 116, 83, 121, 109, 98, 111, 108, 83, 117, 109]]
def initSigns : List Nat := [104, 97, 114, 110, 101, 115, 115, 32, 51, 50, 51, 53, 101, 48, 99, 53, 56, 98, 54, 99, 53, 102, 55, 52, 54, 57, 57, 49, 55, 54, 102, 50, 51, 55, 102, 51, 54, 50, 100, 99, 55, 50, 50, 55, 55, 56, 54, 57, 101, 102, 50, 52, 56, 52, 99, 101, 49, 101, 55, 49, 101, 53, 48, 56, 52, 56, 50, 52, 52, 100, 101, 49, 32, 99, 117, 116] ++ initRest.flatMap fun x => 32 :: x
theorem init_split : behindMainWord (wordsSigns (initSigns.map Char.ofNat)) = cutW :: initRest.map (fun w => w.map Char.ofNat) := by kernel_rfl
theorem init_order : Try.prog.initOrder = String.ofList (initSigns.map Char.ofNat) := by kernel_rfl
theorem init_cut : behindMainWord (wordsSigns Try.prog.initOrder.toList) = cutW :: initRest.map (fun w => w.map Char.ofNat) :=
 (congrArg (fun s : String => behindMainWord (wordsSigns s.toList)) init_order).trans ((congrArg (fun l => behindMainWord (wordsSigns l)) String.toList_ofList).trans init_split)
theorem Try.laysLater : Try.prog.laysLater = false := by kernel_rfl
theorem Try.bearsReflect : Try.prog.bearsReflect = false := by kernel_rfl
theorem Try.doorFits : Try.prog.doorFits [] = true := by kernel_rfl
theorem Try.mayEnter : Try.pinned.checked.prog.mayEnter = true := mayEnter_cut init_cut Try.laysLater Try.bearsReflect Try.doorFits
theorem Try.liftsFinal : Try.pinned.checked.prog.liftsFinal = false := lifts_cut init_cut
theorem Try.make : Try.pinned.checked.prog.make = some .cut := make_cut init_cut
end Go.Proofs.Ytgcajgmokcmcgaa
end
