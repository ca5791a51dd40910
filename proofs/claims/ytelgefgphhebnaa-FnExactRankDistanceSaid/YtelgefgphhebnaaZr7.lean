/-
  What the rows of this claim rest on: arrays of bytes, walks of the functions, plain mathematics.
-/
import Derived.Test.YtelgefgphhebnaaZr6
import Derived.Test.YtelgefgphhebnaaRows
import Derived.ProofKit
import Derived.JoinedOf
section
namespace Go.Proofs.Ytelgefgphhebnaa
open Go Go.RowKit
set_option linter.unusedVariables false
set_option linter.unusedSimpArgs false
theorem bl_one65 (f : Nat → Nat) : ∀ u ∈ bl 64 f, u.oneCell' = true := fun u hu => by
 unfold bl at hu
 obtain ⟨i, _, rfl⟩ := List.mem_map.1 hu
 rfl
theorem callsB3 {fn : FuncId} {args : Array Value} {w : World} {v : Ending} (h : Calls Try.prog fn args w fun e w' => e = v ∧ w = w') : Calls Try.prog fn args w fun e w' => e = v ∧ Below w.heap.size w w' := h.mono (by rintro e w' ⟨rfl, rfl⟩; exact ⟨rfl, Below.refl _ _⟩)
theorem range_cell {w : World} {g i k : Nat} {x : Nat → Nat} (h : w.rangeAt g (i * 64) (bl 64 x)) (hk : k < 64) : w.cell? ⟨g, i * 64 + k, none⟩ = some (.int .u8 (x k : Int)) := h k _ (by unfold bl; rw [List.getElem?_map, List.getElem?_range hk]; rfl)
theorem clr_add (p : Nat) {x y : Nat → Nat} {t : Nat} (h : deg y = (t : Int)) : addK p x y (-(x t : Int)) = clr p x y := by unfold clr; rw [h, Int.toNat_natCast]
theorem mk_add {p n : Nat} {c : Nat → Nat} (hp : 0 < p) (h : deg c = (n : Int)) : ∀ k, k < 64 → addK p (fun _ => 0) c ((invN p (c n) : Nat) : Int) k = mkP p c k := fun k hk => by
 rw [mkP_at h]
 unfold addK sclP
 rw [Int.natCast_zero, Int.zero_add, ← Int.natCast_mul, ← Int.natCast_emod, Int.toNat_natCast, Nat.mul_comm]
attribute [local irreducible] deg clr mkP sclP clrA cln ptL puW addK invN
set_option maxRecDepth 100000 in
set_option maxHeartbeats 9000000 in
theorem l03Put_any (p : Nat) (M : List (Nat → Nat)) (x : Nat → Nat) (a : Option Addr) (cap base0 : Nat) (w : World) (hpr : p = 2 ∨ p = 3 ∨ p = 5 ∨ p = 7) (hM : ∀ r, r ∈ M → cln p r ∧ ∃ t : Nat, deg r = (t : Int) ∧ t < 64) (hM4 : M.length ≤ 4) (hx : cln p x) (hL : SlL w base0 28 64 (.slice a M.length cap) (plR M)) (hb0 : base0 ≤ w.heap.size) :
 Calls Try.prog 96 #[.int .i64 (p : Int), .slice a M.length cap, .agg (zb 64 x)] w fun e w' => ∃ a' cap', e = .returned (.slice a' (ptL p M x).length cap') ∧ SlL w' base0 28 64 (.slice a' (ptL p M x).length cap') (plR (ptL p M x)) ∧ Below w.heap.size w w' := by
 have p0 : 0 < p := by omega
 have hM4I : (M.length : Int) ≤ 4 := by omega
 have HM := Lib.hid hM
 have HCV := Lib.hid (fun i => cvS_cln (p := p) p0 hx (fun r hr => (hM r hr).1) i)
 have HDG := Lib.hid (fun f W => l01Deg_any f W)
 have HAD := Lib.hid (fun f g k W a b c d => l01Add_any p f g k W (by omega) (by omega) a b c d)
 have HZ := Lib.hid (cvS_z p x M)
 have HN := Lib.hid (cvS_n p x M)
 have HCZ := Lib.hid (fun z (h : cln p z) k (hk : k < 64) => (by unfold cln at h; exact h.1 k : z k < p))
 clear hM hx
 go_enter Try.func96, Try.ntmps96
 go_upto_region 1 with (fail)
 obtain ⟨W1, hwo⟩ : ∃ v : World, v = (w.alloc (.cells (zb 64 (x)) 28)) := ⟨_, rfl⟩
 have B0 : Blk W1 (w.heap.size) 64 28 (x) := by subst hwo; have := (Blk.new w 64 28 (x)); simpa using this
 have hb : Below w.heap.size w W1 := by subst hwo; exact ((Below.refl _ _).alloc (Nat.le_refl _) _)
 rw [← hwo]
 clear hwo
 go_wp2_with fail
 have hc0 : Blk W1 (w.heap.size) 64 28 (cvS p x M 0) := by rw [HZ.out]; exact B0
 clear B0
 go_loopw [7] (fun c wr => ∃ i : Nat, c = .int .i64 (i : Int) ∧ i ≤ M.length ∧ Below w.heap.size w wr ∧ Blk wr (w.heap.size) 64 28 (cvS p x M i)) (fun c _ => M.length - (intOf c).toNat)
 case atStart => exact ⟨0, rfl, Nat.zero_le _, hb, hc0⟩
 case round =>
  clear hb hc0
  obtain ⟨i, rfl, hin, hb, B0⟩ := hrel
  by_cases hi : i < M.length
  · have hiI : (i : Int) < (M.length : Int) := by omega
    obtain ⟨r, hr⟩ : ∃ r, M[i]? = some r := ⟨_, List.getElem?_eq_getElem (by omega)⟩
    obtain ⟨g, rfl⟩ := hL.some (by rw [plR_len]; omega)
    obtain ⟨hrc, t, hrt, ht64⟩ := HM.out r (List.mem_of_getElem? hr)
    have hrow := plR_at hr
    have HDR := Lib.hid (show ∀ W, Calls Try.prog _ _ W (fun e w' => e = .returned (.int .i64 (t : Int)) ∧ Below W.heap.size W w') from fun W => hrt ▸ HDG.out r W)
    obtain ⟨c, hc⟩ : ∃ c, c = cvS p x M i := ⟨_, rfl⟩
    have hcc : cln p c := by rw [hc]; exact HCV.out i
    have hcs : cvS p x M (i + 1) = clr p c r := by rw [hc]; exact cvS_s hr
    rw [← hc] at B0
    have hct : c t < p := HCZ.out c hcc t ht64
    have htI : (t : Int) < 64 := by omega
    have ht0 : (0 : Int) ≤ (t : Int) := by omega
    have cc := B0.cell (i := t) ht64
    have hct8 : c t < 8 := by omega
    clear hr hc
    by_cases hz : c t = 0
    · have hcn : cvS p x M (i + 1) = c := by rw [hcs]; exact clr_zero p0 hcc hrt hz
      clear cc hcs
      go_upto_region 5 with (first | (refine wpList_load_mid rfl 28 (.tmp 21) rfl _ (i * 64) rfl (bl 64 r) _ ((hL.zw hb).range hrow) Try.underlying28 rfl (by rw [zl]; exact Try.size28) ?_) | (go_at_call 106; refine (HDR.out _).mono ?_; rintro e W5 ⟨rfl, h5⟩; replace B0 := B0.zw h5; replace hb := hb.trans (h5.mono hb.size)))
      have cc := B0.cell (i := t) ht64
      rw [hz] at cc
      clear hz hct hct8
      go_wp2_with fail
      go_roundw
      case rel => exact ⟨i + 1, by go_num, by omega, hb, by rw [hcn]; exact B0⟩
      case measure => simp [intOf] <;> omega
    · have hcI : ¬ ((c t : Nat) : Int) = 0 := by omega
      have hcI2 : (((c t : Nat) : Int) != 0) = true := by simp; omega
      have HAC := Lib.hid (fun W => HAD.out c r (-(c t : Int)) W (by omega) (by omega) (HCZ.out c hcc) (HCZ.out r hrc))
      rw [clr_add p hrt, ← hcs] at HAC
      obtain ⟨q, hq⟩ : ∃ q, q = c t := ⟨_, rfl⟩
      rw [← hq] at cc hcI hcI2 HAC hct8
      have hq256 : (q : Int) < 256 := by omega
      have HQ := Lib.hid hq
      clear cc hcs hz hct hq
      go_upto_region 5 with (first | (refine wpList_load_mid rfl 28 (.tmp 21) rfl _ (i * 64) rfl (bl 64 r) _ ((hL.zw hb).range hrow) Try.underlying28 rfl (by rw [zl]; exact Try.size28) ?_) | (go_at_call 106; refine (HDR.out _).mono ?_; rintro e W5 ⟨rfl, h5⟩; replace B0 := B0.zw h5; replace hb := hb.trans (h5.mono hb.size)))
      have cc := B0.cell (i := t) ht64
      rw [← HQ.out] at cc
      go_upto_region 6 with (fail)
      clear cc
      have lt_B0 : (w.heap.size) < W5.heap.size := B0.lt
      have hbase : w.heap.size ≤ W5.heap.size := hb.size
      refine zq Try.mixed (by kernel_rfl) (by kernel_rfl) (fun v => by (simp only [frL, Act.put, pA, pB, pC, Nat.reduceAdd, Nat.zero_add]; exact rfl))
       (fun L v W2 => Below w.heap.size w W2 ∧ Kx [w.heap.size] W5 W2 ∧ (∃ g, Blk W2 (w.heap.size) 64 28 (g)) ∧ (L 12 = false → Blk W2 (w.heap.size) 64 28 (c)) ∧ (L 12 = true → Blk W2 (w.heap.size) 64 28 (cvS p x M (i + 1))) ∧ VF L v [some (.int .i64 (p : Int)), some (.agg (zb 64 (c))), some (.slice (some ⟨g, 0, none⟩) M.length cap), some (.int .i64 (i : Int)), some (.pointer (some ⟨g, i * 64, none⟩)), some (.agg (zb 64 (r))), some (.int .i64 (t : Int)), some (.pointer (some ⟨w.heap.size, t, none⟩)), some (.int .u8 ((q : Nat) : Int)), some (.int .i64 ((q : Nat) : Int)), some (.int .i64 (-((q : Nat) : Int))), some (.agg (zb 64 (cvS p x M (i + 1)))), none]) ?_ ?_ ?_
      · intro v hv0
        exact ⟨hb.drew, Kx.start _ _, ⟨_, B0.drew⟩, (fun _ => B0.drew), (fun h => by cases h), VF.start⟩
      · refine (.cons rfl ?_ (.cons rfl ?_ (.cons rfl ?_ (.cons rfl ?_ (.cons rfl ?_ (.cons rfl ?_ (.cons rfl ?_ (.cons rfl ?_ (.cons rfl ?_ (.cons rfl ?_ (.cons rfl ?_ (.cons rfl ?_ (.cons rfl ?_ (.nil _))))))))))))))
        all_goals intro L v W2 hd hn ⟨hB, hX, x0, q0, n0, V⟩ K hK
        · go_wp2_with fail
          exact hK _ (.int .i64 (p : Int)) _ (by simp only [Act.put, pA, pB, pC ]) ⟨hB, hX, x0, q0, n0, V.step 0 rfl⟩
        · have s0 := q0 (by
           cases hL : L 12 with
           | false => rfl
           | true => exact absurd rfl (hn 12 _ rfl hL ⟨1, .phase⟩ (by simp) rfl))
          refine zlc s0 Try.underlying28 Try.size28 ?_
          exact hK _ _ _ rfl ⟨hB, hX, x0, q0, n0, V.step 1 rfl⟩
        · go_wp2_with fail
          exact hK _ (.slice (some ⟨g, 0, none⟩) M.length cap) _ (by simp only [Act.put, pA, pB, pC ]) ⟨hB, hX, x0, q0, n0, V.step 2 rfl⟩
        · go_wp2_with fail
          exact hK _ (.int .i64 (i : Int)) _ (by simp only [Act.put, pA, pB, pC ]) ⟨hB, hX, x0, q0, n0, V.step 3 rfl⟩
        · have e2 := V.at (zdq hd 2 rfl) rfl
          have e3 := V.at (zdq hd 3 rfl) rfl
          go_wp2_with fail
          exact hK _ (.pointer (some ⟨g, i * 64, none⟩)) _ (by simp only [Act.put, pA, pB, pC, e2, e3]) ⟨hB, hX, x0, q0, n0, V.step 4 rfl⟩
        · have e4 := V.at (zdq hd 4 rfl) rfl
          refine wp_load_mid 28 _ rfl _ (i * 64) e4 _ _ ((hL.below (by first | exact hB | exact hb.trans (hY.mono hb.size)) hL.lt).range hrow) Try.underlying28 rfl (by rw [zl]; exact Try.size28) ?_
          exact hK _ _ _ rfl ⟨hB, hX, x0, q0, n0, V.step 5 rfl⟩
        · go_wp2_with fail
          exact hK _ (.int .i64 (t : Int)) _ (by simp only [Act.put, pA, pB, pC ]) ⟨hB, hX, x0, q0, n0, V.step 6 rfl⟩
        · have e6 := V.at (zdq hd 6 rfl) rfl
          go_wp2_with fail
          exact hK _ (.pointer (some ⟨w.heap.size, t, none⟩)) _ (by simp only [Act.put, pA, pB, pC, e6]) ⟨hB, hX, x0, q0, n0, V.step 7 rfl⟩
        · have e7 := V.at (zdq hd 7 rfl) rfl
          have s0 := q0 (by
           cases hL : L 12 with
           | false => rfl
           | true => exact absurd rfl (hn 12 _ rfl hL ⟨8, .phase⟩ (by simp) rfl))
          have cc := s0.cell (i := t) ht64
          rw [← HQ.out] at cc
          go_wp2_with fail
          exact hK _ (.int .u8 ((q : Nat) : Int)) _ (by simp only [Act.put, pA, pB, pC, e7]) ⟨hB, hX, x0, q0, n0, V.step 8 rfl⟩
        · have e8 := V.at (zdq hd 8 rfl) rfl
          go_wp2_with fail
          exact hK _ (.int .i64 ((q : Nat) : Int)) _ (by simp only [Act.put, pA, pB, pC, e8]) ⟨hB, hX, x0, q0, n0, V.step 9 rfl⟩
        · have e9 := V.at (zdq hd 9 rfl) rfl
          go_wp2_with fail
          exact hK _ (.int .i64 (-((q : Nat) : Int))) _ (by simp only [Act.put, pA, pB, pC, e9]) ⟨hB, hX, x0, q0, n0, V.step 10 rfl⟩
        · have e0 := V.at (zdq hd 0 rfl) rfl
          have e1 := V.at (zdq hd 1 rfl) rfl
          have e5 := V.at (zdq hd 5 rfl) rfl
          have e10 := V.at (zdq hd 10 rfl) rfl
          go_wp2_with (go_at_call 80; refine (HAC.out _).mono ?_; rintro e wy ⟨rfl, hy⟩)
          exact hK _ (.agg (zb 64 (cvS p x M (i + 1)))) _ (by simp only [Act.put, pA, pB, pC, e0, e1, e5, e10]) ⟨hB.trans (hy.mono hB.size), hX.below hy, (let ⟨g, h⟩ := x0; ⟨g, h.zw hy⟩), (fun h => (q0 h).below hy (q0 h).lt), (fun h => (n0 h).below hy (n0 h).lt), V.step 11 rfl⟩
        · have e11 := V.at (zdq hd 11 rfl) rfl
          obtain ⟨gz, hk⟩ := x0
          refine zsb 28 _ _ rfl _ 64 (cvS p x M (i + 1)) rfl e11 28 gz hk Try.size28 ?_
          exact hK _ undef _ rfl ⟨zr hB (by omega) _, hX.row (by simp) _, ⟨_, hk.row _⟩, (fun h => absurd h (by simp [setL])), (fun _ => hk.row _), V.skip 12 rfl⟩
      · intro L v W2 hL ⟨hB, hX, x0, q0, n0, V⟩
        have r0 := n0 (hL 12 (by decide))
        have e0 := V.at (hL 0 (by decide)) rfl
        have e1 := V.at (hL 1 (by decide)) rfl
        have e2 := V.at (hL 2 (by decide)) rfl
        have e3 := V.at (hL 3 (by decide)) rfl
        have e4 := V.at (hL 4 (by decide)) rfl
        have e5 := V.at (hL 5 (by decide)) rfl
        have e6 := V.at (hL 6 (by decide)) rfl
        have e7 := V.at (hL 7 (by decide)) rfl
        have e8 := V.at (hL 8 (by decide)) rfl
        have e9 := V.at (hL 9 (by decide)) rfl
        have e10 := V.at (hL 10 (by decide)) rfl
        have e11 := V.at (hL 11 (by decide)) rfl
        clear hL x0 q0 n0 V
        clear hX
        simp only [Exit.then, e0, e1, e2, e3, e4, e5, e6, e7, e8, e9, e10, e11]
        clear e0 e1 e2 e3 e4 e5 e6 e7 e8 e9 e10 e11
        replace B0 := r0
        clear r0
        replace hb := hB
        clear hB
        clear hbase lt_B0
        go_wp2_with fail
        go_roundw
        case rel => exact ⟨i + 1, by go_num, by omega, hb, B0⟩
        case measure => simp [intOf] <;> omega
  · have hiI : ¬ (i : Int) < (M.length : Int) := by omega
    obtain rfl : i = M.length := by omega
    obtain ⟨c, hc⟩ : ∃ c, c = cvS p x M M.length := ⟨_, rfl⟩
    have hcA : c = clrA p x M := by rw [hc]; exact HN.out
    have hcc : cln p c := by rw [hc]; exact HCV.out _
    rw [← hc] at B0
    clear hc HCV
    obtain ⟨D, hD⟩ : ∃ D, D = deg c := ⟨_, rfl⟩
    have HLD := Lib.hid (show ∀ W, Calls Try.prog _ _ W (fun e w' => e = .returned (.int .i64 D) ∧ Below W.heap.size W w') from fun W => hD ▸ HDG.out c W)
    have hDb := zdb c
    rw [← hD] at hDb
    have HD := Lib.hid hD
    have HCA := Lib.hid hcA
    have HCC := Lib.hid hcc
    clear hD hcA hcc
    by_cases hneg : D < 0
    · have HR := Lib.hid (show ptL p M x = M from ptL_no (by rw [← HCA.out, ← HD.out]; exact hneg))
      go_upto_region 7 with (fail)
      go_wp2_with (first | (refine zla (.tmp 5) B0 Try.underlying28 Try.size28 ?_) | (go_at_call 106; refine (HLD.out _).mono ?_; rintro e W2 ⟨rfl, hW2⟩; replace B0 := B0.zw hW2; replace hb := (hb).trans (hW2.mono (hb).size)))
      go_ret
      exact ⟨a, cap, by rw [HR.out]; rfl, by rw [HR.out]; exact hL.zw hb, hb⟩
    · obtain ⟨n, hn⟩ : ∃ n : Nat, D = (n : Int) := ⟨D.toNat, by omega⟩
      have hn64 : n < 64 := by omega
      have HR := Lib.hid (show ptL p M x = puW p n (mkP p c) false M by rw [HCA.out]; exact ptL_yes (by rw [← HCA.out, ← HD.out]; exact hn))
      obtain ⟨hm1, hm2, _, _⟩ := mkP_cln hpr HCC.out (HD.out.symm.trans hn)
      have hcn0 : 0 < c n := (deg_top (HD.out.symm.trans hn)).2.1
      have hcnp : c n < p := HCZ.out c HCC.out n hn64
      obtain ⟨i1, i2, _, _⟩ := invF hpr hcn0 hcnp
      have HIV := Lib.hid (fun W => callsB3 (l01Inverse_any p (c n) W hpr hcn0 hcnp))
      have HAC := Lib.hid (fun W => HAD.out (fun _ => 0) c ((invN p (c n) : Nat) : Int) W (by omega) (by omega) (fun k _ => p0) (HCZ.out c HCC.out))
      rw [zbc (mk_add p0 (HD.out.symm.trans hn))] at HAC
      obtain ⟨m, hm⟩ : ∃ m, m = mkP p c := ⟨_, rfl⟩
      rw [← hm] at hm1 hm2 HR HAC
      have HM1 := Lib.hid hm1
      have HM2 := Lib.hid hm2
      obtain ⟨q, hq⟩ : ∃ q, q = c n := ⟨_, rfl⟩
      obtain ⟨v1, hv1⟩ : ∃ v1, v1 = invN p (c n) := ⟨_, rfl⟩
      rw [← hv1] at HIV HAC i2
      rw [← hq] at HIV
      have hq256 : q < 256 := by omega
      have hv256 : v1 < 256 := by omega
      have HQ := Lib.hid hq
      have HT := Lib.hid hn
      have hnI : (n : Int) < 64 := by omega
      subst hn
      clear hm hm1 hm2 hq hv1 hcn0 hcnp
      go_upto_region 7 with (fail)
      go_upto_region 10 with (first | (refine zla (.tmp 5) B0 Try.underlying28 Try.size28 ?_) | (go_at_call 106; refine (HLD.out _).mono ?_; rintro e W2 ⟨rfl, hW2⟩; replace B0 := B0.zw hW2; replace hb := (hb).trans (hW2.mono (hb).size)))
      have lt_B0 : (w.heap.size) < W2.heap.size := B0.lt
      have hbase : w.heap.size ≤ W2.heap.size := hb.size
      refine zq Try.mixed (by kernel_rfl) (by kernel_rfl) (fun v => by (simp only [frL, Act.put, pA, pB, pC, Nat.reduceAdd, Nat.zero_add]; exact rfl))
       (fun L v W3 => Below w.heap.size w W3 ∧ Kx [w.heap.size] W2 W3 ∧ (∃ g, Blk W3 (w.heap.size) 64 28 (g)) ∧ (L 10 = false → Blk W3 (w.heap.size) 64 28 (c)) ∧ (L 10 = true → Blk W3 (w.heap.size) 64 28 (m)) ∧ VF L v [some (.int .i64 (p : Int)), some (.agg (zb 64 (fun _ => 0))), some (.agg (zb 64 (c))), some (.int .i64 (p : Int)), some (.int .i64 (n : Int)), some (.pointer (some ⟨w.heap.size, n, none⟩)), some (.int .u8 ((q : Nat) : Int)), some (.int .u8 ((v1 : Nat) : Int)), some (.int .i64 ((v1 : Nat) : Int)), some (.agg (zb 64 (m))), none]) ?_ ?_ ?_
      · intro v hv0
        exact ⟨hb.drew, Kx.start _ _, ⟨_, B0.drew⟩, (fun _ => B0.drew), (fun h => by cases h), VF.start⟩
      · refine (.cons rfl ?_ (.cons rfl ?_ (.cons rfl ?_ (.cons rfl ?_ (.cons rfl ?_ (.cons rfl ?_ (.cons rfl ?_ (.cons rfl ?_ (.cons rfl ?_ (.cons rfl ?_ (.cons rfl ?_ (.nil _))))))))))))
        all_goals intro L v W3 hd hn ⟨hB, hX, x0, q0, n0, V⟩ K hK
        · go_wp2_with fail
          exact hK _ (.int .i64 (p : Int)) _ (by simp only [Act.put, pA, pB, pC ]) ⟨hB, hX, x0, q0, n0, V.step 0 rfl⟩
        · go_wp2_with fail
          rw [← z64]
          exact hK _ (.agg (zb 64 (fun _ => 0))) _ (by simp only [Act.put, pA, pB, pC ]) ⟨hB, hX, x0, q0, n0, V.step 1 rfl⟩
        · have s0 := q0 (by
           cases hL : L 10 with
           | false => rfl
           | true => exact absurd rfl (hn 10 _ rfl hL ⟨2, .phase⟩ (by simp) rfl))
          refine zlc s0 Try.underlying28 Try.size28 ?_
          exact hK _ _ _ rfl ⟨hB, hX, x0, q0, n0, V.step 2 rfl⟩
        · go_wp2_with fail
          exact hK _ (.int .i64 (p : Int)) _ (by simp only [Act.put, pA, pB, pC ]) ⟨hB, hX, x0, q0, n0, V.step 3 rfl⟩
        · go_wp2_with fail
          exact hK _ (.int .i64 (n : Int)) _ (by simp only [Act.put, pA, pB, pC ]) ⟨hB, hX, x0, q0, n0, V.step 4 rfl⟩
        · have e4 := V.at (zdq hd 4 rfl) rfl
          go_wp2_with fail
          exact hK _ (.pointer (some ⟨w.heap.size, n, none⟩)) _ (by simp only [Act.put, pA, pB, pC, e4]) ⟨hB, hX, x0, q0, n0, V.step 5 rfl⟩
        · have e5 := V.at (zdq hd 5 rfl) rfl
          have s0 := q0 (by
           cases hL : L 10 with
           | false => rfl
           | true => exact absurd rfl (hn 10 _ rfl hL ⟨6, .phase⟩ (by simp) rfl))
          have cc := s0.cell (i := n) hn64
          rw [← HQ.out] at cc
          go_wp2_with fail
          exact hK _ (.int .u8 ((q : Nat) : Int)) _ (by simp only [Act.put, pA, pB, pC, e5]) ⟨hB, hX, x0, q0, n0, V.step 6 rfl⟩
        · have e3 := V.at (zdq hd 3 rfl) rfl
          have e6 := V.at (zdq hd 6 rfl) rfl
          go_wp2_with (go_at_call 128; refine (HIV.out _).mono ?_; rintro e wy ⟨rfl, hy⟩)
          exact hK _ (.int .u8 ((v1 : Nat) : Int)) _ (by simp only [Act.put, pA, pB, pC, e3, e6]) ⟨hB.trans (hy.mono hB.size), hX.below hy, (let ⟨g, h⟩ := x0; ⟨g, h.zw hy⟩), (fun h => (q0 h).below hy (q0 h).lt), (fun h => (n0 h).below hy (n0 h).lt), V.step 7 rfl⟩
        · have e7 := V.at (zdq hd 7 rfl) rfl
          go_wp2_with fail
          exact hK _ (.int .i64 ((v1 : Nat) : Int)) _ (by simp only [Act.put, pA, pB, pC, e7]) ⟨hB, hX, x0, q0, n0, V.step 8 rfl⟩
        · have e0 := V.at (zdq hd 0 rfl) rfl
          have e1 := V.at (zdq hd 1 rfl) rfl
          have e2 := V.at (zdq hd 2 rfl) rfl
          have e8 := V.at (zdq hd 8 rfl) rfl
          go_wp2_with (go_at_call 80; refine (HAC.out _).mono ?_; rintro e wy ⟨rfl, hy⟩)
          exact hK _ (.agg (zb 64 (m))) _ (by simp only [Act.put, pA, pB, pC, e0, e1, e2, e8]) ⟨hB.trans (hy.mono hB.size), hX.below hy, (let ⟨g, h⟩ := x0; ⟨g, h.zw hy⟩), (fun h => (q0 h).below hy (q0 h).lt), (fun h => (n0 h).below hy (n0 h).lt), V.step 9 rfl⟩
        · have e9 := V.at (zdq hd 9 rfl) rfl
          obtain ⟨gz, hk⟩ := x0
          refine zsb 28 _ _ rfl _ 64 (m) rfl e9 28 gz hk Try.size28 ?_
          exact hK _ undef _ rfl ⟨zr hB (by omega) _, hX.row (by simp) _, ⟨_, hk.row _⟩, (fun h => absurd h (by simp [setL])), (fun _ => hk.row _), V.skip 10 rfl⟩
      · intro L v W3 hL ⟨hB, hX, x0, q0, n0, V⟩
        have r0 := n0 (hL 10 (by decide))
        have e0 := V.at (hL 0 (by decide)) rfl
        have e1 := V.at (hL 1 (by decide)) rfl
        have e2 := V.at (hL 2 (by decide)) rfl
        have e3 := V.at (hL 3 (by decide)) rfl
        have e4 := V.at (hL 4 (by decide)) rfl
        have e5 := V.at (hL 5 (by decide)) rfl
        have e6 := V.at (hL 6 (by decide)) rfl
        have e7 := V.at (hL 7 (by decide)) rfl
        have e8 := V.at (hL 8 (by decide)) rfl
        have e9 := V.at (hL 9 (by decide)) rfl
        clear hL x0 q0 n0 V
        clear hX
        simp only [Exit.then, e0, e1, e2, e3, e4, e5, e6, e7, e8, e9]
        clear e0 e1 e2 e3 e4 e5 e6 e7 e8 e9
        replace B0 := r0
        clear r0
        replace hb := hB
        clear hB
        clear hbase lt_B0
        obtain ⟨base, hbe⟩ : ∃ b, b = W3.heap.size := ⟨_, rfl⟩
        have hbw : w.heap.size ≤ base := by rw [hbe]; exact hb.size
        have hbm : w.heap.size < base := by rw [hbe]; exact B0.lt
        have hS0 : SlL (W3.alloc (.cells #[] 28)) base 28 64 (.slice (some ⟨W3.heap.size, 0, none⟩) 0 0) (plR []) := by rw [plR_nil]; exact slL_empty W3 28 64 (Nat.le_of_eq hbe)
        have hb1 : Below w.heap.size w (W3.alloc (.cells #[] 28)) := hb.alloc hb.size _
        have B0' := B0.alloc (.cells #[] 28)
        clear hb hbe B0
        go_wp2_with fail
        go_loopw [10, 11, 12] (fun s f c wr => ∃ (i : Nat) (pl : Bool) (lst : Value) (Q : List (Nat → Nat)), lst = s ∧ f = .bool pl ∧ c = .int .i64 (i : Int) ∧ i ≤ M.length ∧ Q.length ≤ 2 * i ∧ Hid (Q ++ puW p n m pl (M.drop i) = ptL p M x) ∧ Below w.heap.size w wr ∧ Blk wr (w.heap.size) 64 28 m ∧ SlL wr base 28 64 lst (plR Q)) (fun _ _ c _ => M.length - (intOf c).toNat)
        case atStart => exact ⟨0, false, _, [], rfl, rfl, rfl, Nat.zero_le _, by simp, Lib.hid (by rw [HR.out]; rfl), hb1, B0', hS0⟩
        case round =>
         clear hb1 B0' hS0 HR
         obtain ⟨i, pl, lst, Q, rfl, rfl, rfl, hin, hQl, hE, hb, B0, hSl⟩ := hrel
         by_cases hi : i < M.length
         · have hiI : (i : Int) < (M.length : Int) := by omega
           obtain ⟨r, hr⟩ : ∃ r, M[i]? = some r := ⟨_, List.getElem?_eq_getElem (by omega)⟩
           obtain ⟨g, rfl⟩ := hL.some (by rw [plR_len]; omega)
           obtain ⟨hrc, t, hrt, ht64⟩ := HM.out r (List.mem_of_getElem? hr)
           have hrow := plR_at hr
           have HDR := Lib.hid (show ∀ W, Calls Try.prog _ _ W (fun e w' => e = .returned (.int .i64 (t : Int)) ∧ Below W.heap.size W w') from fun W => hrt ▸ HDG.out r W)
           have hdp : M.drop i = r :: M.drop (i + 1) := by rw [List.drop_eq_getElem_cons hi]; congr 1; exact (List.getElem?_eq_some_iff.1 hr).2
           have hrn : r n < p := HCZ.out r hrc n hn64
           have HAC := Lib.hid (fun W => HAD.out r m (-(r n : Int)) W (by omega) (by omega) (HCZ.out r hrc) (HCZ.out m HM1.out))
           rw [clr_add p HM2.out] at HAC
           obtain ⟨y, hy⟩ : ∃ y, y = clr p r m := ⟨_, rfl⟩
           rw [← hy] at HAC
           obtain ⟨q, hq⟩ : ∃ q, q = r n := ⟨_, rfl⟩
           rw [← hq] at HAC hrn
           have HQ := Lib.hid hq
           have hq256 : (q : Int) < 256 := by omega
           have hrd : decide (deg r < (n : Int)) = decide (t < n) := by rw [hrt]; simp
           have HDT := Lib.hid hrt
           have HY := Lib.hid hy
           have HDP := Lib.hid hdp
           have hQ8 : Q.length ≤ 8 := by omega
           clear hr hq hy hdp hrc hrt hrd
           have hd15 : True := trivial
           cases pl with
           | false =>
            by_cases htn : t < n
            · have htI : (t : Int) < (n : Int) := by omega
              have HE2 := Lib.hid (show ((Q ++ [m]) ++ [y]) ++ puW p n m true (M.drop (i + 1)) = ptL p M x by rw [← hE.out, HDP.out, puW_in (by rw [HDT.out]; omega), HY.out]; simp)
              clear hE
              go_upto_region 16 with (first | (refine wpList_load_mid_g (by simp [Region.wanted, yielded]) 28 (.tmp 67) rfl _ (i * 64) rfl (bl 64 r) _ ((hL.zw hb).range hrow) Try.underlying28 rfl (by rw [zl]; exact Try.size28) ?_) | (go_at_call 106; refine (HDR.out _).mono ?_; rintro e W5 ⟨rfl, h5⟩; replace B0 := B0.zw h5; replace hSl := hSl.zw h5; replace hb := hb.trans (h5.mono hb.size)))
              have hlS := hSl.own
              go_upto_region 17 with (first | (refine zla (.tmp 5) B0 Try.underlying28 Try.size28 ?_) | (refine wpList_build1 rfl 30 _ (bl 64 m) 64 rfl 28 Try.underlying30 Try.elem28 (by decide) (by decide) (zl _ _) rfl ?_; intro wa hrw hba; have eS := hSl.zw hba; have eB := B0.zw hba; have ehb := hb.trans (hba.mono hb.size)) | (at_builtin; refine wpList_append_sl _ rfl _ _ 30 rfl base 28 (.agg (zb 64 fun _ => 0)) 64 64 Try.underlying30 Try.infoPoly (by simp [Value.cells, bl]) (by decide) lst _ rfl eS W5.heap.size (bl 64 m) rfl (zl _ _) hrw.range (bl_one65 m) (by rw [plR_len]; unfold maxLen; omega) (by rw [plR_len]; omega) ?_; intro vp wp hSp hg1))
              have fhb := ehb.grown hg1 ehb.size (fun k e => Nat.le_trans hbw (hlS k e))
              have fB : Blk wp (w.heap.size) 64 28 m := eB.grownO hg1 (base := base) (fun r e => hlS r e) hbm
              rw [← plR_snoc] at hSp
              clear hb B0 hSl eS eB ehb hlS hba hrw hg1
              have hb := fhb
              have B0 := fB
              have hQ9 : (Q ++ [m]).length ≤ 9 := by rw [List.length_append, List.length_singleton]; omega
              obtain ⟨Q2, hQ2⟩ : ∃ Q2, Q2 = Q ++ [m] := ⟨_, rfl⟩
              have hQ2l : Q2.length = Q.length + 1 := by rw [hQ2, List.length_append, List.length_singleton]
              rw [← hQ2] at hSp HE2 hQ9
              clear hQ2 fhb fB
              obtain ⟨lst2, hlst⟩ : ∃ l, l = vp := ⟨_, rfl⟩
              rw [← hlst] at hSp ⊢
              have hSl := hSp
              clear hlst hSp
              go_upto_region 18 with (fail)
              have lt_B0 := B0.lt
              have hbase := hb.size
              refine wp_region_stepsU Try.mixed (by kernel_rfl) (by kernel_rfl) (fun v => by (simp only [frL, Act.put, pA, pB, pC, Nat.reduceAdd, Nat.zero_add]; exact rfl))
               (fun L v wx => Below w.heap.size w wx ∧ wp.heap.size ≤ wx.heap.size ∧ Blk wx (w.heap.size) 64 28 (m) ∧ (L 17 = false → SlL wx base 28 64 lst2 (plR Q2)) ∧ (L 0 = true → v 0 = lst2) ∧ (L 1 = true → v 1 = (.int .i64 (p : Int))) ∧ (L 2 = true → v 2 = (.slice (some ⟨g, 0, none⟩) M.length cap)) ∧ (L 3 = true → v 3 = (.int .i64 (i : Int))) ∧ (L 4 = true → v 4 = (.pointer (some ⟨g, i * 64, none⟩))) ∧ (L 5 = true → v 5 = (.agg (bl 64 r).toArray)) ∧ (L 6 = true → v 6 = (.agg (zb 64 m))) ∧ (L 7 = true → v 7 = (.slice (some ⟨g, 0, none⟩) M.length cap)) ∧ (L 8 = true → v 8 = (.int .i64 (i : Int))) ∧ (L 9 = true → v 9 = (.int .i64 (n : Int))) ∧ (L 10 = true → v 10 = (.pointer (some ⟨g, i * 64, none⟩))) ∧ (L 11 = true → v 11 = (.pointer (some ⟨g, i * 64 + n, none⟩))) ∧ (L 12 = true → v 12 = (.int .u8 ((q : Nat) : Int))) ∧ (L 13 = true → v 13 = (.int .i64 ((q : Nat) : Int))) ∧ (L 14 = true → v 14 = (.int .i64 (-((q : Nat) : Int)))) ∧ (L 15 = true → v 15 = (.agg (zb 64 y))) ∧ (L 18 = false → v 18 = lst2) ∧ (L 17 = false → L 16 = true → ∃ b, v 16 = .slice (some ⟨b, 0, none⟩) 1 1 ∧ wp.heap.size ≤ b ∧ Row wx b 28 (bl 64 (y)).toArray) ∧ (L 17 = true → SlL wx base 28 64 (v 17) (plR (Q2 ++ [y]))) ∧ (L 18 = true → v 18 = v 17)) ?_ ?_ ?_
              · exact ⟨hb.drew, Nat.le_refl _, B0.drew, (fun _ => SlL.drew hSl), (fun h => by cases h), (fun h => by cases h), (fun h => by cases h), (fun h => by cases h), (fun h => by cases h), (fun h => by cases h), (fun h => by cases h), (fun h => by cases h), (fun h => by cases h), (fun h => by cases h), (fun h => by cases h), (fun h => by cases h), (fun h => by cases h), (fun h => by cases h), (fun h => by cases h), (fun h => by cases h), (fun _ => rfl), (fun _ h => by cases h), (fun h => by cases h), (fun h => by cases h)⟩
              · refine (.cons rfl ?_ (.cons rfl ?_ (.cons rfl ?_ (.cons rfl ?_ (.cons rfl ?_ (.cons rfl ?_ (.cons rfl ?_ (.cons rfl ?_ (.cons rfl ?_ (.cons rfl ?_ (.cons rfl ?_ (.cons rfl ?_ (.cons rfl ?_ (.cons rfl ?_ (.cons rfl ?_ (.cons rfl ?_ (.cons rfl ?_ (.cons rfl ?_ (.cons rfl ?_ (.nil _))))))))))))))))))))
                · intro L v wx hd hn hU ⟨hB, hz, s0, sl, h0, h1, h2, h3, h4, h5, h6, h7, h8, h9, h10, h11, h12, h13, h14, h15, hI, hb_, hA_, hC_⟩ K hK
                  have eI := hI (by cases hl : L 18 with | false => rfl | true => exact absurd rfl (hn 18 _ rfl hl ⟨0, .phase⟩ (by simp) rfl))
                  go_wp2_with fail
                  exact hK _ lst2 _ (by simp only [Act.put, pA, pB, pC, eI]) ⟨hB, hz, s0, sl, (fun _ => rfl), h1, h2, h3, h4, h5, h6, h7, h8, h9, h10, h11, h12, h13, h14, h15, hI, hb_, hA_, hC_⟩
                · intro L v wx hd hn hU ⟨hB, hz, s0, sl, h0, h1, h2, h3, h4, h5, h6, h7, h8, h9, h10, h11, h12, h13, h14, h15, hI, hb_, hA_, hC_⟩ K hK
                  go_wp2_with fail
                  exact hK _ (.int .i64 (p : Int)) _ (by simp only [Act.put, pA, pB, pC]) ⟨hB, hz, s0, sl, h0, (fun _ => rfl), h2, h3, h4, h5, h6, h7, h8, h9, h10, h11, h12, h13, h14, h15, hI, hb_, hA_, hC_⟩
                · intro L v wx hd hn hU ⟨hB, hz, s0, sl, h0, h1, h2, h3, h4, h5, h6, h7, h8, h9, h10, h11, h12, h13, h14, h15, hI, hb_, hA_, hC_⟩ K hK
                  go_wp2_with fail
                  exact hK _ (.slice (some ⟨g, 0, none⟩) M.length cap) _ (by simp only [Act.put, pA, pB, pC]) ⟨hB, hz, s0, sl, h0, h1, (fun _ => rfl), h3, h4, h5, h6, h7, h8, h9, h10, h11, h12, h13, h14, h15, hI, hb_, hA_, hC_⟩
                · intro L v wx hd hn hU ⟨hB, hz, s0, sl, h0, h1, h2, h3, h4, h5, h6, h7, h8, h9, h10, h11, h12, h13, h14, h15, hI, hb_, hA_, hC_⟩ K hK
                  go_wp2_with fail
                  exact hK _ (.int .i64 (i : Int)) _ (by simp only [Act.put, pA, pB, pC]) ⟨hB, hz, s0, sl, h0, h1, h2, (fun _ => rfl), h4, h5, h6, h7, h8, h9, h10, h11, h12, h13, h14, h15, hI, hb_, hA_, hC_⟩
                · intro L v wx hd hn hU ⟨hB, hz, s0, sl, h0, h1, h2, h3, h4, h5, h6, h7, h8, h9, h10, h11, h12, h13, h14, h15, hI, hb_, hA_, hC_⟩ K hK
                  have e2 := h2 (zdq hd 2 rfl)
                  have e3 := h3 (zdq hd 3 rfl)
                  go_wp2_with fail
                  exact hK _ (.pointer (some ⟨g, i * 64, none⟩)) _ (by simp only [Act.put, pA, pB, pC, e2, e3]) ⟨hB, hz, s0, sl, h0, h1, h2, h3, (fun _ => rfl), h5, h6, h7, h8, h9, h10, h11, h12, h13, h14, h15, hI, hb_, hA_, hC_⟩
                · intro L v wx hd hn hU ⟨hB, hz, s0, sl, h0, h1, h2, h3, h4, h5, h6, h7, h8, h9, h10, h11, h12, h13, h14, h15, hI, hb_, hA_, hC_⟩ K hK
                  have e4 := h4 (zdq hd 4 rfl)
                  refine wp_load_mid 28 _ rfl _ (i * 64) e4 _ _ ((hL.zw hB).range hrow) Try.underlying28 rfl (by rw [zl]; exact Try.size28) ?_
                  exact hK _ _ _ rfl ⟨hB, hz, s0, sl, h0, h1, h2, h3, h4, (fun _ => rfl), h6, h7, h8, h9, h10, h11, h12, h13, h14, h15, hI, hb_, hA_, hC_⟩
                · intro L v wx hd hn hU ⟨hB, hz, s0, sl, h0, h1, h2, h3, h4, h5, h6, h7, h8, h9, h10, h11, h12, h13, h14, h15, hI, hb_, hA_, hC_⟩ K hK
                  refine zlc s0 Try.underlying28 Try.size28 ?_
                  exact hK _ _ _ rfl ⟨hB, hz, s0, sl, h0, h1, h2, h3, h4, h5, (fun _ => rfl), h7, h8, h9, h10, h11, h12, h13, h14, h15, hI, hb_, hA_, hC_⟩
                · intro L v wx hd hn hU ⟨hB, hz, s0, sl, h0, h1, h2, h3, h4, h5, h6, h7, h8, h9, h10, h11, h12, h13, h14, h15, hI, hb_, hA_, hC_⟩ K hK
                  go_wp2_with fail
                  exact hK _ (.slice (some ⟨g, 0, none⟩) M.length cap) _ (by simp only [Act.put, pA, pB, pC]) ⟨hB, hz, s0, sl, h0, h1, h2, h3, h4, h5, h6, (fun _ => rfl), h8, h9, h10, h11, h12, h13, h14, h15, hI, hb_, hA_, hC_⟩
                · intro L v wx hd hn hU ⟨hB, hz, s0, sl, h0, h1, h2, h3, h4, h5, h6, h7, h8, h9, h10, h11, h12, h13, h14, h15, hI, hb_, hA_, hC_⟩ K hK
                  go_wp2_with fail
                  exact hK _ (.int .i64 (i : Int)) _ (by simp only [Act.put, pA, pB, pC]) ⟨hB, hz, s0, sl, h0, h1, h2, h3, h4, h5, h6, h7, (fun _ => rfl), h9, h10, h11, h12, h13, h14, h15, hI, hb_, hA_, hC_⟩
                · intro L v wx hd hn hU ⟨hB, hz, s0, sl, h0, h1, h2, h3, h4, h5, h6, h7, h8, h9, h10, h11, h12, h13, h14, h15, hI, hb_, hA_, hC_⟩ K hK
                  go_wp2_with fail
                  exact hK _ (.int .i64 (n : Int)) _ (by simp only [Act.put, pA, pB, pC]) ⟨hB, hz, s0, sl, h0, h1, h2, h3, h4, h5, h6, h7, h8, (fun _ => rfl), h10, h11, h12, h13, h14, h15, hI, hb_, hA_, hC_⟩
                · intro L v wx hd hn hU ⟨hB, hz, s0, sl, h0, h1, h2, h3, h4, h5, h6, h7, h8, h9, h10, h11, h12, h13, h14, h15, hI, hb_, hA_, hC_⟩ K hK
                  have e7 := h7 (zdq hd 7 rfl)
                  have e8 := h8 (zdq hd 8 rfl)
                  go_wp2_with fail
                  exact hK _ (.pointer (some ⟨g, i * 64, none⟩)) _ (by simp only [Act.put, pA, pB, pC, e7, e8]) ⟨hB, hz, s0, sl, h0, h1, h2, h3, h4, h5, h6, h7, h8, h9, (fun _ => rfl), h11, h12, h13, h14, h15, hI, hb_, hA_, hC_⟩
                · intro L v wx hd hn hU ⟨hB, hz, s0, sl, h0, h1, h2, h3, h4, h5, h6, h7, h8, h9, h10, h11, h12, h13, h14, h15, hI, hb_, hA_, hC_⟩ K hK
                  have e10 := h10 (zdq hd 10 rfl)
                  have e9 := h9 (zdq hd 9 rfl)
                  go_wp2_with fail
                  exact hK _ (.pointer (some ⟨g, i * 64 + n, none⟩)) _ (by simp only [Act.put, pA, pB, pC, e10, e9]) ⟨hB, hz, s0, sl, h0, h1, h2, h3, h4, h5, h6, h7, h8, h9, h10, (fun _ => rfl), h12, h13, h14, h15, hI, hb_, hA_, hC_⟩
                · intro L v wx hd hn hU ⟨hB, hz, s0, sl, h0, h1, h2, h3, h4, h5, h6, h7, h8, h9, h10, h11, h12, h13, h14, h15, hI, hb_, hA_, hC_⟩ K hK
                  have e11 := h11 (zdq hd 11 rfl)
                  have cc := range_cell ((hL.zw hB).range hrow) hn64
                  rw [← HQ.out] at cc
                  go_wp2_with fail
                  exact hK _ (.int .u8 ((q : Nat) : Int)) _ (by simp only [Act.put, pA, pB, pC, e11]) ⟨hB, hz, s0, sl, h0, h1, h2, h3, h4, h5, h6, h7, h8, h9, h10, h11, (fun _ => rfl), h13, h14, h15, hI, hb_, hA_, hC_⟩
                · intro L v wx hd hn hU ⟨hB, hz, s0, sl, h0, h1, h2, h3, h4, h5, h6, h7, h8, h9, h10, h11, h12, h13, h14, h15, hI, hb_, hA_, hC_⟩ K hK
                  have e12 := h12 (zdq hd 12 rfl)
                  go_wp2_with fail
                  exact hK _ (.int .i64 ((q : Nat) : Int)) _ (by simp only [Act.put, pA, pB, pC, e12]) ⟨hB, hz, s0, sl, h0, h1, h2, h3, h4, h5, h6, h7, h8, h9, h10, h11, h12, (fun _ => rfl), h14, h15, hI, hb_, hA_, hC_⟩
                · intro L v wx hd hn hU ⟨hB, hz, s0, sl, h0, h1, h2, h3, h4, h5, h6, h7, h8, h9, h10, h11, h12, h13, h14, h15, hI, hb_, hA_, hC_⟩ K hK
                  have e13 := h13 (zdq hd 13 rfl)
                  go_wp2_with fail
                  exact hK _ (.int .i64 (-((q : Nat) : Int))) _ (by simp only [Act.put, pA, pB, pC, e13]) ⟨hB, hz, s0, sl, h0, h1, h2, h3, h4, h5, h6, h7, h8, h9, h10, h11, h12, h13, (fun _ => rfl), h15, hI, hb_, hA_, hC_⟩
                · intro L v wx hd hn hU ⟨hB, hz, s0, sl, h0, h1, h2, h3, h4, h5, h6, h7, h8, h9, h10, h11, h12, h13, h14, h15, hI, hb_, hA_, hC_⟩ K hK
                  have e1 := h1 (zdq hd 1 rfl)
                  have e5 := h5 (zdq hd 5 rfl)
                  have e6 := h6 (zdq hd 6 rfl)
                  have e14 := h14 (zdq hd 14 rfl)
                  go_wp2_with (go_at_call 80; refine (HAC.out _).mono ?_; rintro e wy ⟨rfl, hy⟩)
                  exact hK _ (.agg (zb 64 y)) _ (by simp only [Act.put, pA, pB, pC, e1, e5, e6, e14]) ⟨hB.trans (hy.mono hB.size), Nat.le_trans hz hy.size, s0.zw hy, (fun h => (sl h).below hy (sl h).lt), h0, h1, h2, h3, h4, h5, h6, h7, h8, h9, h10, h11, h12, h13, h14, (fun _ => rfl), hI, (fun h g => let ⟨b, a1, a2, a3⟩ := hb_ h g; ⟨b, a1, a2, a3.zw hy⟩), (fun h => (hA_ h).below hy (hA_ h).lt), hC_⟩
                · intro L v wx hd hn hU ⟨hB, hz, s0, sl, h0, h1, h2, h3, h4, h5, h6, h7, h8, h9, h10, h11, h12, h13, h14, h15, hI, hb_, hA_, hC_⟩ K hK
                  have e15 := h15 (zdq hd 15 rfl)
                  refine wp_build1 30 _ (bl 64 (y)) 64 rfl 28 Try.underlying30 Try.elem28 (by decide) (by decide) (zl _ _) (by simp [Act.eval, e15, zb]) ?_
                  intro w2 hrow hy
                  exact hK _ _ _ rfl ⟨hB.trans (hy.mono hB.size), Nat.le_trans hz hy.size, s0.zw hy, (fun h => (sl h).below hy (sl h).lt), h0, h1, h2, h3, h4, h5, h6, h7, h8, h9, h10, h11, h12, h13, h14, h15, hI, (fun _ _ => ⟨_, rfl, hz, hrow⟩), (fun h => (hA_ h).below hy (hA_ h).lt), hC_⟩
                · intro L v wx hd hn hU ⟨hB, hz, s0, sl, h0, h1, h2, h3, h4, h5, h6, h7, h8, h9, h10, h11, h12, h13, h14, h15, hI, hb_, hA_, hC_⟩ K hK
                  have e0 := h0 (zdq hd 0 rfl)
                  obtain ⟨b, eb, hbW, hrow⟩ := hb_ hU (zdq hd 16 rfl)
                  have hSL := sl hU
                  refine wp_append_sl (.tmp 77) (.tmp 93) 30 rfl base 28 (.agg (zb 64 fun _ => 0)) 64 64 Try.underlying30 Try.infoPoly (by simp [Value.cells, bl]) (by decide) lst2 (plR Q2) e0 hSL b (bl 64 (y)) eb (zl _ _) hrow.range (bl_one65 _) (by rw [plR_len]; unfold maxLen; omega) (by rw [plR_len]; omega) ?_
                  intro vp wp hSp hg
                  exact hK _ vp _ rfl ⟨hB.grown hg hB.size (fun r e => Nat.le_trans hbw (hSL.own r e)), Nat.le_trans hz hg.size, s0.grownO hg (base := base) (fun r e => hSL.own r e) hbm, (fun h => absurd h (by simp [setL])), h0, h1, h2, h3, h4, h5, h6, h7, h8, h9, h10, h11, h12, h13, h14, h15, hI, (fun h => absurd h (by simp [setL])), (fun _ => by rw [plR_snoc]; exact hSp), (fun h => absurd rfl (hn 18 _ rfl h ⟨17, .data⟩ (by simp) rfl))⟩
                · intro L v wx hd hn hU ⟨hB, hz, s0, sl, h0, h1, h2, h3, h4, h5, h6, h7, h8, h9, h10, h11, h12, h13, h14, h15, hI, hb_, hA_, hC_⟩ K hK
                  have hSA := hA_ (zdq hd 17 rfl)
                  go_wp2_with fail
                  exact hK _ (v 17) _ (by simp only [Act.put, pA, pB, pC]) ⟨hB, hz, s0, sl, h0, h1, h2, h3, h4, h5, h6, h7, h8, h9, h10, h11, h12, h13, h14, h15, (fun h => absurd h (by simp [setL])), hb_, hA_, (fun _ => rfl)⟩
              · intro L v wx hL ⟨hB, hz, s0, sl, h0, h1, h2, h3, h4, h5, h6, h7, h8, h9, h10, h11, h12, h13, h14, h15, hI, hb_, hA_, hC_⟩
                have hSN := hA_ (hL 17 (by decide))
                have eC := hC_ (hL 18 (by decide))
                have hbN := hB
                have hmN := s0
                clear hI
                obtain ⟨vN, eN⟩ : ∃ x, x = v 17 := ⟨_, rfl⟩
                rw [← eN] at hSN eC
                clear hL sl h0 h1 h2 h3 h4 h5 h6 h7 h8 h9 h10 h11 h12 h13 h14 h15 hb_ hA_ hC_ hB s0 hSl B0 hb eN
                have hb := hbN
                have B0 := hmN
                clear hbN hmN
                simp only [eC]
                go_wp2_with fail
                go_roundw
                case rel => exact ⟨i + 1, true, vN, _, rfl, rfl, by go_num, by omega, by rw [List.length_append, List.length_singleton]; omega, HE2, hb, B0, hSN⟩
                case measure => simp [intOf] <;> omega
            · have htI : ¬ (t : Int) < (n : Int) := by omega
              have HE2 := Lib.hid (show (Q ++ [y]) ++ puW p n m false (M.drop (i + 1)) = ptL p M x by rw [← hE.out, HDP.out, puW_no (by rw [HDT.out]; omega), HY.out]; simp)
              clear hE
              go_upto_region 18 with (first | (refine wpList_load_mid_g (by simp [Region.wanted, yielded]) 28 (.tmp 67) rfl _ (i * 64) rfl (bl 64 r) _ ((hL.zw hb).range hrow) Try.underlying28 rfl (by rw [zl]; exact Try.size28) ?_) | (go_at_call 106; refine (HDR.out _).mono ?_; rintro e W5 ⟨rfl, h5⟩; replace B0 := B0.zw h5; replace hSl := hSl.zw h5; replace hb := hb.trans (h5.mono hb.size)))
              have lt_B0 := B0.lt
              have hbase := hb.size
              refine wp_region_stepsU Try.mixed (by kernel_rfl) (by kernel_rfl) (fun v => by (simp only [frL, Act.put, pA, pB, pC, Nat.reduceAdd, Nat.zero_add]; exact rfl))
               (fun L v wx => Below w.heap.size w wx ∧ W5.heap.size ≤ wx.heap.size ∧ Blk wx (w.heap.size) 64 28 (m) ∧ (L 17 = false → SlL wx base 28 64 lst (plR Q)) ∧ (L 0 = true → v 0 = lst) ∧ (L 1 = true → v 1 = (.int .i64 (p : Int))) ∧ (L 2 = true → v 2 = (.slice (some ⟨g, 0, none⟩) M.length cap)) ∧ (L 3 = true → v 3 = (.int .i64 (i : Int))) ∧ (L 4 = true → v 4 = (.pointer (some ⟨g, i * 64, none⟩))) ∧ (L 5 = true → v 5 = (.agg (bl 64 r).toArray)) ∧ (L 6 = true → v 6 = (.agg (zb 64 m))) ∧ (L 7 = true → v 7 = (.slice (some ⟨g, 0, none⟩) M.length cap)) ∧ (L 8 = true → v 8 = (.int .i64 (i : Int))) ∧ (L 9 = true → v 9 = (.int .i64 (n : Int))) ∧ (L 10 = true → v 10 = (.pointer (some ⟨g, i * 64, none⟩))) ∧ (L 11 = true → v 11 = (.pointer (some ⟨g, i * 64 + n, none⟩))) ∧ (L 12 = true → v 12 = (.int .u8 ((q : Nat) : Int))) ∧ (L 13 = true → v 13 = (.int .i64 ((q : Nat) : Int))) ∧ (L 14 = true → v 14 = (.int .i64 (-((q : Nat) : Int)))) ∧ (L 15 = true → v 15 = (.agg (zb 64 y))) ∧ (L 18 = false → v 18 = lst) ∧ (L 17 = false → L 16 = true → ∃ b, v 16 = .slice (some ⟨b, 0, none⟩) 1 1 ∧ W5.heap.size ≤ b ∧ Row wx b 28 (bl 64 (y)).toArray) ∧ (L 17 = true → SlL wx base 28 64 (v 17) (plR (Q ++ [y]))) ∧ (L 18 = true → v 18 = v 17)) ?_ ?_ ?_
              · exact ⟨hb.drew, Nat.le_refl _, B0.drew, (fun _ => SlL.drew hSl), (fun h => by cases h), (fun h => by cases h), (fun h => by cases h), (fun h => by cases h), (fun h => by cases h), (fun h => by cases h), (fun h => by cases h), (fun h => by cases h), (fun h => by cases h), (fun h => by cases h), (fun h => by cases h), (fun h => by cases h), (fun h => by cases h), (fun h => by cases h), (fun h => by cases h), (fun h => by cases h), (fun _ => rfl), (fun _ h => by cases h), (fun h => by cases h), (fun h => by cases h)⟩
              · refine (.cons rfl ?_ (.cons rfl ?_ (.cons rfl ?_ (.cons rfl ?_ (.cons rfl ?_ (.cons rfl ?_ (.cons rfl ?_ (.cons rfl ?_ (.cons rfl ?_ (.cons rfl ?_ (.cons rfl ?_ (.cons rfl ?_ (.cons rfl ?_ (.cons rfl ?_ (.cons rfl ?_ (.cons rfl ?_ (.cons rfl ?_ (.cons rfl ?_ (.cons rfl ?_ (.nil _))))))))))))))))))))
                · intro L v wx hd hn hU ⟨hB, hz, s0, sl, h0, h1, h2, h3, h4, h5, h6, h7, h8, h9, h10, h11, h12, h13, h14, h15, hI, hb_, hA_, hC_⟩ K hK
                  have eI := hI (by cases hl : L 18 with | false => rfl | true => exact absurd rfl (hn 18 _ rfl hl ⟨0, .phase⟩ (by simp) rfl))
                  go_wp2_with fail
                  exact hK _ lst _ (by simp only [Act.put, pA, pB, pC, eI]) ⟨hB, hz, s0, sl, (fun _ => rfl), h1, h2, h3, h4, h5, h6, h7, h8, h9, h10, h11, h12, h13, h14, h15, hI, hb_, hA_, hC_⟩
                · intro L v wx hd hn hU ⟨hB, hz, s0, sl, h0, h1, h2, h3, h4, h5, h6, h7, h8, h9, h10, h11, h12, h13, h14, h15, hI, hb_, hA_, hC_⟩ K hK
                  go_wp2_with fail
                  exact hK _ (.int .i64 (p : Int)) _ (by simp only [Act.put, pA, pB, pC]) ⟨hB, hz, s0, sl, h0, (fun _ => rfl), h2, h3, h4, h5, h6, h7, h8, h9, h10, h11, h12, h13, h14, h15, hI, hb_, hA_, hC_⟩
                · intro L v wx hd hn hU ⟨hB, hz, s0, sl, h0, h1, h2, h3, h4, h5, h6, h7, h8, h9, h10, h11, h12, h13, h14, h15, hI, hb_, hA_, hC_⟩ K hK
                  go_wp2_with fail
                  exact hK _ (.slice (some ⟨g, 0, none⟩) M.length cap) _ (by simp only [Act.put, pA, pB, pC]) ⟨hB, hz, s0, sl, h0, h1, (fun _ => rfl), h3, h4, h5, h6, h7, h8, h9, h10, h11, h12, h13, h14, h15, hI, hb_, hA_, hC_⟩
                · intro L v wx hd hn hU ⟨hB, hz, s0, sl, h0, h1, h2, h3, h4, h5, h6, h7, h8, h9, h10, h11, h12, h13, h14, h15, hI, hb_, hA_, hC_⟩ K hK
                  go_wp2_with fail
                  exact hK _ (.int .i64 (i : Int)) _ (by simp only [Act.put, pA, pB, pC]) ⟨hB, hz, s0, sl, h0, h1, h2, (fun _ => rfl), h4, h5, h6, h7, h8, h9, h10, h11, h12, h13, h14, h15, hI, hb_, hA_, hC_⟩
                · intro L v wx hd hn hU ⟨hB, hz, s0, sl, h0, h1, h2, h3, h4, h5, h6, h7, h8, h9, h10, h11, h12, h13, h14, h15, hI, hb_, hA_, hC_⟩ K hK
                  have e2 := h2 (zdq hd 2 rfl)
                  have e3 := h3 (zdq hd 3 rfl)
                  go_wp2_with fail
                  exact hK _ (.pointer (some ⟨g, i * 64, none⟩)) _ (by simp only [Act.put, pA, pB, pC, e2, e3]) ⟨hB, hz, s0, sl, h0, h1, h2, h3, (fun _ => rfl), h5, h6, h7, h8, h9, h10, h11, h12, h13, h14, h15, hI, hb_, hA_, hC_⟩
                · intro L v wx hd hn hU ⟨hB, hz, s0, sl, h0, h1, h2, h3, h4, h5, h6, h7, h8, h9, h10, h11, h12, h13, h14, h15, hI, hb_, hA_, hC_⟩ K hK
                  have e4 := h4 (zdq hd 4 rfl)
                  refine wp_load_mid 28 _ rfl _ (i * 64) e4 _ _ ((hL.zw hB).range hrow) Try.underlying28 rfl (by rw [zl]; exact Try.size28) ?_
                  exact hK _ _ _ rfl ⟨hB, hz, s0, sl, h0, h1, h2, h3, h4, (fun _ => rfl), h6, h7, h8, h9, h10, h11, h12, h13, h14, h15, hI, hb_, hA_, hC_⟩
                · intro L v wx hd hn hU ⟨hB, hz, s0, sl, h0, h1, h2, h3, h4, h5, h6, h7, h8, h9, h10, h11, h12, h13, h14, h15, hI, hb_, hA_, hC_⟩ K hK
                  refine zlc s0 Try.underlying28 Try.size28 ?_
                  exact hK _ _ _ rfl ⟨hB, hz, s0, sl, h0, h1, h2, h3, h4, h5, (fun _ => rfl), h7, h8, h9, h10, h11, h12, h13, h14, h15, hI, hb_, hA_, hC_⟩
                · intro L v wx hd hn hU ⟨hB, hz, s0, sl, h0, h1, h2, h3, h4, h5, h6, h7, h8, h9, h10, h11, h12, h13, h14, h15, hI, hb_, hA_, hC_⟩ K hK
                  go_wp2_with fail
                  exact hK _ (.slice (some ⟨g, 0, none⟩) M.length cap) _ (by simp only [Act.put, pA, pB, pC]) ⟨hB, hz, s0, sl, h0, h1, h2, h3, h4, h5, h6, (fun _ => rfl), h8, h9, h10, h11, h12, h13, h14, h15, hI, hb_, hA_, hC_⟩
                · intro L v wx hd hn hU ⟨hB, hz, s0, sl, h0, h1, h2, h3, h4, h5, h6, h7, h8, h9, h10, h11, h12, h13, h14, h15, hI, hb_, hA_, hC_⟩ K hK
                  go_wp2_with fail
                  exact hK _ (.int .i64 (i : Int)) _ (by simp only [Act.put, pA, pB, pC]) ⟨hB, hz, s0, sl, h0, h1, h2, h3, h4, h5, h6, h7, (fun _ => rfl), h9, h10, h11, h12, h13, h14, h15, hI, hb_, hA_, hC_⟩
                · intro L v wx hd hn hU ⟨hB, hz, s0, sl, h0, h1, h2, h3, h4, h5, h6, h7, h8, h9, h10, h11, h12, h13, h14, h15, hI, hb_, hA_, hC_⟩ K hK
                  go_wp2_with fail
                  exact hK _ (.int .i64 (n : Int)) _ (by simp only [Act.put, pA, pB, pC]) ⟨hB, hz, s0, sl, h0, h1, h2, h3, h4, h5, h6, h7, h8, (fun _ => rfl), h10, h11, h12, h13, h14, h15, hI, hb_, hA_, hC_⟩
                · intro L v wx hd hn hU ⟨hB, hz, s0, sl, h0, h1, h2, h3, h4, h5, h6, h7, h8, h9, h10, h11, h12, h13, h14, h15, hI, hb_, hA_, hC_⟩ K hK
                  have e7 := h7 (zdq hd 7 rfl)
                  have e8 := h8 (zdq hd 8 rfl)
                  go_wp2_with fail
                  exact hK _ (.pointer (some ⟨g, i * 64, none⟩)) _ (by simp only [Act.put, pA, pB, pC, e7, e8]) ⟨hB, hz, s0, sl, h0, h1, h2, h3, h4, h5, h6, h7, h8, h9, (fun _ => rfl), h11, h12, h13, h14, h15, hI, hb_, hA_, hC_⟩
                · intro L v wx hd hn hU ⟨hB, hz, s0, sl, h0, h1, h2, h3, h4, h5, h6, h7, h8, h9, h10, h11, h12, h13, h14, h15, hI, hb_, hA_, hC_⟩ K hK
                  have e10 := h10 (zdq hd 10 rfl)
                  have e9 := h9 (zdq hd 9 rfl)
                  go_wp2_with fail
                  exact hK _ (.pointer (some ⟨g, i * 64 + n, none⟩)) _ (by simp only [Act.put, pA, pB, pC, e10, e9]) ⟨hB, hz, s0, sl, h0, h1, h2, h3, h4, h5, h6, h7, h8, h9, h10, (fun _ => rfl), h12, h13, h14, h15, hI, hb_, hA_, hC_⟩
                · intro L v wx hd hn hU ⟨hB, hz, s0, sl, h0, h1, h2, h3, h4, h5, h6, h7, h8, h9, h10, h11, h12, h13, h14, h15, hI, hb_, hA_, hC_⟩ K hK
                  have e11 := h11 (zdq hd 11 rfl)
                  have cc := range_cell ((hL.zw hB).range hrow) hn64
                  rw [← HQ.out] at cc
                  go_wp2_with fail
                  exact hK _ (.int .u8 ((q : Nat) : Int)) _ (by simp only [Act.put, pA, pB, pC, e11]) ⟨hB, hz, s0, sl, h0, h1, h2, h3, h4, h5, h6, h7, h8, h9, h10, h11, (fun _ => rfl), h13, h14, h15, hI, hb_, hA_, hC_⟩
                · intro L v wx hd hn hU ⟨hB, hz, s0, sl, h0, h1, h2, h3, h4, h5, h6, h7, h8, h9, h10, h11, h12, h13, h14, h15, hI, hb_, hA_, hC_⟩ K hK
                  have e12 := h12 (zdq hd 12 rfl)
                  go_wp2_with fail
                  exact hK _ (.int .i64 ((q : Nat) : Int)) _ (by simp only [Act.put, pA, pB, pC, e12]) ⟨hB, hz, s0, sl, h0, h1, h2, h3, h4, h5, h6, h7, h8, h9, h10, h11, h12, (fun _ => rfl), h14, h15, hI, hb_, hA_, hC_⟩
                · intro L v wx hd hn hU ⟨hB, hz, s0, sl, h0, h1, h2, h3, h4, h5, h6, h7, h8, h9, h10, h11, h12, h13, h14, h15, hI, hb_, hA_, hC_⟩ K hK
                  have e13 := h13 (zdq hd 13 rfl)
                  go_wp2_with fail
                  exact hK _ (.int .i64 (-((q : Nat) : Int))) _ (by simp only [Act.put, pA, pB, pC, e13]) ⟨hB, hz, s0, sl, h0, h1, h2, h3, h4, h5, h6, h7, h8, h9, h10, h11, h12, h13, (fun _ => rfl), h15, hI, hb_, hA_, hC_⟩
                · intro L v wx hd hn hU ⟨hB, hz, s0, sl, h0, h1, h2, h3, h4, h5, h6, h7, h8, h9, h10, h11, h12, h13, h14, h15, hI, hb_, hA_, hC_⟩ K hK
                  have e1 := h1 (zdq hd 1 rfl)
                  have e5 := h5 (zdq hd 5 rfl)
                  have e6 := h6 (zdq hd 6 rfl)
                  have e14 := h14 (zdq hd 14 rfl)
                  go_wp2_with (go_at_call 80; refine (HAC.out _).mono ?_; rintro e wy ⟨rfl, hy⟩)
                  exact hK _ (.agg (zb 64 y)) _ (by simp only [Act.put, pA, pB, pC, e1, e5, e6, e14]) ⟨hB.trans (hy.mono hB.size), Nat.le_trans hz hy.size, s0.zw hy, (fun h => (sl h).below hy (sl h).lt), h0, h1, h2, h3, h4, h5, h6, h7, h8, h9, h10, h11, h12, h13, h14, (fun _ => rfl), hI, (fun h g => let ⟨b, a1, a2, a3⟩ := hb_ h g; ⟨b, a1, a2, a3.zw hy⟩), (fun h => (hA_ h).below hy (hA_ h).lt), hC_⟩
                · intro L v wx hd hn hU ⟨hB, hz, s0, sl, h0, h1, h2, h3, h4, h5, h6, h7, h8, h9, h10, h11, h12, h13, h14, h15, hI, hb_, hA_, hC_⟩ K hK
                  have e15 := h15 (zdq hd 15 rfl)
                  refine wp_build1 30 _ (bl 64 (y)) 64 rfl 28 Try.underlying30 Try.elem28 (by decide) (by decide) (zl _ _) (by simp [Act.eval, e15, zb]) ?_
                  intro w2 hrow hy
                  exact hK _ _ _ rfl ⟨hB.trans (hy.mono hB.size), Nat.le_trans hz hy.size, s0.zw hy, (fun h => (sl h).below hy (sl h).lt), h0, h1, h2, h3, h4, h5, h6, h7, h8, h9, h10, h11, h12, h13, h14, h15, hI, (fun _ _ => ⟨_, rfl, hz, hrow⟩), (fun h => (hA_ h).below hy (hA_ h).lt), hC_⟩
                · intro L v wx hd hn hU ⟨hB, hz, s0, sl, h0, h1, h2, h3, h4, h5, h6, h7, h8, h9, h10, h11, h12, h13, h14, h15, hI, hb_, hA_, hC_⟩ K hK
                  have e0 := h0 (zdq hd 0 rfl)
                  obtain ⟨b, eb, hbW, hrow⟩ := hb_ hU (zdq hd 16 rfl)
                  have hSL := sl hU
                  refine wp_append_sl (.tmp 77) (.tmp 93) 30 rfl base 28 (.agg (zb 64 fun _ => 0)) 64 64 Try.underlying30 Try.infoPoly (by simp [Value.cells, bl]) (by decide) lst (plR Q) e0 hSL b (bl 64 (y)) eb (zl _ _) hrow.range (bl_one65 _) (by rw [plR_len]; unfold maxLen; omega) (by rw [plR_len]; omega) ?_
                  intro vp wp hSp hg
                  exact hK _ vp _ rfl ⟨hB.grown hg hB.size (fun r e => Nat.le_trans hbw (hSL.own r e)), Nat.le_trans hz hg.size, s0.grownO hg (base := base) (fun r e => hSL.own r e) hbm, (fun h => absurd h (by simp [setL])), h0, h1, h2, h3, h4, h5, h6, h7, h8, h9, h10, h11, h12, h13, h14, h15, hI, (fun h => absurd h (by simp [setL])), (fun _ => by rw [plR_snoc]; exact hSp), (fun h => absurd rfl (hn 18 _ rfl h ⟨17, .data⟩ (by simp) rfl))⟩
                · intro L v wx hd hn hU ⟨hB, hz, s0, sl, h0, h1, h2, h3, h4, h5, h6, h7, h8, h9, h10, h11, h12, h13, h14, h15, hI, hb_, hA_, hC_⟩ K hK
                  have hSA := hA_ (zdq hd 17 rfl)
                  go_wp2_with fail
                  exact hK _ (v 17) _ (by simp only [Act.put, pA, pB, pC]) ⟨hB, hz, s0, sl, h0, h1, h2, h3, h4, h5, h6, h7, h8, h9, h10, h11, h12, h13, h14, h15, (fun h => absurd h (by simp [setL])), hb_, hA_, (fun _ => rfl)⟩
              · intro L v wx hL ⟨hB, hz, s0, sl, h0, h1, h2, h3, h4, h5, h6, h7, h8, h9, h10, h11, h12, h13, h14, h15, hI, hb_, hA_, hC_⟩
                have hSN := hA_ (hL 17 (by decide))
                have eC := hC_ (hL 18 (by decide))
                have hbN := hB
                have hmN := s0
                clear hI
                obtain ⟨vN, eN⟩ : ∃ x, x = v 17 := ⟨_, rfl⟩
                rw [← eN] at hSN eC
                clear hL sl h0 h1 h2 h3 h4 h5 h6 h7 h8 h9 h10 h11 h12 h13 h14 h15 hb_ hA_ hC_ hB s0 hSl B0 hb eN
                have hb := hbN
                have B0 := hmN
                clear hbN hmN
                simp only [eC]
                go_wp2_with fail
                go_roundw
                case rel => exact ⟨i + 1, false, vN, _, rfl, rfl, by go_num, by omega, by rw [List.length_append, List.length_singleton]; omega, HE2, hb, B0, hSN⟩
                case measure => simp [intOf] <;> omega
           | true =>
            have HE2 := Lib.hid (show (Q ++ [y]) ++ puW p n m true (M.drop (i + 1)) = ptL p M x by rw [← hE.out, HDP.out, puW_done, HY.out]; simp)
            clear hE
            go_upto_region 18 with (fail)
            have lt_B0 := B0.lt
            have hbase := hb.size
            refine wp_region_stepsU Try.mixed (by kernel_rfl) (by kernel_rfl) (fun v => by (simp only [frL, Act.put, pA, pB, pC, Nat.reduceAdd, Nat.zero_add]; exact rfl))
             (fun L v wx => Below w.heap.size w wx ∧ wr.heap.size ≤ wx.heap.size ∧ Blk wx (w.heap.size) 64 28 (m) ∧ (L 17 = false → SlL wx base 28 64 lst (plR Q)) ∧ (L 0 = true → v 0 = lst) ∧ (L 1 = true → v 1 = (.int .i64 (p : Int))) ∧ (L 2 = true → v 2 = (.slice (some ⟨g, 0, none⟩) M.length cap)) ∧ (L 3 = true → v 3 = (.int .i64 (i : Int))) ∧ (L 4 = true → v 4 = (.pointer (some ⟨g, i * 64, none⟩))) ∧ (L 5 = true → v 5 = (.agg (bl 64 r).toArray)) ∧ (L 6 = true → v 6 = (.agg (zb 64 m))) ∧ (L 7 = true → v 7 = (.slice (some ⟨g, 0, none⟩) M.length cap)) ∧ (L 8 = true → v 8 = (.int .i64 (i : Int))) ∧ (L 9 = true → v 9 = (.int .i64 (n : Int))) ∧ (L 10 = true → v 10 = (.pointer (some ⟨g, i * 64, none⟩))) ∧ (L 11 = true → v 11 = (.pointer (some ⟨g, i * 64 + n, none⟩))) ∧ (L 12 = true → v 12 = (.int .u8 ((q : Nat) : Int))) ∧ (L 13 = true → v 13 = (.int .i64 ((q : Nat) : Int))) ∧ (L 14 = true → v 14 = (.int .i64 (-((q : Nat) : Int)))) ∧ (L 15 = true → v 15 = (.agg (zb 64 y))) ∧ (L 18 = false → v 18 = lst) ∧ (L 17 = false → L 16 = true → ∃ b, v 16 = .slice (some ⟨b, 0, none⟩) 1 1 ∧ wr.heap.size ≤ b ∧ Row wx b 28 (bl 64 (y)).toArray) ∧ (L 17 = true → SlL wx base 28 64 (v 17) (plR (Q ++ [y]))) ∧ (L 18 = true → v 18 = v 17)) ?_ ?_ ?_
            · exact ⟨hb.drew, Nat.le_refl _, B0.drew, (fun _ => SlL.drew hSl), (fun h => by cases h), (fun h => by cases h), (fun h => by cases h), (fun h => by cases h), (fun h => by cases h), (fun h => by cases h), (fun h => by cases h), (fun h => by cases h), (fun h => by cases h), (fun h => by cases h), (fun h => by cases h), (fun h => by cases h), (fun h => by cases h), (fun h => by cases h), (fun h => by cases h), (fun h => by cases h), (fun _ => rfl), (fun _ h => by cases h), (fun h => by cases h), (fun h => by cases h)⟩
            · refine (.cons rfl ?_ (.cons rfl ?_ (.cons rfl ?_ (.cons rfl ?_ (.cons rfl ?_ (.cons rfl ?_ (.cons rfl ?_ (.cons rfl ?_ (.cons rfl ?_ (.cons rfl ?_ (.cons rfl ?_ (.cons rfl ?_ (.cons rfl ?_ (.cons rfl ?_ (.cons rfl ?_ (.cons rfl ?_ (.cons rfl ?_ (.cons rfl ?_ (.cons rfl ?_ (.nil _))))))))))))))))))))
              · intro L v wx hd hn hU ⟨hB, hz, s0, sl, h0, h1, h2, h3, h4, h5, h6, h7, h8, h9, h10, h11, h12, h13, h14, h15, hI, hb_, hA_, hC_⟩ K hK
                have eI := hI (by cases hl : L 18 with | false => rfl | true => exact absurd rfl (hn 18 _ rfl hl ⟨0, .phase⟩ (by simp) rfl))
                go_wp2_with fail
                exact hK _ lst _ (by simp only [Act.put, pA, pB, pC, eI]) ⟨hB, hz, s0, sl, (fun _ => rfl), h1, h2, h3, h4, h5, h6, h7, h8, h9, h10, h11, h12, h13, h14, h15, hI, hb_, hA_, hC_⟩
              · intro L v wx hd hn hU ⟨hB, hz, s0, sl, h0, h1, h2, h3, h4, h5, h6, h7, h8, h9, h10, h11, h12, h13, h14, h15, hI, hb_, hA_, hC_⟩ K hK
                go_wp2_with fail
                exact hK _ (.int .i64 (p : Int)) _ (by simp only [Act.put, pA, pB, pC]) ⟨hB, hz, s0, sl, h0, (fun _ => rfl), h2, h3, h4, h5, h6, h7, h8, h9, h10, h11, h12, h13, h14, h15, hI, hb_, hA_, hC_⟩
              · intro L v wx hd hn hU ⟨hB, hz, s0, sl, h0, h1, h2, h3, h4, h5, h6, h7, h8, h9, h10, h11, h12, h13, h14, h15, hI, hb_, hA_, hC_⟩ K hK
                go_wp2_with fail
                exact hK _ (.slice (some ⟨g, 0, none⟩) M.length cap) _ (by simp only [Act.put, pA, pB, pC]) ⟨hB, hz, s0, sl, h0, h1, (fun _ => rfl), h3, h4, h5, h6, h7, h8, h9, h10, h11, h12, h13, h14, h15, hI, hb_, hA_, hC_⟩
              · intro L v wx hd hn hU ⟨hB, hz, s0, sl, h0, h1, h2, h3, h4, h5, h6, h7, h8, h9, h10, h11, h12, h13, h14, h15, hI, hb_, hA_, hC_⟩ K hK
                go_wp2_with fail
                exact hK _ (.int .i64 (i : Int)) _ (by simp only [Act.put, pA, pB, pC]) ⟨hB, hz, s0, sl, h0, h1, h2, (fun _ => rfl), h4, h5, h6, h7, h8, h9, h10, h11, h12, h13, h14, h15, hI, hb_, hA_, hC_⟩
              · intro L v wx hd hn hU ⟨hB, hz, s0, sl, h0, h1, h2, h3, h4, h5, h6, h7, h8, h9, h10, h11, h12, h13, h14, h15, hI, hb_, hA_, hC_⟩ K hK
                have e2 := h2 (zdq hd 2 rfl)
                have e3 := h3 (zdq hd 3 rfl)
                go_wp2_with fail
                exact hK _ (.pointer (some ⟨g, i * 64, none⟩)) _ (by simp only [Act.put, pA, pB, pC, e2, e3]) ⟨hB, hz, s0, sl, h0, h1, h2, h3, (fun _ => rfl), h5, h6, h7, h8, h9, h10, h11, h12, h13, h14, h15, hI, hb_, hA_, hC_⟩
              · intro L v wx hd hn hU ⟨hB, hz, s0, sl, h0, h1, h2, h3, h4, h5, h6, h7, h8, h9, h10, h11, h12, h13, h14, h15, hI, hb_, hA_, hC_⟩ K hK
                have e4 := h4 (zdq hd 4 rfl)
                refine wp_load_mid 28 _ rfl _ (i * 64) e4 _ _ ((hL.zw hB).range hrow) Try.underlying28 rfl (by rw [zl]; exact Try.size28) ?_
                exact hK _ _ _ rfl ⟨hB, hz, s0, sl, h0, h1, h2, h3, h4, (fun _ => rfl), h6, h7, h8, h9, h10, h11, h12, h13, h14, h15, hI, hb_, hA_, hC_⟩
              · intro L v wx hd hn hU ⟨hB, hz, s0, sl, h0, h1, h2, h3, h4, h5, h6, h7, h8, h9, h10, h11, h12, h13, h14, h15, hI, hb_, hA_, hC_⟩ K hK
                refine zlc s0 Try.underlying28 Try.size28 ?_
                exact hK _ _ _ rfl ⟨hB, hz, s0, sl, h0, h1, h2, h3, h4, h5, (fun _ => rfl), h7, h8, h9, h10, h11, h12, h13, h14, h15, hI, hb_, hA_, hC_⟩
              · intro L v wx hd hn hU ⟨hB, hz, s0, sl, h0, h1, h2, h3, h4, h5, h6, h7, h8, h9, h10, h11, h12, h13, h14, h15, hI, hb_, hA_, hC_⟩ K hK
                go_wp2_with fail
                exact hK _ (.slice (some ⟨g, 0, none⟩) M.length cap) _ (by simp only [Act.put, pA, pB, pC]) ⟨hB, hz, s0, sl, h0, h1, h2, h3, h4, h5, h6, (fun _ => rfl), h8, h9, h10, h11, h12, h13, h14, h15, hI, hb_, hA_, hC_⟩
              · intro L v wx hd hn hU ⟨hB, hz, s0, sl, h0, h1, h2, h3, h4, h5, h6, h7, h8, h9, h10, h11, h12, h13, h14, h15, hI, hb_, hA_, hC_⟩ K hK
                go_wp2_with fail
                exact hK _ (.int .i64 (i : Int)) _ (by simp only [Act.put, pA, pB, pC]) ⟨hB, hz, s0, sl, h0, h1, h2, h3, h4, h5, h6, h7, (fun _ => rfl), h9, h10, h11, h12, h13, h14, h15, hI, hb_, hA_, hC_⟩
              · intro L v wx hd hn hU ⟨hB, hz, s0, sl, h0, h1, h2, h3, h4, h5, h6, h7, h8, h9, h10, h11, h12, h13, h14, h15, hI, hb_, hA_, hC_⟩ K hK
                go_wp2_with fail
                exact hK _ (.int .i64 (n : Int)) _ (by simp only [Act.put, pA, pB, pC]) ⟨hB, hz, s0, sl, h0, h1, h2, h3, h4, h5, h6, h7, h8, (fun _ => rfl), h10, h11, h12, h13, h14, h15, hI, hb_, hA_, hC_⟩
              · intro L v wx hd hn hU ⟨hB, hz, s0, sl, h0, h1, h2, h3, h4, h5, h6, h7, h8, h9, h10, h11, h12, h13, h14, h15, hI, hb_, hA_, hC_⟩ K hK
                have e7 := h7 (zdq hd 7 rfl)
                have e8 := h8 (zdq hd 8 rfl)
                go_wp2_with fail
                exact hK _ (.pointer (some ⟨g, i * 64, none⟩)) _ (by simp only [Act.put, pA, pB, pC, e7, e8]) ⟨hB, hz, s0, sl, h0, h1, h2, h3, h4, h5, h6, h7, h8, h9, (fun _ => rfl), h11, h12, h13, h14, h15, hI, hb_, hA_, hC_⟩
              · intro L v wx hd hn hU ⟨hB, hz, s0, sl, h0, h1, h2, h3, h4, h5, h6, h7, h8, h9, h10, h11, h12, h13, h14, h15, hI, hb_, hA_, hC_⟩ K hK
                have e10 := h10 (zdq hd 10 rfl)
                have e9 := h9 (zdq hd 9 rfl)
                go_wp2_with fail
                exact hK _ (.pointer (some ⟨g, i * 64 + n, none⟩)) _ (by simp only [Act.put, pA, pB, pC, e10, e9]) ⟨hB, hz, s0, sl, h0, h1, h2, h3, h4, h5, h6, h7, h8, h9, h10, (fun _ => rfl), h12, h13, h14, h15, hI, hb_, hA_, hC_⟩
              · intro L v wx hd hn hU ⟨hB, hz, s0, sl, h0, h1, h2, h3, h4, h5, h6, h7, h8, h9, h10, h11, h12, h13, h14, h15, hI, hb_, hA_, hC_⟩ K hK
                have e11 := h11 (zdq hd 11 rfl)
                have cc := range_cell ((hL.zw hB).range hrow) hn64
                rw [← HQ.out] at cc
                go_wp2_with fail
                exact hK _ (.int .u8 ((q : Nat) : Int)) _ (by simp only [Act.put, pA, pB, pC, e11]) ⟨hB, hz, s0, sl, h0, h1, h2, h3, h4, h5, h6, h7, h8, h9, h10, h11, (fun _ => rfl), h13, h14, h15, hI, hb_, hA_, hC_⟩
              · intro L v wx hd hn hU ⟨hB, hz, s0, sl, h0, h1, h2, h3, h4, h5, h6, h7, h8, h9, h10, h11, h12, h13, h14, h15, hI, hb_, hA_, hC_⟩ K hK
                have e12 := h12 (zdq hd 12 rfl)
                go_wp2_with fail
                exact hK _ (.int .i64 ((q : Nat) : Int)) _ (by simp only [Act.put, pA, pB, pC, e12]) ⟨hB, hz, s0, sl, h0, h1, h2, h3, h4, h5, h6, h7, h8, h9, h10, h11, h12, (fun _ => rfl), h14, h15, hI, hb_, hA_, hC_⟩
              · intro L v wx hd hn hU ⟨hB, hz, s0, sl, h0, h1, h2, h3, h4, h5, h6, h7, h8, h9, h10, h11, h12, h13, h14, h15, hI, hb_, hA_, hC_⟩ K hK
                have e13 := h13 (zdq hd 13 rfl)
                go_wp2_with fail
                exact hK _ (.int .i64 (-((q : Nat) : Int))) _ (by simp only [Act.put, pA, pB, pC, e13]) ⟨hB, hz, s0, sl, h0, h1, h2, h3, h4, h5, h6, h7, h8, h9, h10, h11, h12, h13, (fun _ => rfl), h15, hI, hb_, hA_, hC_⟩
              · intro L v wx hd hn hU ⟨hB, hz, s0, sl, h0, h1, h2, h3, h4, h5, h6, h7, h8, h9, h10, h11, h12, h13, h14, h15, hI, hb_, hA_, hC_⟩ K hK
                have e1 := h1 (zdq hd 1 rfl)
                have e5 := h5 (zdq hd 5 rfl)
                have e6 := h6 (zdq hd 6 rfl)
                have e14 := h14 (zdq hd 14 rfl)
                go_wp2_with (go_at_call 80; refine (HAC.out _).mono ?_; rintro e wy ⟨rfl, hy⟩)
                exact hK _ (.agg (zb 64 y)) _ (by simp only [Act.put, pA, pB, pC, e1, e5, e6, e14]) ⟨hB.trans (hy.mono hB.size), Nat.le_trans hz hy.size, s0.zw hy, (fun h => (sl h).below hy (sl h).lt), h0, h1, h2, h3, h4, h5, h6, h7, h8, h9, h10, h11, h12, h13, h14, (fun _ => rfl), hI, (fun h g => let ⟨b, a1, a2, a3⟩ := hb_ h g; ⟨b, a1, a2, a3.zw hy⟩), (fun h => (hA_ h).below hy (hA_ h).lt), hC_⟩
              · intro L v wx hd hn hU ⟨hB, hz, s0, sl, h0, h1, h2, h3, h4, h5, h6, h7, h8, h9, h10, h11, h12, h13, h14, h15, hI, hb_, hA_, hC_⟩ K hK
                have e15 := h15 (zdq hd 15 rfl)
                refine wp_build1 30 _ (bl 64 (y)) 64 rfl 28 Try.underlying30 Try.elem28 (by decide) (by decide) (zl _ _) (by simp [Act.eval, e15, zb]) ?_
                intro w2 hrow hy
                exact hK _ _ _ rfl ⟨hB.trans (hy.mono hB.size), Nat.le_trans hz hy.size, s0.zw hy, (fun h => (sl h).below hy (sl h).lt), h0, h1, h2, h3, h4, h5, h6, h7, h8, h9, h10, h11, h12, h13, h14, h15, hI, (fun _ _ => ⟨_, rfl, hz, hrow⟩), (fun h => (hA_ h).below hy (hA_ h).lt), hC_⟩
              · intro L v wx hd hn hU ⟨hB, hz, s0, sl, h0, h1, h2, h3, h4, h5, h6, h7, h8, h9, h10, h11, h12, h13, h14, h15, hI, hb_, hA_, hC_⟩ K hK
                have e0 := h0 (zdq hd 0 rfl)
                obtain ⟨b, eb, hbW, hrow⟩ := hb_ hU (zdq hd 16 rfl)
                have hSL := sl hU
                refine wp_append_sl (.tmp 77) (.tmp 93) 30 rfl base 28 (.agg (zb 64 fun _ => 0)) 64 64 Try.underlying30 Try.infoPoly (by simp [Value.cells, bl]) (by decide) lst (plR Q) e0 hSL b (bl 64 (y)) eb (zl _ _) hrow.range (bl_one65 _) (by rw [plR_len]; unfold maxLen; omega) (by rw [plR_len]; omega) ?_
                intro vp wp hSp hg
                exact hK _ vp _ rfl ⟨hB.grown hg hB.size (fun r e => Nat.le_trans hbw (hSL.own r e)), Nat.le_trans hz hg.size, s0.grownO hg (base := base) (fun r e => hSL.own r e) hbm, (fun h => absurd h (by simp [setL])), h0, h1, h2, h3, h4, h5, h6, h7, h8, h9, h10, h11, h12, h13, h14, h15, hI, (fun h => absurd h (by simp [setL])), (fun _ => by rw [plR_snoc]; exact hSp), (fun h => absurd rfl (hn 18 _ rfl h ⟨17, .data⟩ (by simp) rfl))⟩
              · intro L v wx hd hn hU ⟨hB, hz, s0, sl, h0, h1, h2, h3, h4, h5, h6, h7, h8, h9, h10, h11, h12, h13, h14, h15, hI, hb_, hA_, hC_⟩ K hK
                have hSA := hA_ (zdq hd 17 rfl)
                go_wp2_with fail
                exact hK _ (v 17) _ (by simp only [Act.put, pA, pB, pC]) ⟨hB, hz, s0, sl, h0, h1, h2, h3, h4, h5, h6, h7, h8, h9, h10, h11, h12, h13, h14, h15, (fun h => absurd h (by simp [setL])), hb_, hA_, (fun _ => rfl)⟩
            · intro L v wx hL ⟨hB, hz, s0, sl, h0, h1, h2, h3, h4, h5, h6, h7, h8, h9, h10, h11, h12, h13, h14, h15, hI, hb_, hA_, hC_⟩
              have hSN := hA_ (hL 17 (by decide))
              have eC := hC_ (hL 18 (by decide))
              have hbN := hB
              have hmN := s0
              clear hI
              obtain ⟨vN, eN⟩ : ∃ x, x = v 17 := ⟨_, rfl⟩
              rw [← eN] at hSN eC
              clear hL sl h0 h1 h2 h3 h4 h5 h6 h7 h8 h9 h10 h11 h12 h13 h14 h15 hb_ hA_ hC_ hB s0 hSl B0 hb eN
              have hb := hbN
              have B0 := hmN
              clear hbN hmN
              simp only [eC]
              go_wp2_with fail
              go_roundw
              case rel => exact ⟨i + 1, true, vN, _, rfl, rfl, by go_num, by omega, by rw [List.length_append, List.length_singleton]; omega, HE2, hb, B0, hSN⟩
              case measure => simp [intOf] <;> omega
         · have hiI : ¬ (i : Int) < (M.length : Int) := by omega
           obtain rfl : i = M.length := by omega
           have hE2 := hE.out
           rw [List.drop_length, puW_end] at hE2
           have hown := hSl.own
           clear hE
           cases pl with
           | true =>
            have HE2 := Lib.hid (show Q = ptL p M x by rw [← hE2]; simp)
            clear hE2
            obtain ⟨a2, c2, rfl⟩ := hSl.form
            rw [plR_len] at hSl ⊢
            go_wp2_with fail
            go_ret
            exact ⟨a2, c2, by rw [← HE2.out]; rfl, by rw [← HE2.out]; exact hSl.base (Nat.le_trans hb0 hbw), hb⟩
           | false =>
            have HE2 := Lib.hid (show Q ++ [m] = ptL p M x by rw [← hE2]; simp)
            clear hE2
            go_wp2_with (first | (refine zla (.tmp 5) B0 Try.underlying28 Try.size28 ?_) | (refine wpList_build1 rfl 30 _ (bl 64 m) 64 rfl 28 Try.underlying30 Try.elem28 (by decide) (by decide) (zl _ _) rfl ?_; intro wa hrw hba; have eS := hSl.zw hba; have ehb := hb.trans (hba.mono hb.size)) | (at_builtin; refine wpList_append_sl _ rfl _ _ 30 rfl base 28 (.agg (zb 64 fun _ => 0)) 64 64 Try.underlying30 Try.infoPoly (by simp [Value.cells, bl]) (by decide) lst _ rfl eS wr.heap.size (bl 64 m) rfl (zl _ _) hrw.range (bl_one65 m) (by rw [plR_len]; unfold maxLen; omega) (by rw [plR_len]; omega) ?_; intro vp wp hSp hg1))
            have fhb := ehb.grown hg1 ehb.size (fun k e => Nat.le_trans hbw (hown k e))
            rw [← plR_snoc, HE2.out] at hSp
            obtain ⟨a2, c2, rfl⟩ := hSp.form
            rw [plR_len] at hSp ⊢
            go_ret
            exact ⟨a2, c2, rfl, hSp.base (Nat.le_trans hb0 hbw), fhb⟩
end Go.Proofs.Ytelgefgphhebnaa
end
section
namespace Go.Proofs.Ytelgefgphhebnaa
open Go Go.RowKit
set_option linter.unusedVariables false
set_option linter.unusedSimpArgs false
theorem plR_cut (L : List (Nat → Nat)) : plR (L.map cut) = plR L := by
 unfold plR
 rw [List.map_map]
 apply List.map_congr_left
 intro f _
 exact bl_cut f
theorem spnV_eq (p : Nat) (L : List (Nat → Nat)) : (L.map cut).foldl (ptL p) [] = spnV p L := by unfold spnV; rfl
attribute [local irreducible] deg clr mkP sclP clrA cln ptL puW addK invN
set_option maxRecDepth 100000 in
set_option maxHeartbeats 3200000 in
theorem l09Span_any (p d : Nat) (Ls : List (Nat → Nat)) (a : Option Addr) (cap base0 : Nat) (w : World) (hpr : p = 2 ∨ p = 3 ∨ p = 5 ∨ p = 7) (hd4 : d ≤ 4) (hLs : ∀ z, z ∈ Ls → (∀ k, k < 64 → z k < p) ∧ deg z < (d : Int)) (hlen : (Ls.length : Int) ≤ 1048576) (hL : SlL w base0 28 64 (.slice a Ls.length cap) (plR Ls)) :
 Calls Try.prog 54 #[.int .i64 (p : Int), .slice a Ls.length cap] w fun e w' => ∃ a' cap', e = .returned (.slice a' (spnV p Ls).length cap') ∧ SlL w' w.heap.size 28 64 (.slice a' (spnV p Ls).length cap') (plR (spnV p Ls)) ∧ Below w.heap.size w w' := by
 have hLc := spnV_ok hpr hd4 hLs
 rw [← plR_cut] at hL
 have hcl : (Ls.map cut).length = Ls.length := List.length_map _
 rw [← spnV_eq]
 obtain ⟨Lc, hLce⟩ : ∃ Lc, Lc = Ls.map cut := ⟨_, rfl⟩
 rw [← hLce] at hLc hL hcl ⊢
 rw [← hcl] at hL hlen ⊢
 clear hLs hLce hcl
 have HOK := Lib.hid (fun j => ptR_ok hpr hd4 hLc j)
 have HZ0 := Lib.hid (ptR_z p Lc)
 have HLN := Lib.hid (ptR_n p Lc)
 have HLC := Lib.hid hLc
 have HPT := Lib.hid (fun M x a1 c1 b1 W h1 h2 h3 h4 h5 => l03Put_any p M x a1 c1 b1 W hpr h1 h2 h3 h4 h5)
 clear hLc
 go_enter Try.func54, Try.ntmps54
 have hb1 : Below w.heap.size w (w.alloc (.cells #[] 28)) := (Below.refl _ _).alloc (Nat.le_refl _) _
 have hS0 : SlL (w.alloc (.cells #[] 28)) w.heap.size 28 64 (.slice (some ⟨w.heap.size, 0, none⟩) 0 0) (plR []) := by rw [plR_nil]; exact slL_empty w 28 64 (Nat.le_refl _)
 go_wp2_with fail
 go_loopw [5, 6] (fun s c wr => ∃ (j : Nat) (a1 : Option Addr) (n1 c1 : Nat), s = .slice a1 n1 c1 ∧ c = .int .i64 (j : Int) ∧ j ≤ Lc.length ∧ Hid (n1 = (ptR p Lc j).length) ∧ Below w.heap.size w wr ∧ SlL wr w.heap.size 28 64 (.slice a1 n1 c1) (plR (ptR p Lc j))) (fun _ c _ => Lc.length - (intOf c).toNat)
 case atStart => exact ⟨0, _, 0, 0, rfl, rfl, Nat.zero_le _, Lib.hid (by rw [HZ0.out]; rfl), hb1, by rw [HZ0.out]; exact hS0⟩
 case round =>
  clear hb1 hS0
  obtain ⟨j, a1, n1, c1, rfl, rfl, hjn, hN1, hb, hS⟩ := hrel
  by_cases hj : j < Lc.length
  · have hjI : (j : Int) < (Lc.length : Int) := by omega
    obtain ⟨x, hx⟩ : ∃ x, Lc[j]? = some x := ⟨_, List.getElem?_eq_getElem hj⟩
    obtain ⟨g, rfl⟩ := hL.some (by rw [plR_len]; omega)
    have hrow := plR_at hx
    have hxc := (HLC.out x (List.mem_of_getElem? hx)).1
    obtain ⟨k4, kr⟩ := HOK.out j
    have HPX := Lib.hid (show ∀ W, SlL W w.heap.size 28 64 (.slice a1 n1 c1) (plR (ptR p Lc j)) → w.heap.size ≤ W.heap.size → Calls Try.prog _ _ W (fun e w' => ∃ a' cap', e = .returned (.slice a' (ptR p Lc (j + 1)).length cap') ∧ SlL w' w.heap.size 28 64 (.slice a' (ptR p Lc (j + 1)).length cap') (plR (ptR p Lc (j + 1))) ∧ Below W.heap.size W w') from fun W h1 h2 => by
     have := HPT.out (ptR p Lc j) x a1 c1 w.heap.size W (fun r hr => by obtain ⟨u1, t, u2, u3⟩ := kr r hr; exact ⟨u1, t, u2, by omega⟩) k4 hxc (by rw [← hN1.out]; exact h1) h2
     rw [← ptR_s hx, ← hN1.out] at this
     exact this)
    clear hx hxc k4 kr
    go_wp2_with (first | (refine wpList_load_mid rfl 28 (.tmp 18) rfl _ (j * 64) rfl (bl 64 x) _ ((hL.zw hb).range hrow) Try.underlying28 rfl (by rw [zl]; exact Try.size28) ?_) | (go_at_call 96; refine (HPX.out _ hS hb.size).mono ?_; rintro e W5 ⟨a2, c2, rfl, hS5, h5⟩))
    go_roundw
    case rel => exact ⟨j + 1, a2, _, c2, rfl, by go_num, by omega, Lib.hid rfl, hb.trans (h5.mono hb.size), hS5⟩
    case measure => simp [intOf] <;> omega
  · have hjI : ¬ (j : Int) < (Lc.length : Int) := by omega
    obtain rfl : j = Lc.length := by omega
    have HE := Lib.hid (show n1 = (Lc.foldl (ptL p) []).length by rw [← HLN.out]; exact hN1.out)
    rw [HLN.out] at hS
    go_wp2_with fail
    go_ret
    exact ⟨a1, c1, by rw [← HE.out]; rfl, by rw [← HE.out]; exact hS, hb⟩
set_option maxRecDepth 100000 in
set_option maxHeartbeats 3200000 in
theorem span_any (p d : Nat) (m : Nat → Nat) (Ls : List (Nat → Nat)) (a : Option Addr) (cap base0 : Nat) (w : World) (hpr : p = 2 ∨ p = 3 ∨ p = 5 ∨ p = 7) (hd4 : d ≤ 4) (hLs : ∀ z, z ∈ Ls → (∀ k, k < 64 → z k < p) ∧ deg z < (d : Int)) (hlen : (Ls.length : Int) ≤ 1048576) (hL : SlL w base0 28 64 (.slice a Ls.length cap) (plR Ls)) :
 Calls Try.prog 56 #[.agg (fdC (p : Int) m).toArray, .slice a Ls.length cap] w fun e w' => ∃ a' cap', e = .returned (.slice a' (spnV p Ls).length cap') ∧ SlL w' w.heap.size 28 64 (.slice a' (spnV p Ls).length cap') (plR (spnV p Ls)) ∧ Below w.heap.size w w' := by
 have hLc := spnV_ok hpr hd4 hLs
 have hcl : (Ls.map cut).length = Ls.length := List.length_map _
 have HRD := Lib.hid (show ∀ W, Below w.heap.size w W → Calls Try.prog _ _ W (fun e w' => ∃ a' cap', e = .returned (.slice a' (spnV p Ls).length cap') ∧ SlL w' W.heap.size 28 64 (.slice a' (spnV p Ls).length cap') (plR (spnV p Ls)) ∧ Below W.heap.size W w') from fun W hW => by
  have := reduced_any p d (Ls.map cut) a cap base0 W hpr hd4 hLc (by rw [hcl]; exact hlen) (by rw [hcl, plR_cut]; exact hL.zw hW)
  rw [spnV_eq, hcl] at this
  exact this)
 clear hLc hcl hLs hL
 go_enter Try.func56, Try.ntmps56
 go_upto_region 1 with (fail)
 obtain ⟨W1, hwo⟩ : ∃ v : World, v = (w.alloc (.cells (fdC (p : Int) m).toArray 70)) := ⟨_, rfl⟩
 have B0 : Row W1 (w.heap.size) 70 (fdC (p : Int) m).toArray := by subst hwo; have := (Row.new w 70 (fdC (p : Int) m).toArray); simpa using this
 have hb : Below w.heap.size w W1 := by subst hwo; exact ((Below.refl _ _).alloc (Nat.le_refl _) _)
 rw [← hwo]
 clear hwo
 have cc := B0.cell (i := 0) (v := .int .i64 (p : Int)) (fdC_at (p : Int) m)
 go_wp2_with (first | (refine zbo rfl 114 _ rfl (rsC (p : Int)).toArray (by rw [Array.toList_map]; exact built_rs (p : Int)) ?_) | (go_at_call 101; refine (HRD.out _ hb).mono ?_; rintro e W5 ⟨a2, c2, rfl, hS5, h5⟩))
 go_ret
 exact ⟨a2, c2, rfl, hS5.base hb.size, hb.trans (h5.mono hb.size)⟩
set_option maxRecDepth 100000 in
set_option maxHeartbeats 3200000 in
theorem rank_any (p d : Nat) (m : Nat → Nat) (Ls : List (Nat → Nat)) (a : Option Addr) (cap base0 : Nat) (w : World) (hpr : p = 2 ∨ p = 3 ∨ p = 5 ∨ p = 7) (hd4 : d ≤ 4) (hLs : ∀ z, z ∈ Ls → (∀ k, k < 64 → z k < p) ∧ deg z < (d : Int)) (hlen : (Ls.length : Int) ≤ 1048576) (hL : SlL w base0 28 64 (.slice a Ls.length cap) (plR Ls)) :
 Calls Try.prog 57 #[.agg (fdC (p : Int) m).toArray, .slice a Ls.length cap] w fun e w' => e = .returned (.int .i64 ((spnV p Ls).length : Int)) ∧ Below w.heap.size w w' := by
 have HSP := Lib.hid (fun W (hW : Below w.heap.size w W) => span_any p d m Ls a cap base0 W hpr hd4 hLs hlen (hL.zw hW))
 clear hLs hL
 go_enter Try.func57, Try.ntmps57
 go_upto_region 1 with (fail)
 obtain ⟨W1, hwo⟩ : ∃ v : World, v = (w.alloc (.cells (fdC (p : Int) m).toArray 70)) := ⟨_, rfl⟩
 have B0 : Row W1 (w.heap.size) 70 (fdC (p : Int) m).toArray := by subst hwo; have := (Row.new w 70 (fdC (p : Int) m).toArray); simpa using this
 have hb : Below w.heap.size w W1 := by subst hwo; exact ((Below.refl _ _).alloc (Nat.le_refl _) _)
 rw [← hwo]
 clear hwo
 go_wp2_with (first | (refine zlr rfl 70 (.tmp 2) rfl _ rfl 70 (fdC (p : Int) m).toArray B0 _ Try.underlying70 rfl 65 Try.size70 (by simp [fdC_len]) ?_) | (go_at_call 56; refine (HSP.out _ hb).mono ?_; rintro e W5 ⟨a2, c2, rfl, hS5, h5⟩))
 go_ret
 exact ⟨rfl, hb.trans (h5.mono hb.size)⟩
/-- the code of words -/
noncomputable def cwV (p : Int) (m : Nat → Nat) (Ls : List (List (Nat → Nat))) : Int := if ckR p m Ls = 0 then (if ∀ L, L ∈ Ls → L.length ≤ 4 then 0 else 2) else 1
theorem cwV_1 {p : Int} {m : Nat → Nat} {Ls : List (List (Nat → Nat))} (h : ckR p m Ls = 1) : cwV p m Ls = 1 := by unfold cwV; rw [if_neg (by omega)]
theorem cwV_0 {p : Int} {m : Nat → Nat} {Ls : List (List (Nat → Nat))} (h : ckR p m Ls = 0) (h2 : ∀ (i : Nat) (L : List (Nat → Nat)), Ls[i]? = some L → L.length ≤ 4) : cwV p m Ls = 0 := by
 unfold cwV; rw [if_pos h, if_pos]
 intro L hL
 obtain ⟨i, hi, e⟩ := List.getElem_of_mem hL
 exact h2 i L (by rw [← e]; exact List.getElem?_eq_getElem hi)
theorem cwV_2 {p : Int} {m : Nat → Nat} {Ls : List (List (Nat → Nat))} {L : List (Nat → Nat)} {j : Nat} (h : ckR p m Ls = 0) (hj : Ls[j]? = some L) (h2 : ¬ L.length ≤ 4) : cwV p m Ls = 2 := by
 unfold cwV; rw [if_pos h, if_neg]
 intro h3
 exact h2 (h3 L (List.mem_of_getElem? hj))
theorem cwV_zero {p : Int} {m : Nat → Nat} {Ls : List (List (Nat → Nat))} (h : cwV p m Ls = 0) : ckR p m Ls = 0 ∧ ∀ L, L ∈ Ls → L.length ≤ 4 := by
 unfold cwV at h
 split at h
 · rename_i h1
   split at h
   · rename_i h2; exact ⟨h1, h2⟩
   · omega
 · omega
attribute [irreducible] cwV
set_option maxRecDepth 100000 in
set_option maxHeartbeats 3200000 in
theorem checkWords_any (p : Int) (m : Nat → Nat) (hm : byte m) (Ls : List (List (Nat → Nat))) (vs : List Value) (v : Value) (w : World) (hLb : ∀ L, L ∈ Ls → (∀ x, x ∈ L → byte x) ∧ (L.length : Int) ≤ 1048576) (hk : Ls.length ≤ 4) (hV : LsV w vs Ls) (hS : LsS w v vs) :
 Calls Try.prog 51 #[.int .i64 p, .agg (zb 64 m), v] w fun e w' => e = .returned (.int .i64 (cwV p m Ls)) ∧ Below w.heap.size w w' := by
 have HCR := Lib.hid (fun W (hW : Below w.heap.size w W) => checkResidues_any p m hm Ls vs v W hLb hk (hV.below hW) (hS.below hW))
 have HLB := Lib.hid hLb
 obtain ⟨a, cap, rfl, hrow⟩ := hS.out
 have HROW := Lib.hid hrow
 have HV := Lib.hid hV
 have hvl : vs.length = Ls.length := hV.len
 rw [hvl] at HCR ⊢
 have HVL := Lib.hid hvl
 clear hLb hrow hV hvl hS
 go_enter Try.func51, Try.ntmps51
 go_upto_region 1 with (fail)
 obtain ⟨W1, hwo⟩ : ∃ v : World, v = (w.alloc (.cells (zb 64 (m)) 28)) := ⟨_, rfl⟩
 have B0 : Blk W1 (w.heap.size) 64 28 (m) := by subst hwo; have := (Blk.new w 64 28 (m)); simpa using this
 have hb : Below w.heap.size w W1 := by subst hwo; exact ((Below.refl _ _).alloc (Nat.le_refl _) _)
 rw [← hwo]
 clear hwo
 rcases ckR_two p m Ls with hc | hc
 · go_upto_region 2 with (first | (refine zla (.tmp 4) B0 Try.underlying28 Try.size28 ?_) | (go_at_call 55; refine (HCR.out _ hb).mono ?_; rintro e W2 ⟨rfl, hW2⟩; replace B0 := B0.zw hW2; replace hb := (hb).trans (hW2.mono (hb).size); rw [hc]))
   have HC := Lib.hid hc
   clear hc HCR
   go_wp2_with fail
   go_loopw [19] (fun c wr => ∃ j : Nat, c = .int .i64 (j : Int) ∧ j ≤ Ls.length ∧ Hid (∀ (i : Nat) (L : List (Nat → Nat)), i < j → Ls[i]? = some L → L.length ≤ 4) ∧ Below w.heap.size w wr) (fun c _ => Ls.length - (intOf c).toNat)
   case atStart => exact ⟨0, rfl, Nat.zero_le _, Lib.hid (fun i x hi => absurd hi (Nat.not_lt_zero _)), hb⟩
   case round =>
    clear hb
    obtain ⟨j, rfl, hjn, hG, hb⟩ := hrel
    by_cases hj : j < Ls.length
    · have hjI : (j : Int) < (Ls.length : Int) := by omega
      obtain ⟨L, hx⟩ : ∃ L, Ls[j]? = some L := ⟨_, List.getElem?_eq_getElem hj⟩
      obtain ⟨base, a1, c1, hv1, hL⟩ := HV.out.at hx
      rcases HROW.out with he | ⟨b, rfl, hR⟩
      · exfalso; have h9 := HVL.out; rw [he] at h9; simp at h9; omega
      have hRW : Row wr b 30 vs.toArray := hR.zw hb
      have hat : vs.toArray[j]? = some (.slice a1 L.length c1) := by simpa using hv1
      have hll := (HLB.out L (List.mem_of_getElem? hx)).2
      have HX := Lib.hid hx
      clear hx hR hv1 hL
      by_cases h4 : L.length ≤ 4
      · have h4I : ¬ (L.length : Int) > 4 := by omega
        go_wp2_with (first | (refine wpList_load_rowc rfl 30 (.tmp 21) rfl b j rfl 30 _ hRW _ hat _ Try.underlying30 rfl ?_))
        go_roundw
        case rel => exact ⟨j + 1, by go_num, by omega, Lib.hid (fun i y hi hy => by
         by_cases e : i = j
         · subst e; have := HX.out; rw [hy] at this; injection this with this; rw [this]; exact h4
         · exact hG.out i y (by omega) hy), hb⟩
        case measure => simp [intOf] <;> omega
      · have h4I : (L.length : Int) > 4 := by omega
        go_wp2_with (first | (refine wpList_load_rowc rfl 30 (.tmp 21) rfl b j rfl 30 _ hRW _ hat _ Try.underlying30 rfl ?_))
        go_ret
        exact ⟨(by rw [cwV_2 HC.out HX.out h4] <;> rfl), hb⟩
    · have hjI : ¬ (j : Int) < (Ls.length : Int) := by omega
      go_wp2_with fail
      go_ret
      exact ⟨(by rw [cwV_0 HC.out (fun i x hx => hG.out i x (by have := (List.getElem?_eq_some_iff.1 hx).1; omega) hx)] <;> rfl), hb⟩
 · go_upto_region 2 with (first | (refine zla (.tmp 4) B0 Try.underlying28 Try.size28 ?_) | (go_at_call 55; refine (HCR.out _ hb).mono ?_; rintro e W2 ⟨rfl, hW2⟩; replace B0 := B0.zw hW2; replace hb := (hb).trans (hW2.mono (hb).size); rw [hc]))
   go_wp2_with fail
   go_ret
   exact ⟨(by rw [cwV_1 hc] <;> rfl), hb⟩
set_option maxRecDepth 100000 in
set_option maxHeartbeats 3200000 in
theorem l09Listed_any (p : Int) (m : Nat → Nat) (hm : byte m) (Lr : List (Nat → Nat)) (a : Option Addr) (cap base : Nat) (w : World) (hLb : ∀ x, x ∈ Lr → byte x) (hlen : (Lr.length : Int) ≤ 1048576) (hL : SlL w base 28 64 (.slice a Lr.length cap) (plR Lr)) :
 Calls Try.prog 49 #[.int .i64 p, .agg (zb 64 m), .slice a Lr.length cap, .int .i64 4] w fun e w' => e = .returned (.int .i64 (cwV p m [Lr])) ∧ Below w.heap.size w w' := by
 have HCR := Lib.hid (fun W (hW : Below w.heap.size w W) => l03Residues_any p m hm Lr a cap base W hLb hlen (hL.zw hW))
 clear hLb hL
 go_enter Try.func49, Try.ntmps49
 go_upto_region 1 with (fail)
 obtain ⟨W1, hwo⟩ : ∃ v : World, v = (w.alloc (.cells (zb 64 (m)) 28)) := ⟨_, rfl⟩
 have B0 : Blk W1 (w.heap.size) 64 28 (m) := by subst hwo; have := (Blk.new w 64 28 (m)); simpa using this
 have hb : Below w.heap.size w W1 := by subst hwo; exact ((Below.refl _ _).alloc (Nat.le_refl _) _)
 rw [← hwo]
 clear hwo
 rcases ckR_two p m [Lr] with hc | hc
 · by_cases h4 : Lr.length ≤ 4
   · have h4I : ¬ (Lr.length : Int) > 4 := by omega
     go_upto_region 2 with (first | (refine zla (.tmp 5) B0 Try.underlying28 Try.size28 ?_) | (go_at_call 53; refine (HCR.out _ hb).mono ?_; rintro e W2 ⟨rfl, hW2⟩; replace B0 := B0.zw hW2; replace hb := (hb).trans (hW2.mono (hb).size); rw [hc]))
     go_wp2_with fail
     go_ret
     exact ⟨(by rw [cwV_0 hc (fun i L hi => by
      have h1 : i = 0 := by have := (List.getElem?_eq_some_iff.1 hi).1; simp at this; omega
      subst h1
      have h2 : Lr = L := by simpa using hi
      subst h2
      exact h4)] <;> rfl), hb⟩
   · have h4I : (Lr.length : Int) > 4 := by omega
     go_upto_region 2 with (first | (refine zla (.tmp 5) B0 Try.underlying28 Try.size28 ?_) | (go_at_call 53; refine (HCR.out _ hb).mono ?_; rintro e W2 ⟨rfl, hW2⟩; replace B0 := B0.zw hW2; replace hb := (hb).trans (hW2.mono (hb).size); rw [hc]))
     go_wp2_with fail
     go_ret
     exact ⟨(by rw [cwV_2 (j := 0) hc rfl h4] <;> rfl), hb⟩
 · go_upto_region 2 with (first | (refine zla (.tmp 5) B0 Try.underlying28 Try.size28 ?_) | (go_at_call 53; refine (HCR.out _ hb).mono ?_; rintro e W2 ⟨rfl, hW2⟩; replace B0 := B0.zw hW2; replace hb := (hb).trans (hW2.mono (hb).size); rw [hc]))
   go_wp2_with fail
   go_ret
   exact ⟨(by rw [cwV_1 hc] <;> rfl), hb⟩
end Go.Proofs.Ytelgefgphhebnaa
end
section
namespace Go.Proofs.Ytelgefgphhebnaa
open Go Go.RowKit
set_option linter.unusedVariables false
set_option linter.unusedSimpArgs false
attribute [local irreducible] deg irB monUp monB okA mmP
theorem flV_fld {p : Int} {m : Nat → Nat} (h1 : flV p m = true) : ∃ n : Nat, p = (n : Int) ∧ (n = 2 ∨ n = 3 ∨ n = 5 ∨ n = 7) ∧ (∀ k, k < 64 → m k < n) ∧ ∃ d, mon m d ∧ 1 ≤ d ∧ d ≤ 4 := by
 have ho : okA p m = true := by
  cases ho : okA p m with
  | true => rfl
  | false => rw [flV_1 ho] at h1; cases h1
 have hm : monUp 4 m = true := by
  cases hm : monUp 4 m with
  | true => rfl
  | false => rw [flV_2 hm] at h1; cases h1
 obtain ⟨n, hn, hpr, hl⟩ := okA_nat ho
 obtain ⟨d, a1, a2, a3⟩ := mon_up hm
 exact ⟨n, hn, hpr, hl, d, a1, a2, by omega⟩
end Go.Proofs.Ytelgefgphhebnaa
end
section
namespace Go.Proofs.Ytelgefgphhebnaa
open Go Go.RowKit
set_option linter.unusedVariables false
set_option linter.unusedSimpArgs false
theorem Try.elemSl : (Try.prog.info? 30).map (fun i => (i.size, i.zero.isSome)) = some (1, true) := by kernel_rfl
section
variable {P : Program}
theorem wpList_build_one {ops : Array Oper} {rest : List Oper} {o : Oper} {a : Act} {w : World} {Q : Exit → Act → World → Prop} (hg : o.guard = none) (t : TypeId) (parts : Array (Nat × Operand)) (v : Value) (hv : v.cells = #[v])
 (ho : o.op = .buildSlice t 1 parts) (e : TypeId) (hu : P.underlying t = some (.slice e)) (hie : (P.info? e).map (fun i => (i.size, i.zero.isSome)) = some (1, true))
 (hp : (parts.toList.map fun x => (x.1, a.eval x.2)) = [(0, v)])
 (h : ∀ w', Row w' w.heap.size e [v].toArray → Below w.heap.size w w' → wpList P ops Q rest (a.put o.dst (.slice (some ⟨w.heap.size, 0, none⟩) 1 1)) w') : wpList P ops Q (o :: rest) a w := by
 cases hi : P.info? e with
 | none => simp [hi] at hie
 | some ie =>
  simp only [hi, Option.map_some, Option.some.injEq, Prod.mk.injEq] at hie
  obtain ⟨hs, hz⟩ := hie
  obtain ⟨z, hzz⟩ := Option.isSome_iff_exists.1 hz
  refine wpList_buildSlice hg t e 1 parts ho [v].toArray ie z hu hi hzz (by rw [hs]; omega) (by rw [hs]; omega) ?_ (h _ (Row.new w e [v].toArray) (zal _ _))
  rw [Array.toList_map, hp, hs]
  have e1 : (Array.range (1 * 1)).map (z.cells[· % z.cells.size]!) = #[z.cells[0 % z.cells.size]!] := by
   apply Array.toList_inj.1
   rw [Array.toList_map, Array.toList_range]
   rfl
  rw [e1]
  simp [Instr.fill, hv]
end
theorem rs_good {p d : Nat} {m : Nat → Nat} {L : List (Nat → Nat)} (hd : deg m = (d : Int)) (h : rsA (p : Int) m L = true) : ∀ z, z ∈ L → (∀ k, k < 64 → z k < p) ∧ deg z < (d : Int) := fun z hz => by
 have := rsA_mem h hz
 unfold rsB at this
 simp only [Bool.and_eq_true, decide_eq_true_eq] at this
 exact ⟨fun k hk => by have := okA_lt this.1 hk; omega, by rw [← hd]; exact this.2⟩
/-- a rank with its code -/
noncomputable def rkV (p : Int) (m : Nat → Nat) (L : List (Nat → Nat)) : Int × Int := if cwV p m [L] = 0 then (((spnV p.toNat L).length : Int), 0) else (0, cwV p m [L])
theorem rkV_0 {n : Nat} {m : Nat → Nat} {L : List (Nat → Nat)} (h : cwV (n : Int) m [L] = 0) : rkV (n : Int) m L = (((spnV n L).length : Int), 0) := by unfold rkV; rw [if_pos h]; rfl
theorem rkV_n {p : Int} {m : Nat → Nat} {L : List (Nat → Nat)} (h : cwV p m [L] ≠ 0) : rkV p m L = (0, cwV p m [L]) := by unfold rkV; rw [if_neg h]
theorem ck_fld {p : Int} {m : Nat → Nat} {Ls : List (List (Nat → Nat))} (h : ckR p m Ls = 0) : ∃ n d : Nat, p = (n : Int) ∧ (n = 2 ∨ n = 3 ∨ n = 5 ∨ n = 7) ∧ (∀ k, k < 64 → m k < n) ∧ mon m d ∧ 1 ≤ d ∧ d ≤ 4 ∧ deg m = (d : Int) ∧ ∀ L, L ∈ Ls → ∀ z, z ∈ L → (∀ k, k < 64 → z k < n) ∧ deg z < (d : Int) := by
 obtain ⟨h1, h2⟩ := ckR_zero h
 obtain ⟨n, rfl, hpr, lm, d, hm, d1, d4⟩ := flV_fld h1
 exact ⟨n, d, rfl, hpr, lm, hm, d1, d4, hm.1, fun L hL => rs_good hm.1 (h2 L hL)⟩
attribute [irreducible] rkV
attribute [local irreducible] deg flV
set_option maxRecDepth 100000 in
set_option maxHeartbeats 3200000 in
theorem impl_RankOfWord_any (p : Int) (m : Nat → Nat) (Lr : List (Nat → Nat)) (a : Option Addr) (cap base : Nat) (w : World) (hm : byte m) (hLb : ∀ x, x ∈ Lr → byte x) (hlen : (Lr.length : Int) ≤ 1048576) (hL : SlL w base 28 64 (.slice a Lr.length cap) (plR Lr)) :
 Calls Try.prog 28 #[.int .i64 p, .agg (zb 64 m), .slice a Lr.length cap] w fun e w' => e = .returned (.tuple #[.int .i64 (rkV p m Lr).1, .int .i64 (rkV p m Lr).2]) ∧ Below w.heap.size w w' := by
 have HCK := Lib.hid (fun W W2 b (hW : Below w.heap.size w W) (hy : Below W.heap.size W W2) (hR : Row W2 b 30 [Value.slice a Lr.length cap].toArray) => checkWords_any p m hm [Lr] [.slice a Lr.length cap] (.slice (some ⟨b, 0, none⟩) 1 1) W2 (fun L h => by rw [List.mem_singleton] at h; subst h; exact ⟨hLb, hlen⟩) (by simp) (LsV.one ((hL.zw hW).below hy (hL.zw hW).lt)) (LsS.row (vs := [Value.slice a Lr.length cap]) hR))
 go_enter Try.func28, Try.ntmps28
 go_upto_region 1 with (fail)
 obtain ⟨W1, hwo⟩ : ∃ v : World, v = (w.alloc (.cells (zb 64 (m)) 28)) := ⟨_, rfl⟩
 have B0 : Blk W1 (w.heap.size) 64 28 (m) := by subst hwo; have := (Blk.new w 64 28 (m)); simpa using this
 have hb : Below w.heap.size w W1 := by subst hwo; exact ((Below.refl _ _).alloc (Nat.le_refl _) _)
 rw [← hwo]
 clear hwo
 obtain ⟨C, hC⟩ : ∃ C, cwV p m [Lr] = C := ⟨_, rfl⟩
 go_upto_region 2 with (first | (refine zla (.tmp 4) B0 Try.underlying28 Try.size28 ?_) | (refine wpList_build_one rfl 25 _ (.slice a Lr.length cap) rfl rfl 30 Try.underlying25 Try.elemSl rfl ?_; intro wa hrw hba) | (go_at_call 51; refine (HCK.out _ _ _ hb hba hrw).mono ?_; rintro e W5 ⟨rfl, h5⟩; replace B0 := (B0.zw hba).below h5 (B0.zw hba).lt; replace hb := (hb.trans (hba.mono hb.size)).trans (h5.mono (hb.trans (hba.mono hb.size)).size); rw [hC]))
 by_cases h0 : C = 0
 · have hck := hC.trans h0
   subst h0
   obtain ⟨hck2, hl4⟩ := cwV_zero hck
   obtain ⟨n, d, rfl, hpr, _, _, _, d4, _, hg⟩ := ck_fld hck2
   have hg1 := hg Lr (by simp)
   have HV := Lib.hid (rkV_0 hck)
   have hLw := hL.zw hb
   clear hC hck hck2 hg HCK
   go_upto_region 4 with (fail)
   go_wp2_with (first | (refine zla (.tmp 4) B0 Try.underlying28 Try.size28 ?_) | (refine zbo rfl 70 _ rfl (fdC (n : Int) m).toArray (by rw [Array.toList_map]; exact built_fd (n : Int) m) ?_) | (go_at_call 57; refine (rank_any n d m Lr a cap base _ hpr d4 hg1 hlen hLw).mono ?_; rintro e W6 ⟨rfl, h6⟩))
   go_ret2
   exact ⟨by rw [HV.out]; rfl, hb.trans (h6.mono hb.size)⟩
 · have HV := Lib.hid (rkV_n (show cwV p m [Lr] ≠ 0 by rw [hC]; exact h0))
   rw [hC] at HV
   have hC1 : (C != 0) = true := by simp [h0]
   clear hC HCK
   go_wp2_with fail
   go_ret2
   exact ⟨by rw [HV.out]; rfl, hb⟩
set_option maxRecDepth 100000 in
set_option maxHeartbeats 3200000 in
theorem spec_RankOfWord_any (p : Int) (m : Nat → Nat) (Lr : List (Nat → Nat)) (a : Option Addr) (cap base : Nat) (w : World) (hm : byte m) (hLb : ∀ x, x ∈ Lr → byte x) (hlen : (Lr.length : Int) ≤ 1048576) (hL : SlL w base 28 64 (.slice a Lr.length cap) (plR Lr)) :
 Calls Try.prog 27 #[.int .i64 p, .agg (zb 64 m), .slice a Lr.length cap] w fun e w' => e = .returned (.tuple #[.int .i64 (rkV p m Lr).1, .int .i64 (rkV p m Lr).2]) ∧ Below w.heap.size w w' := by
 have HCK := Lib.hid (fun W (hW : Below w.heap.size w W) => l09Listed_any p m hm Lr a cap base W hLb hlen (hL.zw hW))
 go_enter Try.func27, Try.ntmps27
 go_upto_region 1 with (fail)
 obtain ⟨W1, hwo⟩ : ∃ v : World, v = (w.alloc (.cells (zb 64 (m)) 28)) := ⟨_, rfl⟩
 have B0 : Blk W1 (w.heap.size) 64 28 (m) := by subst hwo; have := (Blk.new w 64 28 (m)); simpa using this
 have hb : Below w.heap.size w W1 := by subst hwo; exact ((Below.refl _ _).alloc (Nat.le_refl _) _)
 rw [← hwo]
 clear hwo
 obtain ⟨C, hC⟩ : ∃ C, cwV p m [Lr] = C := ⟨_, rfl⟩
 go_upto_region 2 with (first | (refine zla (.tmp 4) B0 Try.underlying28 Try.size28 ?_) | (go_at_call 49; refine (HCK.out _ hb).mono ?_; rintro e W5 ⟨rfl, h5⟩; replace B0 := B0.zw h5; replace hb := hb.trans (h5.mono hb.size); rw [hC]))
 by_cases h0 : C = 0
 · have hck := hC.trans h0
   subst h0
   obtain ⟨hck2, hl4⟩ := cwV_zero hck
   obtain ⟨n, d, rfl, hpr, _, _, _, d4, _, hg⟩ := ck_fld hck2
   have hg1 := hg Lr (by simp)
   have HV := Lib.hid (rkV_0 hck)
   have hLw := hL.zw hb
   clear hC hck hck2 hg HCK
   go_upto_region 4 with (fail)
   go_wp2_with (first | (go_at_call 54; refine (l09Span_any n d Lr a cap base _ hpr d4 hg1 hlen hLw).mono ?_; rintro e W6 ⟨a2, c2, rfl, hS6, h6⟩))
   go_ret2
   exact ⟨by rw [HV.out]; rfl, hb.trans (h6.mono hb.size)⟩
 · have HV := Lib.hid (rkV_n (show cwV p m [Lr] ≠ 0 by rw [hC]; exact h0))
   rw [hC] at HV
   have hC1 : (C != 0) = true := by simp [h0]
   clear hC HCK
   go_wp2_with fail
   go_ret2
   exact ⟨by rw [HV.out]; rfl, hb⟩
end Go.Proofs.Ytelgefgphhebnaa
end
section
namespace Go.Proofs.Ytelgefgphhebnaa
open Go Go.RowKit
set_option linter.unusedVariables false
set_option linter.unusedSimpArgs false
set_option maxRecDepth 100000 in
set_option maxHeartbeats 3200000 in
theorem FnExactRankOfWord_walkA (w : World) (p : Int) (m : Nat → Nat) (hm : byte m) (aWord : Option Addr) (nWord cWord : Nat) (XWord : Nat → Nat → Nat) (xWord : ∀ i, byte (XWord i)) (wWord : nWord ≤ maxLen) (lWord : Lst w aWord nWord XWord) :
 Calls Try.prog 5 #[.int .i64 p, .agg (zb 64 m), .slice aWord nWord cWord] w fun e w' => e = .returned (.bool true) ∧ Below w.heap.size w w' := by
 go_enter Try.func5, Try.ntmps5
 go_upto_region 1 with (fail)
 obtain ⟨W1, hwo⟩ : ∃ v : World, v = (w.alloc (.cells (zb 64 (m)) 22)) := ⟨_, rfl⟩
 have B0 : Blk W1 (w.heap.size) 64 22 (m) := by subst hwo; have := (Blk.new w 64 22 (m)); simpa using this
 have hb : Below w.heap.size w W1 := by subst hwo; exact ((Below.refl _ _).alloc (Nat.le_refl _) _)
 rw [← hwo]
 clear hwo
 by_cases hs0 : (nWord : Int) ≤ 1048576
 · have hneg0 : ¬ (1048576 - (nWord : Int) < 0) := by omega
   go_upto_region 5 with (first | (go_at_call 14; refine (szPolyS_at aWord nWord cWord (1048576) _ wWord (by omega) (by omega)).mono ?_; rintro e wS ⟨rfl, rfl⟩; rw [if_pos hs0]))
   have hm0 : (nWord : Int) ≤ 1048576 := by omega
   obtain ⟨LWord, hLWord⟩ : ∃ L : List (Nat → Nat), L = (List.range nWord).map XWord := ⟨_, rfl⟩
   have hlWord : LWord.length = nWord := by rw [hLWord]; simp
   have hbyWord : ∀ z, z ∈ LWord → byte z := fun z hz => by rw [hLWord] at hz; obtain ⟨i, _, rfl⟩ := List.mem_map.1 hz; exact xWord i
   have hlenWord : (LWord.length : Int) ≤ 1048576 := by omega
   have HTOWord := Lib.hid (fun W (hW : Below w.heap.size w W) => hLWord ▸ toPolyS_any aWord nWord cWord XWord xWord W (lWord.below hW) hm0)
   have HEQWord := Lib.hid (fun b b2 q q2 W h1 h2 => show Calls Try.prog 20 #[.slice (some ⟨b, 0, none⟩) nWord nWord, .slice (some ⟨b2, 0, none⟩) nWord nWord] W _ from hlWord ▸ eqPolyS_big LWord (some ⟨b, 0, none⟩) (some ⟨b2, 0, none⟩) LWord.length LWord.length q q2 W (hlWord ▸ h1) (hlWord ▸ h2) (by omega))
   clear hLWord
   have HSP := Lib.hid (fun (W : World) (bWord : Nat) (qWord : Nat) (sWord : SlL W qWord 28 64 (.slice (some ⟨bWord, 0, none⟩) nWord nWord) (plR LWord)) => show Calls Try.prog 27 #[.int .i64 p, .agg (zb 64 m), .slice (some ⟨bWord, 0, none⟩) nWord nWord] W _ from by
    have := spec_RankOfWord_any p m LWord (some ⟨bWord, 0, none⟩) LWord.length qWord W hm hbyWord hlenWord (hlWord ▸ sWord)
    rw [hlWord] at this
    exact this)
   have HIM := Lib.hid (fun (W : World) (bWord : Nat) (qWord : Nat) (sWord : SlL W qWord 28 64 (.slice (some ⟨bWord, 0, none⟩) nWord nWord) (plR LWord)) => show Calls Try.prog 28 #[.int .i64 p, .agg (zb 64 m), .slice (some ⟨bWord, 0, none⟩) nWord nWord] W _ from by
    have := impl_RankOfWord_any p m LWord (some ⟨bWord, 0, none⟩) LWord.length qWord W hm hbyWord hlenWord (hlWord ▸ sWord)
    rw [hlWord] at this
    exact this)
   clear hbyWord
   have hne0 : (((rkV p m LWord).1) != ((rkV p m LWord).1)) = false := by simp
   have hne1 : (((rkV p m LWord).2) != ((rkV p m LWord).2)) = false := by simp
   go_upto_region 6 with (first | (refine zla (.tmp 4) B0 Try.underlying22 Try.size22 ?_) | (go_at_call 16; refine (toPoly_any m hm _).mono ?_; rintro e W1 ⟨rfl, h2⟩; replace B0 := B0.zw h2; replace hb := hb.trans (h2.mono hb.size)) | (go_at_call 17; with_reducible refine (HTOWord.out _ hb).mono ?_; rintro e W2 ⟨bWord, rfl, hsWord, _, h2⟩; replace B0 := B0.zw h2; replace hb := hb.trans (h2.mono hb.size)) | (go_at_call 27; refine (HSP.out _ _ _ hsWord).mono ?_; rintro e W3 ⟨rfl, h2⟩; replace B0 := B0.zw h2; replace hb := hb.trans (h2.mono hb.size)))
   clear hsWord HSP
   go_upto_region 7 with (first | (go_at_call 17; with_reducible refine (HTOWord.out _ hb).mono ?_; rintro e W2 ⟨bWord, rfl, hsWord, _, h2⟩; replace B0 := B0.zw h2; replace hb := hb.trans (h2.mono hb.size)))
   go_upto_region 8 with (first | (refine zla (.tmp 4) B0 Try.underlying22 Try.size22 ?_) | (go_at_call 16; refine (toPoly_any m hm _).mono ?_; rintro e W1 ⟨rfl, h2⟩; try (replace hsWord := hsWord.zw h2); replace B0 := B0.zw h2; replace hb := hb.trans (h2.mono hb.size)) | (go_at_call 28; refine (HIM.out _ _ _ hsWord).mono ?_; rintro e W3 ⟨rfl, h2⟩; try (replace hsWord := hsWord.zw h2); replace B0 := B0.zw h2; replace hb := hb.trans (h2.mono hb.size)))
   clear HIM
   go_upto_region 10 with (fail)
   go_wp2_with (first | (go_at_call 17; with_reducible refine (HTOWord.out _ hb).mono ?_; rintro e W2 ⟨yWord, rfl, zWord, _, h2⟩; try (replace hsWord := hsWord.zw h2); replace B0 := B0.zw h2; replace hb := hb.trans (h2.mono hb.size)) | (go_at_call 20; refine (HEQWord.out _ _ _ _ _ hsWord zWord).mono ?_; rintro e W4 ⟨rfl, h2⟩; replace B0 := B0.zw h2; replace hb := hb.trans (h2.mono hb.size)))
   go_ret
   exact ⟨rfl, hb⟩
 · go_wp2_with (first | (go_at_call 14; refine (szPolyS_at aWord nWord cWord (1048576) _ wWord (by omega) (by omega)).mono ?_; rintro e wS ⟨rfl, rfl⟩; rw [if_neg hs0]))
   go_ret
   exact ⟨rfl, hb⟩
theorem FnExactRankOfWord_walk {w : World} (p : Int) (m : Nat → Nat) (hm : byte m) (aWord : Option Addr) (nWord cWord : Nat) (XWord : Nat → Nat → Nat) (xWord : ∀ i, byte (XWord i)) (wWord : nWord ≤ maxLen) (lWord : Lst w aWord nWord XWord) (w' : World) (hw : w' = w) :
 Calls Try.prog 5 #[.int .i64 p, .agg (zb 64 m), .slice aWord nWord cWord] w fun e w' => e = .returned (.bool true) ∧ Below w.heap.size w w' :=
 FnExactRankOfWord_walkA w p m hm aWord nWord cWord XWord xWord wWord lWord
end Go.Proofs.Ytelgefgphhebnaa
end
section
namespace Go.Proofs.Ytelgefgphhebnaa
open Go
def cutW : List Char := [Char.ofNat 99, Char.ofNat 117, Char.ofNat 116]
theorem strip_cut (rest : List (List Char)) : stripLifts liftWords (cutW :: rest) = ([], cutW :: rest) := by
 have key : ∀ os : List String, (os.all fun o => !(cutW == o.toList)) = true → stripLifts os (cutW :: rest) = ([], cutW :: rest) := by
  intro os
  induction os with
  | nil => intro _; rfl
  | cons o os ih =>
   intro h
   simp only [List.all_cons, Bool.and_eq_true, Bool.not_eq_true'] at h
   unfold stripLifts
   rw [h.1]
   exact ih h.2
 exact key _ (by decide +kernel)
theorem make_cut {P : Program} {rest : List (List Char)} (h : behindMainWord (wordsSigns P.initOrder.toList) = cutW :: rest) : P.make = some .cut := by
 unfold Program.make
 rw [h]
 have e1 : (cutW == "gc".toList || cutW == "spec".toList) = false := by decide +kernel
 have e2 : (cutW == "cut".toList) = true := by decide +kernel
 simp only [e1, e2, Bool.true_or]
 rfl
theorem mayEnter_cut {P : Program} {rest : List (List Char)} (h : behindMainWord (wordsSigns P.initOrder.toList) = cutW :: rest) (h1 : P.laysLater = false) (h2 : P.bearsReflect = false) (h3 : P.doorFits [] = true) : P.mayEnter = true := by
 unfold Program.mayEnter
 rw [h]
 have e2 : (some cutW == some "cut".toList) = true := by decide +kernel
 simp only [strip_cut, h1, h2, h3, List.head?_cons, e2]
 simp
theorem lifts_cut {P : Program} {rest : List (List Char)} (h : behindMainWord (wordsSigns P.initOrder.toList) = cutW :: rest) : P.liftsFinal = false := by
 unfold Program.liftsFinal Program.headLifts
 rw [h]
 have e2 : (some cutW == some "cut".toList) = true := by decide +kernel
 have e3 : (some cutW == some "carried".toList) = false := by decide +kernel
 simp only [strip_cut, List.head?_cons, e2, e3]
 simp
/-- the signs of the head, and its words behind the first three -/
def initRest : List (List Nat) := [[97, 116], [108, 111, 111, 112, 46, 101, 120, 97, 109, 112, 108, 101, 47, 103, 48, 49, 50, 52, 53, 47, 108, 97, 119, 115, 46, 70, 110, 69, 120, 97, 99, 116, 77, 111, 111, 114, 101, 77, 97, 116, 114, 105, 120], [108, 111, 111, 112, 46, 101, 120, 97, 109, 112, 108, 101, 47, 103, 48, 49, 50, 52, 53, 47, 108, 97, 119, 115, 46, 70, 110, 69, 120, 97, 99, 116, 83, 112, 97, 110, 79, 102], [108, 111, 111, 112, 46, 101, 120, 97, 109, 112, 108, 101, 47, 103, 48, 49, 50, 52, 53, 47, 108, 97, 119, 115, 46, 70, 110, 69, 120, 97, 99, 116, 82, 97, 110, 107, 79, 102, 87, 111, 114, 100], [108, 111, 111, 112, 46, 101, 120, 97, 109, 112, 108, 101, 47, 103, 48, 49, 50, 52, 53, 47, 108, 97, 119, 115, 46, 70, 110, 69, 120, 97, 99, 116, 82, 97, 110, 107, 68, 105, 115, 116, 97, 110, 99, 101], [108, 111, 111, 112, 46, 101, 120, 97, 109, 112, 108, 101, 47, 103, 48, 49, 50, 52, 53, 47, 108, 97, 119, 115, 46, 70, 110, 69, 120, 97, 99, 116, 76, 101, 97, 115, 116, 82, 97, 110, 107], [108, 111, 111, 112, 46, 101, 120, 97, 109, 112, 108, 101, 47, 103, 48, 49, 50, 52, 53, 47, 108, 97, 119, 115, 46, 70, 110, 69, 120, 97, 99, 116, 76, 101, 97, 115, 116, 83, 107, 101, 119], [108, 111, 111, 112, 46, 101, 120, 97, 109, 112, 108, 101, 47, 103, 48, 49, 50, 52, 53, 47, 108, 97, 119, 115, 46, 70, 110, 69, 120, 97, 99, 116, 77, 111, 111, 114, 101, 68, 101, 116, 101, 114, 109, 105, 110, 97, 110, 116], [108, 111, 111, 112, 46, 101, 120, 97, 109, 112, 108, 101, 47, 103, 48, 49, 50, 52, 53, 47, 108, 97, 119, 115, 46, 70, 110, 69, 120, 97, 99, 116, 83, 113, 117, 97, 114, 101, 79, 102, 83, 107, 101, 119], [108, 111, 111, 112, 46, 101, 120, 97, 109, 112, 108, 101, 47, 103, 48, 49, 50, 52, 53, 47, 108, 97, 119, 115, 46, 70, 110, 69, 120, 97, 99, 116, 65, 100, 100, 65, 99, 116, 105, 111, 110, 115], [108, 111, 111, 112, 46, 101, 120, 97, 109, 112, 108, 101, 47, 103, 48, 49, 50, 52, 53, 47, 108, 97, 119, 115, 46, 70, 110, 69, 120, 97, 99, 116, 67, 111, 109, 112, 111, 115, 101, 65, 99, 116, 105, 111, 110, 115], [108, 111, 111, 112, 46, 101, 120, 97, 109, 112, 108, 101, 47, 103, 48, 49, 50, 52, 53, 47, 108, 97, 119, 115, 46, 70, 110, 69, 120, 97, 99, 116, 75, 101, 114, 110, 101, 108, 79, 102, 83, 107, 101, 119]]
def initSigns : List Nat := [104, 97, 114, 110, 101, 115, 115, 32, 98, 57, 48, 99, 57, 51, 56, 49, 99, 102, 101, 100, 48, 56, 52, 98, 97, 48, 49, 54, 98, 53, 101, 53, 56, 98, 52, 101, 97, 101, 51, 97, 48, 55, 98, 56, 50, 57, 57, 51, 98, 99, 101, 101, 55, 52, 50, 52, 48, 98, 102, 102, 99, 51, 50, 55, 52, 50, 52, 54, 51, 101, 51, 101, 32, 99, 117, 116] ++ initRest.flatMap fun x => 32 :: x
theorem init_split : behindMainWord (wordsSigns (initSigns.map Char.ofNat)) = cutW :: initRest.map (fun w => w.map Char.ofNat) := by kernel_rfl
theorem init_order : Try.prog.initOrder = String.ofList (initSigns.map Char.ofNat) := by kernel_rfl
theorem init_cut : behindMainWord (wordsSigns Try.prog.initOrder.toList) = cutW :: initRest.map (fun w => w.map Char.ofNat) :=
 (congrArg (fun s : String => behindMainWord (wordsSigns s.toList)) init_order).trans ((congrArg (fun l => behindMainWord (wordsSigns l)) String.toList_ofList).trans init_split)
theorem Try.laysLater : Try.prog.laysLater = false := by kernel_rfl
theorem Try.bearsReflect : Try.prog.bearsReflect = false := by kernel_rfl
theorem Try.doorFits : Try.prog.doorFits [] = true := by kernel_rfl
theorem Try.mayEnter : Try.pinned.checked.prog.mayEnter = true := mayEnter_cut init_cut Try.laysLater Try.bearsReflect Try.doorFits
theorem Try.liftsFinal : Try.pinned.checked.prog.liftsFinal = false := lifts_cut init_cut
theorem Try.make : Try.pinned.checked.prog.make = some .cut := make_cut init_cut
end Go.Proofs.Ytelgefgphhebnaa
end
