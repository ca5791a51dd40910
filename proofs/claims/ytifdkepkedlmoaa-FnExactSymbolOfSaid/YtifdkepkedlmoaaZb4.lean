/-
  What the rows of this claim rest on: arrays of bytes, walks of the functions, plain mathematics.
-/
import Derived.Test.YtifdkepkedlmoaaZb3
import Derived.OpenShut
import Derived.ProofKit
import Derived.Test.YtifdkepkedlmoaaRows
import Derived.JoinedOf
section
namespace Go.Proofs.Ytifdkepkedlmoaa
open Go Go.RowKit
set_option linter.unusedVariables false
set_option linter.unusedSimpArgs false
theorem callsBelow' {fn : FuncId} {args : Array Value} {w : World} {v : Ending} (h : Calls Try.prog fn args w fun e w' => e = v ∧ w = w') : Calls Try.prog fn args w fun e w' => e = v ∧ Below w.heap.size w w' :=
 h.mono (by rintro e w' ⟨h, rfl⟩; exact ⟨h, Below.refl _ _⟩)
theorem pm_step {p s L q x y : Nat} (h : x = L * q * y % p) : s * x % p = s * L % p * q % p * y % p := by
 have m1 : ∀ a b : Nat, a % p * b % p = a * b % p := fun a b => by rw [Nat.mul_mod, Nat.mod_mod, ← Nat.mul_mod]
 have m2 : ∀ a b : Nat, a * (b % p) % p = a * b % p := fun a b => by rw [Nat.mul_mod, Nat.mod_mod, ← Nat.mul_mod]
 rw [h, m2, m1 (s * L % p * q) y, Nat.mul_assoc (s * L % p), m1 (s * L) (q * y)]
 congr 1
 simp only [Nat.mul_assoc]
attribute [local irreducible] deg invN quoP resP prd sbN sclP mon
set_option maxRecDepth 100000 in
set_option maxHeartbeats 3200000 in
theorem symbolOf_any (p d0 : Nat) (x0 m0 : Nat → Nat) (w : World) (hpr : p = 2 ∨ p = 3 ∨ p = 5 ∨ p = 7) (lx : ∀ k, k < 64 → x0 k < p) (lm : ∀ k, k < 64 → m0 k < p) (hd : mon m0 d0) (h12 : d0 ≤ 12) :
 Calls Try.prog 117 #[.int .i64 (p : Int), .agg (zb 64 x0), .agg (zb 64 m0)] w fun e w' => e = .returned (.int .i64 (sbN p x0 m0 : Nat)) ∧ Below w.heap.size w w' := by
 have p2 : 2 ≤ p := by omega
 have p7 : p ≤ 7 := by omega
 have p0 : 0 < p := by omega
 obtain ⟨V, hV⟩ : ∃ V, V = sbN p x0 m0 := ⟨_, rfl⟩
 have hVp : V < p := by rw [hV]; exact sbN_lt p0
 have HV0 := Lib.hid (show 1 * sbN p x0 m0 % p = V by rw [Nat.one_mul, ← hV, Nat.mod_eq_of_lt hVp])
 have HX0 := Lib.hid lx
 have HM0 := Lib.hid lm
 have HD0 := Lib.hid hd
 rw [← hV]
 clear hV lx lm hd
 go_enter Try.func117, Try.ntmps117
 go_upto_region 1 with (fail)
 obtain ⟨W1, hwo⟩ : ∃ v : World, v = ((w.alloc (.cells (zb 64 (x0)) 25)).alloc (.cells (zb 64 (m0)) 25)) := ⟨_, rfl⟩
 have B0 : Blk W1 (w.heap.size) 64 25 (x0) := by subst hwo; have := ((Blk.new w 64 25 (x0)).alloc (.cells (zb 64 (m0)) 25)); simpa using this
 have B1 : Blk W1 (w.heap.size + 1) 64 25 (m0) := by subst hwo; have := (Blk.new (w.alloc (.cells (zb 64 (x0)) 25)) 64 25 (m0)); simpa using this
 have hb : Below w.heap.size w W1 := by subst hwo; exact (((Below.refl _ _).alloc (Nat.le_refl _) _).alloc (by simp) _)
 rw [← hwo]
 clear hwo
 go_wp2_with fail
 go_loopw [7] (fun s wr => ∃ (d t : Nat) (x m : Nat → Nat), s = .int .i64 (t : Int) ∧ t < p ∧ d ≤ 12 ∧ Hid (mon m d) ∧ Hid (∀ k, k < 64 → x k < p) ∧ Hid (∀ k, k < 64 → m k < p) ∧ Hid (t * sbN p x m % p = V) ∧ Below w.heap.size w wr ∧ Blk wr (w.heap.size) 64 25 x ∧ Blk wr (w.heap.size + 1) 64 25 m) (fun _ wr => degAt wr (w.heap.size + 1))
 case atStart => exact ⟨d0, 1, x0, m0, rfl, by omega, h12, HD0, HX0, HM0, HV0, hb, B0, B1⟩
 case round =>
  clear hb B0 B1 HV0 HX0 HM0 HD0
  obtain ⟨d, t, x, m, rfl, htp, h12, hd, lx, lm, hS, hb, B0, B1⟩ := hrel
  have HMD := Lib.hid (show deg m = (d : Int) from (show deg m = (d : Int) ∧ m d = 1 by have := hd.out; unfold mon at this; exact this).1)
  have BMo := Lib.hid (show Blk wr (w.heap.size + 1) 64 25 m from B1)
  by_cases hd0 : d = 0
  · subst hd0
    have HV := Lib.hid (show V = t by have := hS.out; rw [sb_one p2 hd.out, Nat.mul_one, Nat.mod_eq_of_lt htp] at this; exact this.symm)
    have hz0 : ¬ (((0 : Nat) : Int) > 0) := by omega
    go_wp2_with (first | (refine zla (.tmp 5) B1 Try.underlying25 Try.size25 ?_) | (go_at_call 141; refine (degree_any m _).mono ?_; rintro e W2 ⟨rfl, hW2⟩; replace B0 := B0.zw hW2; replace B1 := B1.zw hW2; replace hb := (hb).trans (hW2.mono (hb).size); rw [HMD.out]))
    go_ret
    exact ⟨by rw [HV.out]; rfl, hb⟩
  · have hdi : (d : Int) > 0 := by omega
    have hdi2 : (0 : Int) < (d : Int) := by omega
    have HRO := Lib.hid (fun W => restOf_any p x m W hpr lx.out lm.out (by rw [HMD.out]; omega))
    have HRL := Lib.hid (fun k (hk : k < 64) => resP_lt (b := m) p0 lx.out k hk)
    have HNU := Lib.hid (fun h => sb_null hpr lx.out lm.out hd.out (by omega) h)
    have HST := Lib.hid (fun e R he hR => sb_step (e := e) (R := R) hpr lx.out lm.out hd.out he hR)
    have HRD := Lib.hid (show deg (resP p x m) < (d : Int) by have := (resP_deg hpr lx.out lm.out (by rw [HMD.out]; omega)).1; rw [HMD.out] at this; exact this)
    obtain ⟨r, hr⟩ : ∃ r, r = resP p x m := ⟨_, rfl⟩
    rw [← hr] at HRO HRL HNU HRD
    have HR := Lib.hid hr
    clear hr
    go_upto_region 3 with (first | (refine zla (.tmp 5) B1 Try.underlying25 Try.size25 ?_) | (go_at_call 141; refine (degree_any m _).mono ?_; rintro e W2 ⟨rfl, hW2⟩; replace B0 := B0.zw hW2; replace B1 := B1.zw hW2; replace hb := (hb).trans (hW2.mono (hb).size); rw [HMD.out]))
    have lt_B0 := B0.lt
    have lt_B1 := B1.lt
    go_upto_region 4 with (first | rw [← z64] | (refine zla (.tmp 4) B0 Try.underlying25 Try.size25 ?_) | (refine zla (.tmp 5) B1 Try.underlying25 Try.size25 ?_) | (go_at_call 127; refine (HRO.out _).mono ?_; rintro e W3 ⟨rfl, hW3⟩; replace B0 := B0.zw hW3; replace B1 := B1.zw hW3; replace hb := (hb).trans (hW3.mono (hb).size)) | (refine zsr (.tmp 4) (.tmp 15) (r) B0 Try.size25 ?_; try simp only [Act.put]))
    obtain ⟨W4, hwo, hzQ⟩ : ∃ v : World, v = (W3.setRow (w.heap.size) (zb 64 (r))) ∧ Blk v (w.heap.size) 64 25 (r) ∧ Blk v (w.heap.size + 1) 64 25 (m) ∧ Below w.heap.size w v := ⟨_, rfl, (B0.row (r)), (B1.rowOther (by omega)), (zr hb (by omega) _)⟩
    rw [← hwo]
    clear hwo B0 B1 hb
    obtain ⟨B0, B1, hb⟩ := hzQ
    try simp only [Act.put, pA, pB, pC]
    by_cases hz : deg r < 0
    · have HV := Lib.hid (show V = 0 by have := hS.out; rw [HNU.out hz, Nat.mul_zero, Nat.zero_mod] at this; exact this.symm)
      have hgd := Try.noGuard25
      have heq := fun W => zeb (P := Try.prog) W 9998 25 5 64 (r) (fun _ => 0) Try.underlying25 Try.underlying5 Try.size5
      rw [eqN_zero, show decide (deg (r) < 0) = true by simp [hz]] at heq
      simp only [z64] at heq
      go_wp2_with (first | (refine zla (.tmp 4) B0 Try.underlying25 Try.size25 ?_))
      go_ret
      exact ⟨by rw [HV.out]; rfl, hb⟩
    · obtain ⟨e, he⟩ : ∃ e : Nat, deg r = (e : Int) := ⟨(deg r).toNat, by omega⟩
      have hed : e < d := by have := HRD.out; omega
      obtain ⟨e6, e0, ez⟩ := deg_top he
      obtain ⟨l, hl⟩ : ∃ l, l = r e := ⟨_, rfl⟩
      rw [← hl] at e0
      have hlp : l < p := by rw [hl]; exact HRL.out e e6
      obtain ⟨i1, i2, i3, i4⟩ := invF hpr e0 hlp
      have hST := HST.out e (sclP p r (invN p l)) (by rw [← HR.out]; exact he) (by
       intro k hk
       rw [← HR.out, ← hl]
       unfold sclP
       rw [Nat.mul_comm])
      rw [← HR.out, ← hl] at hST
      have hRl : ∀ k, k < 64 → sclP p r (invN p l) k < p := fun k _ => by unfold sclP; exact Nat.mod_lt _ p0
      have HSC := Lib.hid (fun W => scaled_any p r (invN p l) W p2 p7 HRL.out i2)
      have HIV := Lib.hid (fun W => inverseNumber_any p l W hpr e0 hlp)
      have HRP := Lib.hid hRl
      have HE := Lib.hid he
      have HL := Lib.hid hl
      obtain ⟨iv, hiv⟩ : ∃ iv, iv = invN p l := ⟨_, rfl⟩
      obtain ⟨R, hR⟩ : ∃ R, R = sclP p r (invN p l) := ⟨_, rfl⟩
      rw [← hR] at hST HSC HRP
      rw [← hiv] at HSC HIV i2
      have HRM := Lib.hid hST.1
      have HRE := Lib.hid (show deg R = (e : Int) from (show deg R = (e : Int) ∧ R e = 1 by have := HRM.out; unfold mon at this; exact this).1)
      obtain ⟨q, hq⟩ : ∃ q, q = (if e % 2 = 1 ∧ d % 2 = 1 then p - 1 else 1) := ⟨_, rfl⟩
      have hS2 : Hid (t * l ^ d % p * q % p * sbN p m R % p = V) := Lib.hid (by
       rw [← hS.out, pm_step hST.2, hq])
      have HQ := Lib.hid hq
      have hl7 : l < 256 := by omega
      have hi7 : iv < 256 := by omega
      clear hST hR hiv hRl he hl hq i1 i3 i4 ez
      have hgd := Try.noGuard25
      have heq := fun W => zeb (P := Try.prog) W 9998 25 5 64 (r) (fun _ => 0) Try.underlying25 Try.underlying5 Try.size5
      rw [eqN_zero, show decide (deg (r) < 0) = false by simp [hz]] at heq
      simp only [z64] at heq
      go_upto_region 6 with (first | (refine zla (.tmp 4) B0 Try.underlying25 Try.size25 ?_))
      clear heq hgd hz
      go_upto_region 7 with (first | (refine zla (.tmp 4) B0 Try.underlying25 Try.size25 ?_) | (go_at_call 141; refine (degree_any r _).mono ?_; rintro e W5 ⟨rfl, hW5⟩; replace B0 := B0.zw hW5; replace B1 := B1.zw hW5; replace hb := (hb).trans (hW5.mono (hb).size); rw [HE.out]; have cc := B0.cell (i := e) e6; rw [← HL.out] at cc))
      clear cc
      go_wp2_with (first | (refine zla (.tmp 5) B1 Try.underlying25 Try.size25 ?_) | (go_at_call 141; refine (degree_any m _).mono ?_; rintro e W6 ⟨rfl, hW6⟩; replace B0 := B0.zw hW6; replace B1 := B1.zw hW6; replace hb := (hb).trans (hW6.mono (hb).size); rw [HMD.out]))
      go_loopw [7, 25] (fun s i wr => ∃ (j u : Nat), s = .int .i64 (u : Int) ∧ i = .int .i64 (j : Int) ∧ j ≤ d ∧ u < p ∧ Hid (u = t * l ^ j % p) ∧ Below w.heap.size w wr ∧ Blk wr (w.heap.size) 64 25 r ∧ Blk wr (w.heap.size + 1) 64 25 m) (fun _ i _ => d - (intOf i).toNat)
      case atStart => exact ⟨0, t, rfl, rfl, Nat.zero_le _, htp, Lib.hid (by rw [Nat.pow_zero, Nat.mul_one, Nat.mod_eq_of_lt htp]), hb, B0, B1⟩
      case round =>
       clear hb B0 B1
       obtain ⟨j, u, rfl, rfl, hjd, hup, hU, hb, B0, B1⟩ := hrel
       by_cases hj : j < d
       · have hji : (j : Int) < (d : Int) := by omega
         have mb0 : (0 : Int) ≤ (u : Int) * (l : Int) := Int.mul_nonneg (by omega) (by omega)
         have mb1 : (u : Int) * (l : Int) ≤ 49 := by
          have := Int.mul_le_mul (show (u : Int) ≤ 7 by omega) (show (l : Int) ≤ 7 by omega) (by omega) (by omega)
          omega
         obtain ⟨u2, hu2⟩ : ∃ u2, u2 = u * l % p := ⟨_, rfl⟩
         have hu2p : u2 < p := by rw [hu2]; exact Nat.mod_lt _ p0
         have tq : ((u : Int) * (l : Int)).tmod (p : Int) = (u2 : Int) := by rw [hu2, Int.tmod_eq_emod_of_nonneg mb0]; push_cast; rfl
         have tq2 : (u : Int) * (l : Int) % (p : Int) = (u2 : Int) := by rw [hu2]; push_cast; rfl
         have HU2 := Lib.hid (show u2 = t * l ^ (j + 1) % p by rw [hu2, hU.out, Nat.pow_succ, ← Nat.mul_assoc, Nat.mul_mod (t * l ^ j % p), Nat.mod_mod, ← Nat.mul_mod])
         have hpz : ¬ (p : Int) = 0 := by omega
         clear hu2
         go_wp2_with fail
         go_roundw
         case rel => exact ⟨j + 1, u2, rfl, by go_num, by omega, hu2p, HU2, hb, B0, B1⟩
         case measure => simp [intOf] <;> omega
       · have hji : ¬ (j : Int) < (d : Int) := by omega
         obtain rfl : j = d := by omega
         rw [← hU.out] at hS2
         clear hU
         go_upto_region 11 with (fail)
         have lt_B0 : (w.heap.size) < wr.heap.size := B0.lt
         have lt_B1 : (w.heap.size + 1) < wr.heap.size := B1.lt
         have hbase : w.heap.size ≤ wr.heap.size := hb.size
         refine zq Try.mixed (by kernel_rfl) (by kernel_rfl) (fun v => by (simp only [frL, Act.put, pA, pB, pC, Nat.reduceAdd, Nat.zero_add]; exact rfl))
          (fun L v W7 => Below w.heap.size w W7 ∧ Kx [w.heap.size] wr W7 ∧ (∃ g, Blk W7 (w.heap.size) 64 25 (g)) ∧ (L 6 = false → Blk W7 (w.heap.size) 64 25 (r)) ∧ (L 6 = true → Blk W7 (w.heap.size) 64 25 (R)) ∧ VF L v [some (.int .i64 (p : Int)), some (.agg (zb 64 (r))), some (.int .i64 (p : Int)), some (.int .u8 (l : Int)), some (.int .u8 (iv : Int)), some (.agg (zb 64 (R))), none]) ?_ ?_ ?_
         · intro v hv0
           exact ⟨hb.drew, Kx.start _ _, ⟨_, B0.drew⟩, (fun _ => B0.drew), (fun h => by cases h), VF.start⟩
         · refine (.cons rfl ?_ (.cons rfl ?_ (.cons rfl ?_ (.cons rfl ?_ (.cons rfl ?_ (.cons rfl ?_ (.cons rfl ?_ (.nil _))))))))
           all_goals intro L v W7 hd hn ⟨hB, hX, x0, q0, n0, V⟩ K hK
           · go_wp2_with fail
             exact hK _ (.int .i64 (p : Int)) _ (by simp only [Act.put, pA, pB, pC ]) ⟨hB, hX, x0, q0, n0, V.step 0 rfl⟩
           · have s0 := q0 (by
              cases hL : L 6 with
              | false => rfl
              | true => exact absurd rfl (hn 6 _ rfl hL ⟨1, .phase⟩ (by simp) rfl))
             refine zlc s0 Try.underlying25 Try.size25 ?_
             exact hK _ _ _ rfl ⟨hB, hX, x0, q0, n0, V.step 1 rfl⟩
           · go_wp2_with fail
             exact hK _ (.int .i64 (p : Int)) _ (by simp only [Act.put, pA, pB, pC ]) ⟨hB, hX, x0, q0, n0, V.step 2 rfl⟩
           · go_wp2_with fail
             exact hK _ (.int .u8 (l : Int)) _ (by simp only [Act.put, pA, pB, pC ]) ⟨hB, hX, x0, q0, n0, V.step 3 rfl⟩
           · have e2 := V.at (zdq hd 2 rfl) rfl
             have e3 := V.at (zdq hd 3 rfl) rfl
             go_wp2_with (go_at_call 185; refine ((callsBelow' (HIV.out _))).mono ?_; rintro e wy ⟨rfl, hy⟩)
             exact hK _ (.int .u8 (iv : Int)) _ (by simp only [Act.put, pA, pB, pC, e2, e3]) ⟨hB.trans (hy.mono hB.size), hX.below hy, (let ⟨g, h⟩ := x0; ⟨g, h.zw hy⟩), (fun h => (q0 h).below hy (q0 h).lt), (fun h => (n0 h).below hy (n0 h).lt), V.step 4 rfl⟩
           · have e0 := V.at (zdq hd 0 rfl) rfl
             have e1 := V.at (zdq hd 1 rfl) rfl
             have e4 := V.at (zdq hd 4 rfl) rfl
             go_wp2_with (go_at_call 184; refine (HSC.out _).mono ?_; rintro e wy ⟨rfl, hy⟩)
             exact hK _ (.agg (zb 64 (R))) _ (by simp only [Act.put, pA, pB, pC, e0, e1, e4]) ⟨hB.trans (hy.mono hB.size), hX.below hy, (let ⟨g, h⟩ := x0; ⟨g, h.zw hy⟩), (fun h => (q0 h).below hy (q0 h).lt), (fun h => (n0 h).below hy (n0 h).lt), V.step 5 rfl⟩
           · have e5 := V.at (zdq hd 5 rfl) rfl
             obtain ⟨gz, hk⟩ := x0
             refine zsb 25 _ _ rfl _ 64 (R) rfl e5 25 gz hk Try.size25 ?_
             exact hK _ undef _ rfl ⟨zr hB (by omega) _, hX.row (by simp) _, ⟨_, hk.row _⟩, (fun h => absurd h (by simp [setL])), (fun _ => hk.row _), V.skip 6 rfl⟩
         · intro L v W7 hL ⟨hB, hX, x0, q0, n0, V⟩
           have r0 := n0 (hL 6 (by decide))
           have e0 := V.at (hL 0 (by decide)) rfl
           have e1 := V.at (hL 1 (by decide)) rfl
           have e2 := V.at (hL 2 (by decide)) rfl
           have e3 := V.at (hL 3 (by decide)) rfl
           have e4 := V.at (hL 4 (by decide)) rfl
           have e5 := V.at (hL 5 (by decide)) rfl
           clear hL x0 q0 n0 V
           replace B1 := B1.kx hX (by simp <;> omega)
           clear hX
           simp only [Exit.then, e0, e1, e2, e3, e4, e5]
           clear e0 e1 e2 e3 e4 e5
           replace B0 := r0
           clear r0
           replace hb := hB
           clear hB
           clear hbase lt_B0 lt_B1
           go_upto_region 12 with (fail)
           by_cases hodd : e % 2 = 1 ∧ j % 2 = 1
           · have hq1 : q = p - 1 := by rw [HQ.out, if_pos hodd]
             have o1 : ((e : Int) % 2 == 1) = true := by rw [beq_iff_eq]; omega
             have o2 : ((j : Int) % 2 == 1) = true := by rw [beq_iff_eq]; omega
             have o3 : ((e : Int).tmod 2 == 1) = true := by rw [Int.tmod_eq_emod_of_nonneg (by omega)]; exact o1
             have o4 : ((j : Int).tmod 2 == 1) = true := by rw [Int.tmod_eq_emod_of_nonneg (by omega)]; exact o2
             have mb0 : (0 : Int) ≤ (u : Int) * ((p : Int) - 1) := Int.mul_nonneg (by omega) (by omega)
             have mb1 : (u : Int) * ((p : Int) - 1) ≤ 49 := by
              have := Int.mul_le_mul (show (u : Int) ≤ 7 by omega) (show (p : Int) - 1 ≤ 7 by omega) (by omega) (by omega)
              omega
             obtain ⟨u2, hu2⟩ : ∃ u2, u2 = u * (p - 1) % p := ⟨_, rfl⟩
             have hu2p : u2 < p := by rw [hu2]; exact Nat.mod_lt _ p0
             have hpm : ((p - 1 : Nat) : Int) = (p : Int) - 1 := by omega
             have tq2 : (u : Int) * ((p : Int) - 1) % (p : Int) = (u2 : Int) := by rw [hu2, ← hpm]; push_cast; rfl
             have tq : ((u : Int) * ((p : Int) - 1)).tmod (p : Int) = (u2 : Int) := by rw [Int.tmod_eq_emod_of_nonneg mb0]; exact tq2
             rw [hq1, ← hu2] at hS2
             have hpz : ¬ (p : Int) = 0 := by omega
             clear hu2 hq1 hpm hodd
             go_upto_region 13 with (first | (refine zla (.tmp 4) B0 Try.underlying25 Try.size25 ?_) | (go_at_call 141; with_reducible refine (degree_any R _).mono ?_; rintro e W8 ⟨rfl, hW8⟩; replace B0 := B0.zw hW8; replace B1 := B1.zw hW8; replace hb := (hb).trans (hW8.mono (hb).size); rw [HRE.out]) | (refine zlg rfl 25 (.tmp 5) rfl _ rfl 64 25 _ (B1) _ Try.underlying25 rfl Try.size25 ?_) | (go_at_call 141; with_reducible refine (degree_any m _).mono ?_; rintro e W9 ⟨rfl, hW9⟩; replace B0 := B0.zw hW9; replace B1 := B1.zw hW9; replace hb := (hb).trans (hW9.mono (hb).size); rw [HMD.out]))
             clear o1 o2 o3 o4
             go_upto_region 14 with (fail)
             have lt_B0 := B0.lt
             have lt_B1 := B1.lt
             go_wp2_with (first | rw [← z64] | (refine zla (.tmp 5) B1 Try.underlying25 Try.size25 ?_) | (refine zla (.tmp 4) B0 Try.underlying25 Try.size25 ?_) | (refine zsr (.tmp 4) (.tmp 56) (m) B0 Try.size25 ?_; try simp only [Act.put]) | (refine wpList_store_blk rfl 25 (.tmp 5) (.tmp 57) rfl _ 64 (R) rfl rfl 25 _ ((B1.rowOther (by omega))) Try.size25 ?_; try simp only [Act.put]))
             obtain ⟨W10, hwo, hzQ⟩ : ∃ v : World, v = ((W9.setRow (w.heap.size) (zb 64 (m))).setRow (w.heap.size + 1) (zb 64 (R))) ∧ Blk v (w.heap.size) 64 25 (m) ∧ Blk v (w.heap.size + 1) 64 25 (R) ∧ Below w.heap.size w v := ⟨_, rfl, ((B0.row (m)).rowOther (by omega)), ((B1.rowOther (by omega)).row (R)), (zr (zr hb (by omega) _) (by omega) _)⟩
             rw [← hwo]
             clear hwo B0 B1 hb
             obtain ⟨B0, B1, hb⟩ := hzQ
             try simp only [Act.put, pA, pB, pC]
             go_roundw
             case rel => exact ⟨e, u2, m, R, rfl, hu2p, by omega, HRM, lm, HRP, hS2, hb, B0, B1⟩
             case measure => rw [degAt_blk B1 (by omega), degAt_blk BMo.out (by omega)]; have h1 := HRE.out; have h2 := HMD.out; omega
           · have hq1 : q = 1 := by rw [HQ.out, if_neg hodd]
             rw [hq1, Nat.mul_one, Nat.mod_eq_of_lt hup] at hS2
             clear hq1
             by_cases ho : e % 2 = 1
             · have o1 : ((e : Int) % 2 == 1) = true := by rw [beq_iff_eq]; omega
               have o2 : ((j : Int) % 2 == 1) = false := by rw [beq_eq_false_iff_ne]; omega
               have o3 : ((e : Int).tmod 2 == 1) = true := by rw [Int.tmod_eq_emod_of_nonneg (by omega)]; exact o1
               have o4 : ((j : Int).tmod 2 == 1) = false := by rw [Int.tmod_eq_emod_of_nonneg (by omega)]; exact o2
               clear hodd ho
               go_upto_region 14 with (first | (refine zla (.tmp 4) B0 Try.underlying25 Try.size25 ?_) | (go_at_call 141; with_reducible refine (degree_any R _).mono ?_; rintro e W8 ⟨rfl, hW8⟩; replace B0 := B0.zw hW8; replace B1 := B1.zw hW8; replace hb := (hb).trans (hW8.mono (hb).size); rw [HRE.out]) | (refine zlg rfl 25 (.tmp 5) rfl _ rfl 64 25 _ (B1) _ Try.underlying25 rfl Try.size25 ?_) | (go_at_call 141; with_reducible refine (degree_any m _).mono ?_; rintro e W9 ⟨rfl, hW9⟩; replace B0 := B0.zw hW9; replace B1 := B1.zw hW9; replace hb := (hb).trans (hW9.mono (hb).size); rw [HMD.out]))
               clear o1 o2 o3 o4
               have lt_B0 := B0.lt
               have lt_B1 := B1.lt
               go_wp2_with (first | rw [← z64] | (refine zla (.tmp 5) B1 Try.underlying25 Try.size25 ?_) | (refine zla (.tmp 4) B0 Try.underlying25 Try.size25 ?_) | (refine zsr (.tmp 4) (.tmp 56) (m) B0 Try.size25 ?_; try simp only [Act.put]) | (refine wpList_store_blk rfl 25 (.tmp 5) (.tmp 57) rfl _ 64 (R) rfl rfl 25 _ ((B1.rowOther (by omega))) Try.size25 ?_; try simp only [Act.put]))
               obtain ⟨W10, hwo, hzQ⟩ : ∃ v : World, v = ((W9.setRow (w.heap.size) (zb 64 (m))).setRow (w.heap.size + 1) (zb 64 (R))) ∧ Blk v (w.heap.size) 64 25 (m) ∧ Blk v (w.heap.size + 1) 64 25 (R) ∧ Below w.heap.size w v := ⟨_, rfl, ((B0.row (m)).rowOther (by omega)), ((B1.rowOther (by omega)).row (R)), (zr (zr hb (by omega) _) (by omega) _)⟩
               rw [← hwo]
               clear hwo B0 B1 hb
               obtain ⟨B0, B1, hb⟩ := hzQ
               try simp only [Act.put, pA, pB, pC]
               go_roundw
               case rel => exact ⟨e, u, m, R, rfl, hup, by omega, HRM, lm, HRP, hS2, hb, B0, B1⟩
               case measure => rw [degAt_blk B1 (by omega), degAt_blk BMo.out (by omega)]; have h1 := HRE.out; have h2 := HMD.out; omega
             · have o1 : ((e : Int) % 2 == 1) = false := by rw [beq_eq_false_iff_ne]; omega
               have o3 : ((e : Int).tmod 2 == 1) = false := by rw [Int.tmod_eq_emod_of_nonneg (by omega)]; exact o1
               clear hodd ho
               go_upto_region 14 with (first | (refine zla (.tmp 4) B0 Try.underlying25 Try.size25 ?_) | (go_at_call 141; with_reducible refine (degree_any R _).mono ?_; rintro e W8 ⟨rfl, hW8⟩; replace B0 := B0.zw hW8; replace B1 := B1.zw hW8; replace hb := (hb).trans (hW8.mono (hb).size); rw [HRE.out]))
               clear o1 o3
               have lt_B0 := B0.lt
               have lt_B1 := B1.lt
               go_wp2_with (first | rw [← z64] | (refine zla (.tmp 5) B1 Try.underlying25 Try.size25 ?_) | (refine zla (.tmp 4) B0 Try.underlying25 Try.size25 ?_) | (refine zsr (.tmp 4) (.tmp 56) (m) B0 Try.size25 ?_; try simp only [Act.put]) | (refine wpList_store_blk rfl 25 (.tmp 5) (.tmp 57) rfl _ 64 (R) rfl rfl 25 _ ((B1.rowOther (by omega))) Try.size25 ?_; try simp only [Act.put]))
               obtain ⟨W9, hwo, hzQ⟩ : ∃ v : World, v = ((W8.setRow (w.heap.size) (zb 64 (m))).setRow (w.heap.size + 1) (zb 64 (R))) ∧ Blk v (w.heap.size) 64 25 (m) ∧ Blk v (w.heap.size + 1) 64 25 (R) ∧ Below w.heap.size w v := ⟨_, rfl, ((B0.row (m)).rowOther (by omega)), ((B1.rowOther (by omega)).row (R)), (zr (zr hb (by omega) _) (by omega) _)⟩
               rw [← hwo]
               clear hwo B0 B1 hb
               obtain ⟨B0, B1, hb⟩ := hzQ
               try simp only [Act.put, pA, pB, pC]
               go_roundw
               case rel => exact ⟨e, u, m, R, rfl, hup, by omega, HRM, lm, HRP, hS2, hb, B0, B1⟩
               case measure => rw [degAt_blk B1 (by omega), degAt_blk BMo.out (by omega)]; have h1 := HRE.out; have h2 := HMD.out; omega
end Go.Proofs.Ytifdkepkedlmoaa
end
section
namespace Go.Proofs.Ytifdkepkedlmoaa
open Go Go.RowKit
set_option linter.unusedVariables false
set_option linter.unusedSimpArgs false
theorem owp_end {p j : Nat} {x : Nat → Nat} {R : List (Nat × Nat)} (h : R.length ≤ j) : owp p x (R.drop j) = 1 := by rw [List.drop_eq_nil_of_le h, owp]
theorem owp_next {p j : Nat} {x : Nat → Nat} {R : List (Nat × Nat)} {q : Nat × Nat} (h : R[j]? = some q) : owp p x (R.drop j) = (ow p x q.1 : Int) ^ q.2 * owp p x (R.drop (j + 1)) := by
 obtain ⟨hj, e⟩ := List.getElem?_eq_some_iff.1 h
 rw [List.drop_eq_getElem_cons hj, e, owp]
attribute [local irreducible] deg invN quoP resP prd sbN sclP mon pmP ow owp facRows run facC
set_option maxRecDepth 100000 in
set_option maxHeartbeats 3200000 in
theorem l02Symbol_any (p d0 : Nat) (x m : Nat → Nat) (w : World) (hpr : p = 2 ∨ p = 3 ∨ p = 5 ∨ p = 7) (lx : ∀ k, k < 64 → x k < p) (lm : ∀ k, k < 64 → m k < p) (hd : mon m d0) (h12 : d0 ≤ 12) :
 Calls Try.prog 114 #[.int .i64 (p : Int), .agg (zb 64 x), .agg (zb 64 m)] w fun e w' => e = .returned (.int .i64 (sbN p x m : Nat)) ∧ Below w.heap.size w w' := by
 have p2 : 2 ≤ p := by omega
 have p7 : p ≤ 7 := by omega
 have p0 : 0 < p := by omega
 have hmd : deg m = (d0 : Int) := (show deg m = (d0 : Int) ∧ m d0 = 1 by unfold mon at hd; exact hd).1
 obtain ⟨V, hV⟩ : ∃ V, V = sbN p x m := ⟨_, rfl⟩
 have hVp : V < p := by rw [hV]; exact sbN_lt p0
 have hVR := sb_run hpr lx lm hd h12
 obtain ⟨R, hR⟩ : ∃ R, R = run p 64 1 m := ⟨_, rfl⟩
 have HFA := Lib.hid (show ∀ W, Calls Try.prog 168 #[.int .i64 (p : Int), .agg (zb 64 m)] W fun e w' => ∃ v, e = .returned v ∧ SlL w' W.heap.size 82 65 v (facRows p R) ∧ Below W.heap.size W w' by
  intro W
  have := l02Split_any p m W hpr lm (by omega) (by omega)
  unfold FaF at this
  rw [← hR] at this
  exact this)
 have hR12 := (run_ok hpr lm (by omega) (by omega)).1
 have HEL := Lib.hid (fun q hq => run_mem hpr 64 1 m (Nat.le_refl _) lm (by omega) (lowf_one m) q hq)
 rw [← hR] at hR12 HEL hVR
 rw [← hV] at hVR ⊢
 have HVR := Lib.hid (show em (p : Int) (V : Int) (((1 : Nat) : Int) * owp p x (R.drop 0)) by rw [List.drop_zero, Int.natCast_one, Int.one_mul]; exact hVR)
 have HM12 := Lib.hid (show deg m ≤ 12 by omega)
 have HLX := Lib.hid lx
 clear hR hV hVR lx lm hd hmd
 go_enter Try.func114, Try.ntmps114
 go_upto_region 1 with (fail)
 obtain ⟨W1, hwo⟩ : ∃ v : World, v = ((w.alloc (.cells (zb 64 (x)) 25)).alloc (.cells (zb 64 (m)) 25)) := ⟨_, rfl⟩
 have B0 : Blk W1 (w.heap.size) 64 25 (x) := by subst hwo; have := ((Blk.new w 64 25 (x)).alloc (.cells (zb 64 (m)) 25)); simpa using this
 have B1 : Blk W1 (w.heap.size + 1) 64 25 (m) := by subst hwo; have := (Blk.new (w.alloc (.cells (zb 64 (x)) 25)) 64 25 (m)); simpa using this
 have hb : Below w.heap.size w W1 := by subst hwo; exact (((Below.refl _ _).alloc (Nat.le_refl _) _).alloc (by simp) _)
 rw [← hwo]
 clear hwo
 go_upto_region 2 with (first | (refine zla (.tmp 5) B1 Try.underlying25 Try.size25 ?_) | (go_at_call 168; refine (HFA.out _).mono ?_; rintro e W2 ⟨lst, rfl, hS, hW2⟩; replace B0 := B0.zw hW2; replace B1 := B1.zw hW2; have hbw := hb.size; replace hb := (hb).trans (hW2.mono (hb).size); replace hS := hS.base hbw; obtain ⟨a0, cap, rfl⟩ : ∃ a cap, lst = .slice a R.length cap := (by rcases hS.shape with ⟨h1, h2⟩ | ⟨g, cap, h1⟩; (· have h3 := congrArg List.length h2; rw [facRows_len] at h3; exact ⟨_, _, by rw [h1, show R.length = 0 from h3]⟩); (· exact ⟨_, _, by rw [h1, facRows_len]⟩))))
 clear HFA hW2 hbw
 go_wp2_with fail
 go_loopw [8, 9] (fun s i wr => ∃ (j t : Nat), s = .int .i64 (t : Int) ∧ i = .int .i64 (j : Int) ∧ j ≤ R.length ∧ t < p ∧ Hid (em (p : Int) (V : Int) ((t : Int) * owp p x (R.drop j))) ∧ Below w.heap.size w wr ∧ Blk wr (w.heap.size) 64 25 (x) ∧ SlL wr w.heap.size 82 65 (.slice a0 R.length cap) (facRows p R)) (fun _ i _ => R.length - (intOf i).toNat)
 case atStart => exact ⟨0, 1, rfl, rfl, Nat.zero_le _, by omega, HVR, hb, B0, hS⟩
 case round =>
  clear hb hS B0 B1 HVR
  obtain ⟨j, t, rfl, rfl, hjR, htp, hE, hb, B0, hS⟩ := hrel
  by_cases hj : j < R.length
  · obtain ⟨y, hy⟩ : ∃ y, R[j]? = some y := ⟨_, List.getElem?_eq_getElem hj⟩
    have hen := owp_next (p := p) (x := x) hy
    have hrow : (facRows p R)[j]? = some (facC (ofN p y.1) y.2) := by unfold facRows; rw [List.getElem?_map, hy]; rfl
    obtain ⟨d, hd1, _, hmon, hirr, _, hk1, hkd⟩ := HEL.out y (List.mem_of_getElem? hy)
    obtain ⟨N, K⟩ := y
    dsimp only at hmon hirr hk1 hkd hen hrow
    have hd12 : d ≤ 12 := by
     have h1 : 1 * d ≤ K * d := Nat.mul_le_mul_right d hk1
     have h2 := HM12.out
     omega
    have hK12 : K ≤ 12 := by
     have h1 : K * 1 ≤ K * d := Nat.mul_le_mul_left K hd1
     have h2 := HM12.out
     omega
    have hdg : deg (ofN p N) = (d : Int) := by have := hirr.2.1; unfold mon at this; exact this.1
    have hNp : ∀ k, k < 64 → ofN p N k < p := fun k _ => ofN_lt p0 N k
    obtain ⟨F, hF⟩ : ∃ F, F = ofN p N := ⟨_, rfl⟩
    have how : ow p x N = pmP p x (sn p d) F 0 := by unfold ow; rw [hdg, Int.toNat_natCast, hF]
    have hsm := sn_mul p d p0
    have hq1 := pow_12 p7 hd12
    have hsl := sn_lt (d := d) p2
    have hk64 : sn p d < 2 ^ 64 := by have a3 : (13841287201 : Nat) < 2 ^ 64 := by decide
                                      omega
    rw [← hF] at hdg hNp hrow
    have hpl := (pmP_spec (k := sn p d) hpr HLX.out hNp (by rw [hdg]; omega) hk64).1
    have HPM := Lib.hid (fun W => l01PowMod_any p x (sn p d) F W hpr HLX.out hNp (by rw [hdg]; omega) (by omega))
    have HDG := Lib.hid (show ∀ W, Calls Try.prog 113 #[.agg (zb 64 F)] W fun e w' => e = .returned (.int .i64 (d : Int)) ∧ Below W.heap.size W w' by
     intro W; rw [← hdg]; exact l01Deg_any _ W)
    have HPW := Lib.hid (fun W => callsBelow' (l02Power_any p d W p2 p7 (by omega)))
    obtain ⟨E, hEx⟩ : ∃ E, E = sn p d := ⟨_, rfl⟩
    obtain ⟨Q, hQ⟩ : ∃ Q, Q = p ^ d := ⟨_, rfl⟩
    obtain ⟨PW, hPW⟩ : ∃ PW, PW = pmP p x (sn p d) F := ⟨_, rfl⟩
    obtain ⟨o, ho⟩ : ∃ o, o = ow p x N := ⟨_, rfl⟩
    rw [← hPW] at how hpl HPM
    rw [← hEx] at hsm HPM
    rw [← hQ] at hsm hq1 HPW
    rw [← ho] at how hen
    have hop : o < p := by rw [how]; exact hpl 0 (by omega)
    have HO := Lib.hid how
    have hEq : ((Q : Int) - 1) / ((p : Int) - 1) = (E : Int) := by
     have h1 : ((Q - 1 : Nat) : Int) = (Q : Int) - 1 := by have : 0 < Q := by rw [hQ]; exact Nat.pow_pos p0
                                                           omega
     have h2 : ((p - 1 : Nat) : Int) = (p : Int) - 1 := by omega
     rw [← h1, ← h2, ← hsm, Int.natCast_mul]
     exact Int.mul_ediv_cancel _ (by omega)
    have hQ1 : 1 ≤ Q := by rw [hQ]; exact Nat.pow_pos p0
    have hEt : ((Q : Int) - 1).tdiv ((p : Int) - 1) = (E : Int) := by rw [Int.tdiv_eq_ediv_of_nonneg (by omega)]; exact hEq
    have hE2 : Hid (em (p : Int) (V : Int) ((t : Int) * ((o : Int) ^ K * owp p x (R.drop (j + 1))))) := Lib.hid (by rw [← hen]; exact hE.out)
    obtain ⟨g, rfl⟩ := hS.some (by rw [facRows_len]; omega)
    have hjl : (j : Int) < (R.length : Int) := by omega
    have hpz1 : ¬ (p : Int) - 1 = 0 := by omega
    have hQb : (Q : Int) ≤ 13841287201 := by omega
    have hEb : (E : Int) ≤ 13841287201 := by omega
    clear hEx hQ hPW ho how hpl hk64 hsl hsm hNp hdg hF hen hE hkd hk1 hmon hirr hy
    have hr := hS.range hrow
    have B2 := hS.top
    clear hS
    have hr2 : wr.rangeAt g (j * 65) (bl 64 F) := fun j u hu => hr j u (by unfold facC; rw [List.getElem?_append_left (List.getElem?_eq_some_iff.1 hu).1]; exact hu)
    clear hr
    go_upto_region 5 with (fail)
    have lt_B0 := B0.lt
    have lt_B2 := B2.lt
    go_upto_region 6 with (first | rw [← z64] | (refine wpList_load_mid rfl 25 (.tmp 25) rfl g (j * 65) rfl (bl 64 F) _ hr2 Try.underlying25 rfl (by rw [zl]; exact Try.size25) ?_) | (refine wpList_store_blk rfl 25 (.tmp 10) (.tmp 26) rfl _ 64 (F) rfl rfl 25 _ ((Blk.new wr 64 25 (fun _ => 0))) Try.size25 ?_; try simp only [Act.put]))
    have lt_B0 := B0.lt
    have lt_B2 := B2.lt
    have lhb := hb.size
    obtain ⟨W3, hwo, hzQ⟩ : ∃ v : World, v = ((wr.alloc (.cells (zb 64 (fun _ => 0)) 25)).setRow (wr.heap.size) (zb 64 (F))) ∧ Blk v (w.heap.size) 64 25 (x) ∧ SlT v w.heap.size wr.heap.size 82 65 (.slice (some ⟨g, 0, none⟩) R.length cap) (facRows p R) ∧ Blk v (wr.heap.size) 64 25 (F) ∧ Below w.heap.size w v := ⟨_, rfl, ((B0.alloc (.cells (zb 64 (fun _ => 0)) 25)).rowOther (by omega)), ((B2.alloc (.cells (zb 64 (fun _ => 0)) 25)).rowOther (by omega)), ((Blk.new wr 64 25 (fun _ => 0)).row (F)), (zr (hb.alloc (by have := hb.size; simp; omega) (.cells (zb 64 (fun _ => 0)) 25)) (by omega) _)⟩
    rw [← hwo]
    clear hwo B0 B2 hb
    obtain ⟨B0, B2, B3, hb⟩ := hzQ
    obtain ⟨N1, hNN⟩ : ∃ n : Nat, n = wr.heap.size := ⟨_, rfl⟩
    rw [← hNN] at lt_B0 lt_B2 lhb B3 ⊢
    clear hNN
    have zN1_0 := lt_B0
    have zN1_2 := lt_B2
    have zN1 := lhb
    clear lt_B0 lt_B2 lhb
    try simp only [Act.put, pA, pB, pC]
    clear hr2
    have lt_B0 : (w.heap.size) < W3.heap.size := B0.lt
    have lt_B2 : ((w.heap.size)) ≤ W3.heap.size := B2.lt
    have lt_B3 : (N1) < W3.heap.size := B3.lt
    refine zq Try.mixed (by kernel_rfl) (by kernel_rfl) (fun v => by (simp only [frL, Act.put, pA, pB, pC, Nat.reduceAdd, Nat.zero_add]; exact rfl))
     (fun L v W4 => Below W3.heap.size W3 W4 ∧ (L 12 = true → AF (v 12) W4 W3.heap.size 64 25) ∧ (L 13 = true → PF (v 12) W4 W3.heap.size 64 25 (PW)) ∧ VF L v [some (.int .i64 (p : Int)), some (.agg (zb 64 (x))), some (.int .i64 (p : Int)), some (.agg (zb 64 (F))), some (.int .i64 (d : Int)), some (.int .i64 (Q : Int)), some (.int .i64 ((Q : Int) - 1)), some (.int .i64 (p : Int)), some (.int .i64 ((p : Int) - 1)), some (.int .i64 (E : Int)), some (.agg (zb 64 (F))), some (.agg (zb 64 (PW))), none, none]) ?_ ?_ ?_
    · intro v hv0
      exact ⟨(Below.refl _ W3).drew, (fun h => by cases h), (fun h => by cases h), VF.start⟩
    · refine (.cons rfl ?_ (.cons rfl ?_ (.cons rfl ?_ (.cons rfl ?_ (.cons rfl ?_ (.cons rfl ?_ (.cons rfl ?_ (.cons rfl ?_ (.cons rfl ?_ (.cons rfl ?_ (.cons rfl ?_ (.cons rfl ?_ (.cons rfl ?_ (.cons rfl ?_ (.nil _)))))))))))))))
      all_goals intro L v W4 hd hn ⟨hY, h12, h13, V⟩ K hK
      · go_wp2_with fail
        exact hK _ (.int .i64 (p : Int)) _ (by simp only [Act.put, pA, pB, pC ]) ⟨hY, h12, h13, V.step 0 rfl⟩
      · refine zlc (B0.zw hY) Try.underlying25 Try.size25 ?_
        exact hK _ _ _ rfl ⟨hY, h12, h13, V.step 1 rfl⟩
      · go_wp2_with fail
        exact hK _ (.int .i64 (p : Int)) _ (by simp only [Act.put, pA, pB, pC ]) ⟨hY, h12, h13, V.step 2 rfl⟩
      · refine zlc (B3.zw hY) Try.underlying25 Try.size25 ?_
        exact hK _ _ _ rfl ⟨hY, h12, h13, V.step 3 rfl⟩
      · have e3 := V.at (zdq hd 3 rfl) rfl
        go_wp2_with (go_at_call 113; refine (HDG.out _).mono ?_; rintro e wy ⟨rfl, hy⟩)
        exact hK _ (.int .i64 (d : Int)) _ (by simp only [Act.put, pA, pB, pC, e3]) ⟨hY.trans (hy.mono hY.size), (fun h => (h12 h).below hy), (fun h => (h13 h).below hy), V.step 4 rfl⟩
      · have e2 := V.at (zdq hd 2 rfl) rfl
        have e4 := V.at (zdq hd 4 rfl) rfl
        go_wp2_with (go_at_call 175; refine (HPW.out _).mono ?_; rintro e wy ⟨rfl, hy⟩)
        exact hK _ (.int .i64 (Q : Int)) _ (by simp only [Act.put, pA, pB, pC, e2, e4]) ⟨hY.trans (hy.mono hY.size), (fun h => (h12 h).below hy), (fun h => (h13 h).below hy), V.step 5 rfl⟩
      · have e5 := V.at (zdq hd 5 rfl) rfl
        go_wp2_with fail
        exact hK _ (.int .i64 ((Q : Int) - 1)) _ (by simp only [Act.put, pA, pB, pC, e5]) ⟨hY, h12, h13, V.step 6 rfl⟩
      · go_wp2_with fail
        exact hK _ (.int .i64 (p : Int)) _ (by simp only [Act.put, pA, pB, pC ]) ⟨hY, h12, h13, V.step 7 rfl⟩
      · have e7 := V.at (zdq hd 7 rfl) rfl
        go_wp2_with fail
        exact hK _ (.int .i64 ((p : Int) - 1)) _ (by simp only [Act.put, pA, pB, pC, e7]) ⟨hY, h12, h13, V.step 8 rfl⟩
      · have e6 := V.at (zdq hd 6 rfl) rfl
        have e8 := V.at (zdq hd 8 rfl) rfl
        go_wp2_with fail
        exact hK _ (.int .i64 (E : Int)) _ (by simp only [Act.put, pA, pB, pC, e6, e8]) ⟨hY, h12, h13, V.step 9 rfl⟩
      · refine zlc (B3.zw hY) Try.underlying25 Try.size25 ?_
        exact hK _ _ _ rfl ⟨hY, h12, h13, V.step 10 rfl⟩
      · have e0 := V.at (zdq hd 0 rfl) rfl
        have e1 := V.at (zdq hd 1 rfl) rfl
        have e9 := V.at (zdq hd 9 rfl) rfl
        have e10 := V.at (zdq hd 10 rfl) rfl
        go_wp2_with (go_at_call 157; refine (HPM.out _).mono ?_; rintro e wy ⟨rfl, hy⟩)
        exact hK _ (.agg (zb 64 (PW))) _ (by simp only [Act.put, pA, pB, pC, e0, e1, e9, e10]) ⟨hY.trans (hy.mono hY.size), (fun h => (h12 h).below hy), (fun h => (h13 h).below hy), V.step 11 rfl⟩
      · go_wp2_with fail
        rw [← z64]
        exact hK _ (.pointer (some ⟨W4.heap.size, 0, none⟩)) _ (by simp only [Act.put, pA, pB, pC ]) ⟨hY.alloc hY.size _, (fun _ => (PF.new W4 64 25 _ hY.size).af), (fun h => absurd rfl (hn 13 _ rfl h ⟨12, .data⟩ (by simp) rfl)), V.skip 12 rfl⟩
      · have e11 := V.at (zdq hd 11 rfl) rfl
        obtain ⟨gz, b, ea, hN, hk⟩ := (h12 (zdq hd 12 rfl)).out
        refine zsb 25 _ _ rfl b 64 (PW) ea e11 25 gz hk Try.size25 ?_
        exact hK _ undef _ rfl ⟨zr hY hN _, (fun h => (h12 h).row hk), (fun _ => by rw [show updV v 13 undef 12 = v 12 from rfl, ea]; exact PF.row hk hN _), V.skip 13 rfl⟩
    · intro L v W4 hL ⟨hY, h12, h13, V⟩
      obtain ⟨k6_12, e12, hNk6_12, hk6_12⟩ := (h13 (hL 13 (by decide))).out
      have e0 := V.at (hL 0 (by decide)) rfl
      have e1 := V.at (hL 1 (by decide)) rfl
      have e2 := V.at (hL 2 (by decide)) rfl
      have e3 := V.at (hL 3 (by decide)) rfl
      have e4 := V.at (hL 4 (by decide)) rfl
      have e5 := V.at (hL 5 (by decide)) rfl
      have e6 := V.at (hL 6 (by decide)) rfl
      have e7 := V.at (hL 7 (by decide)) rfl
      have e8 := V.at (hL 8 (by decide)) rfl
      have e9 := V.at (hL 9 (by decide)) rfl
      have e10 := V.at (hL 10 (by decide)) rfl
      have e11 := V.at (hL 11 (by decide)) rfl
      clear hL h12 h13 V
      replace B0 := B0.zw hY
      replace B2 := B2.zw hY
      replace B3 := B3.zw hY
      replace hb := hb.trans (hY.mono hb.size)
      clear hY
      simp only [Exit.then, e12, e0, e1, e2, e3, e4, e5, e6, e7, e8, e9, e10, e11]
      clear e12 e0 e1 e2 e3 e4 e5 e6 e7 e8 e9 e10 e11
      have B4 := hk6_12
      clear hk6_12
      have zk6_12_0 : w.heap.size < k6_12 := by omega
      have zk6_12_2 : (w.heap.size) ≤ k6_12 := by omega
      have zk6_12_3 : N1 < k6_12 := by omega
      clear lt_B0 lt_B2 lt_B3
      go_upto_region 7 with (fail)
      have cc := B2.1.range hrow 64 (.int .i64 (K : Int)) (by simpa using facC_at F K)
      go_wp2_with fail
      clear cc
      obtain ⟨wz, hwz⟩ : ∃ wz : Nat, wz = wr.heap.size := ⟨_, rfl⟩
      rw [← hwz] at B2
      go_loopw [12, 8] (fun c s wr => ∃ (k u : Nat), c = .int .i64 (k : Int) ∧ s = .int .i64 (u : Int) ∧ k ≤ 12 ∧ u < p ∧ Hid (em (p : Int) (V : Int) ((u : Int) * ((o : Int) ^ k * owp p x (R.drop (j + 1))))) ∧ Below w.heap.size w wr ∧ Blk wr (w.heap.size) 64 25 (x) ∧ SlT wr w.heap.size wz 82 65 (.slice (some ⟨g, 0, none⟩) R.length cap) (facRows p R) ∧ Blk wr (k6_12) 64 25 (PW)) (fun c _ _ => (intOf c).toNat)
      case atStart => exact ⟨K, t, rfl, rfl, hK12, htp, hE2, hb, B0, B2, B4⟩
      case round =>
       clear hb B0 B2 B4 hE2
       obtain ⟨k, u, rfl, rfl, hk12, hup, hE2, hb, B0, B2, B4⟩ := hrel
       by_cases hk0 : k = 0
       · subst hk0
         have hk1 : ¬ (((0 : Nat) : Int) > 0) := by omega
         have hE3 : Hid (em (p : Int) (V : Int) ((u : Int) * owp p x (R.drop (j + 1)))) := Lib.hid (by have := hE2.out; rwa [Int.pow_zero, Int.one_mul] at this)
         go_wp2_with fail
         go_roundw
         case rel => exact ⟨j + 1, u, rfl, by go_num, by omega, hup, hE3, hb, B0, B2.1⟩
         case measure => simp [intOf] <;> omega
       · obtain ⟨k, rfl⟩ : ∃ i, k = i + 1 := ⟨k - 1, by omega⟩
         have hk1 : ((k + 1 : Nat) : Int) > 0 := by omega
         have hk2 : 0 < ((k + 1 : Nat) : Int) := by omega
         have mb0 : (0 : Int) ≤ (u : Int) * (o : Int) := Int.mul_nonneg (by omega) (by omega)
         have mb1 : (u : Int) * (o : Int) ≤ 49 := by
          have := Int.mul_le_mul (show (u : Int) ≤ 7 by omega) (show (o : Int) ≤ 7 by omega) (by omega) (by omega)
          omega
         obtain ⟨u2, hu2⟩ : ∃ u2, u2 = u * o % p := ⟨_, rfl⟩
         have hu2p : u2 < p := by rw [hu2]; exact Nat.mod_lt _ p0
         have tq2 : (u : Int) * (o : Int) % (p : Int) = (u2 : Int) := by rw [hu2]; push_cast; rfl
         have tq : ((u : Int) * (o : Int)).tmod (p : Int) = (u2 : Int) := by rw [Int.tmod_eq_emod_of_nonneg mb0]; exact tq2
         have hpz : ¬ (p : Int) = 0 := by omega
         have hE3 : Hid (em (p : Int) (V : Int) ((u2 : Int) * ((o : Int) ^ k * owp p x (R.drop (j + 1))))) := Lib.hid (by
          have h1 := hE2.out
          rw [Int.pow_succ, Int.mul_comm ((o : Int) ^ k), Int.mul_assoc, ← Int.mul_assoc (u : Int)] at h1
          have h2 := mod_dvd p (u * o)
          rw [← hu2, Int.natCast_mul] at h2
          exact em_trans h1 (em_mul (em_symm h2) (em_refl _ _)))
         have ho7 : o < 256 := by omega
         clear hu2
         have cc := B4.cell (i := 0) (by omega)
         rw [← HO.out] at cc
         go_wp2_with fail
         go_roundw
         case rel => exact ⟨k, u2, by go_num, rfl, by omega, hu2p, hE3, hb, B0, B2, B4⟩
         case measure => simp [intOf] <;> omega
  · have hjl : ¬ (j : Int) < (R.length : Int) := by omega
    have HV := Lib.hid (show V = t by have := hE.out; rw [owp_end (by omega), Int.mul_one] at this; exact nat_em hVp htp this)
    go_wp2_with fail
    go_ret
    exact ⟨by rw [HV.out]; rfl, hb⟩
end Go.Proofs.Ytifdkepkedlmoaa
end
section
namespace Go.Proofs.Ytifdkepkedlmoaa
open Go Go.RowKit
set_option linter.unusedVariables false
set_option linter.unusedSimpArgs false
/-- both answers: the symbol -/
noncomputable def sbV (p : Int) (a m : Nat → Nat) : Int × Int := if codeL p [a, m] = 0 then (if monUp 12 m = true then ((sbN p.toNat a m : Nat), 0) else (0, 2)) else (0, 1)
theorem sbV_1 {p : Int} {a m : Nat → Nat} (h : codeL p [a, m] = 1) : sbV p a m = (0, 1) := by unfold sbV; rw [if_neg (by omega)]
theorem sbV_2 {p : Int} {a m : Nat → Nat} (h : codeL p [a, m] = 0) (h2 : monUp 12 m = false) : sbV p a m = (0, 2) := by unfold sbV; rw [if_pos h, if_neg (by rw [h2]; decide)]
theorem sbV_0 {p : Nat} {a m : Nat → Nat} (h : codeL (p : Int) [a, m] = 0) (h2 : monUp 12 m = true) : sbV (p : Int) a m = (((sbN p a m : Nat) : Int), 0) := by unfold sbV; rw [if_pos h, if_pos h2, Int.toNat_natCast]
attribute [local irreducible] deg invN quoP resP prd sbN mon
set_option maxRecDepth 100000 in
set_option maxHeartbeats 3200000 in
theorem impl_SymbolOf_any (p : Int) (a m : Nat → Nat) (ha : byte a) (hm : byte m) (w : World) :
 Calls Try.prog 12 #[.int .i64 p, .agg (zb 64 a), .agg (zb 64 m)] w fun e w' => e = .returned (.tuple #[.int .i64 (sbV p a m).1, .int .i64 (sbV p a m).2]) ∧ Below w.heap.size w w' := by
 go_enter Try.func12, Try.ntmps12
 go_upto_region 1 with (fail)
 obtain ⟨W1, hwo⟩ : ∃ v : World, v = ((w.alloc (.cells (zb 64 (a)) 25)).alloc (.cells (zb 64 (m)) 25)) := ⟨_, rfl⟩
 have B0 : Blk W1 (w.heap.size) 64 25 (a) := by subst hwo; have := ((Blk.new w 64 25 (a)).alloc (.cells (zb 64 (m)) 25)); simpa using this
 have B1 : Blk W1 (w.heap.size + 1) 64 25 (m) := by subst hwo; have := (Blk.new (w.alloc (.cells (zb 64 (a)) 25)) 64 25 (m)); simpa using this
 have hb : Below w.heap.size w W1 := by subst hwo; exact (((Below.refl _ _).alloc (Nat.le_refl _) _).alloc (by simp) _)
 rw [← hwo]
 clear hwo
 go_upto_region 2 with (first | (refine zla (.tmp 4) B0 Try.underlying25 Try.size25 ?_) | (refine zla (.tmp 5) B1 Try.underlying25 Try.size25 ?_) | (refine wpList_build_polys rfl 68 _ [a, m] rfl 25 rfl Try.underlying68 Try.elem25 (by simp) (by simp) rfl ?_; intro wa hwa hps hba; clear hwa) | (go_at_call 115; refine (checkPolys_any p [a, m] (by simp [ha, hm]) _ _ hps (by simp)).mono ?_; rintro e W2 ⟨rfl, hbb⟩))
 have hBB : Below W1.heap.size W1 W2 := hba.trans (hbb.mono hba.size)
 replace B0 := B0.zw hBB
 replace B1 := B1.zw hBB
 replace hb := hb.trans (hBB.mono hb.size)
 clear hBB hba hbb hps
 rcases codeL_two p [a, m] with hc | hc
 · obtain ⟨n, hn, n2, n7⟩ := okP_nat (codeL_zero hc).1
   subst hn
   have la := lt_of_code hc (f := a) (by simp)
   have lm := lt_of_code hc (f := m) (by simp)
   have hpr := prime_of hc
   cases hu : monUp 12 m with
   | false =>
    have HU := Lib.hid hu
    have HV := Lib.hid (sbV_2 hc hu)
    rw [hc]
    clear hc hu
    go_upto_region 4 with (fail)
    go_upto_region 5 with (first | (refine zla (.tmp 5) B1 Try.underlying25 Try.size25 ?_) | (go_at_call 116; refine (isMonicUpTo_any 12 m hm _ (by decide) (by decide)).mono ?_; rintro e W3 ⟨rfl, hW3⟩; replace B0 := B0.zw hW3; replace B1 := B1.zw hW3; replace hb := (hb).trans (hW3.mono (hb).size); rw [HU.out]))
    go_wp2_with fail
    go_ret2
    exact ⟨by first | (rw [HV.out]; rfl) | rw [HV.out], hb⟩
   | true =>
    have HU := Lib.hid hu
    have HV := Lib.hid (sbV_0 hc hu)
    obtain ⟨d, hmon, hd1, hd12⟩ := mon_up hu
    have HS := Lib.hid (fun W => symbolOf_any n d a m W hpr la lm hmon (by omega))
    rw [hc]
    clear hc hu hmon
    go_upto_region 4 with (fail)
    go_upto_region 6 with (first | (refine zla (.tmp 5) B1 Try.underlying25 Try.size25 ?_) | (go_at_call 116; refine (isMonicUpTo_any 12 m hm _ (by decide) (by decide)).mono ?_; rintro e W3 ⟨rfl, hW3⟩; replace B0 := B0.zw hW3; replace B1 := B1.zw hW3; replace hb := (hb).trans (hW3.mono (hb).size); rw [HU.out]))
    go_wp2_with (first | (refine zla (.tmp 4) B0 Try.underlying25 Try.size25 ?_) | (refine zla (.tmp 5) B1 Try.underlying25 Try.size25 ?_) | (go_at_call 117; refine (HS.out _).mono ?_; rintro e W4 ⟨rfl, hW4⟩; replace B0 := B0.zw hW4; replace B1 := B1.zw hW4; replace hb := (hb).trans (hW4.mono (hb).size)))
    go_ret2
    exact ⟨by first | (rw [HV.out]; rfl) | rw [HV.out], hb⟩
 · have HV := Lib.hid (sbV_1 hc)
   rw [hc]
   clear hc
   go_wp2_with fail
   go_ret2
   exact ⟨by first | (rw [HV.out]; rfl) | rw [HV.out], hb⟩
end Go.Proofs.Ytifdkepkedlmoaa
end
section
namespace Go.Proofs.Ytifdkepkedlmoaa
open Go Go.RowKit
set_option linter.unusedVariables false
set_option linter.unusedSimpArgs false
attribute [local irreducible] deg invN quoP resP prd sbN mon sbV
set_option maxRecDepth 100000 in
set_option maxHeartbeats 3200000 in
theorem spec_SymbolOf_any (p : Int) (a m : Nat → Nat) (ha : byte a) (hm : byte m) (w : World) :
 Calls Try.prog 10 #[.int .i64 p, .agg (zb 64 a), .agg (zb 64 m)] w fun e w' => e = .returned (.tuple #[.int .i64 (sbV p a m).1, .int .i64 (sbV p a m).2]) ∧ Below w.heap.size w w' := by
 obtain ⟨fb1, fb2⟩ := zdb m
 go_enter Try.func10, Try.ntmps10
 go_upto_region 1 with (fail)
 obtain ⟨W1, hwo⟩ : ∃ v : World, v = ((w.alloc (.cells (zb 64 (a)) 25)).alloc (.cells (zb 64 (m)) 25)) := ⟨_, rfl⟩
 have B0 : Blk W1 (w.heap.size) 64 25 (a) := by subst hwo; have := ((Blk.new w 64 25 (a)).alloc (.cells (zb 64 (m)) 25)); simpa using this
 have B1 : Blk W1 (w.heap.size + 1) 64 25 (m) := by subst hwo; have := (Blk.new (w.alloc (.cells (zb 64 (a)) 25)) 64 25 (m)); simpa using this
 have hb : Below w.heap.size w W1 := by subst hwo; exact (((Below.refl _ _).alloc (Nat.le_refl _) _).alloc (by simp) _)
 rw [← hwo]
 clear hwo
 rcases codeL_two p [a, m] with hc | hc
 · cases hmo : monB m with
   | false =>
    have HV := Lib.hid (sbV_2 hc (by rw [monUp_B, hmo]; simp))
    go_upto_region 3 with (first | (refine zla (.tmp 4) B0 Try.underlying25 Try.size25 ?_) | (refine zla (.tmp 5) B1 Try.underlying25 Try.size25 ?_) | (refine wpList_build_polys rfl 68 _ [a, m] rfl 25 rfl Try.underlying68 Try.elem25 (by simp) (by simp) rfl ?_; intro wa hwa hps hba; clear hwa) | (go_at_call 110; refine (l01Code_any p [a, m] (by simp [ha, hm]) _ _ hps (by simp)).mono ?_; rintro e W2 ⟨rfl, hbb⟩; rw [hc]))
    have hBB : Below W1.heap.size W1 W2 := hba.trans (hbb.mono hba.size)
    replace B0 := B0.zw hBB
    replace B1 := B1.zw hBB
    replace hb := hb.trans (hBB.mono hb.size)
    clear hBB hba hbb hps
    go_upto_region 4 with (first | (refine zla (.tmp 5) B1 Try.underlying25 Try.size25 ?_) | (go_at_call 111; refine (l01Monic_any m hm _).mono ?_; rintro e W3 ⟨rfl, hW3⟩; replace B0 := B0.zw hW3; replace B1 := B1.zw hW3; replace hb := (hb).trans (hW3.mono (hb).size); rw [hmo]))
    go_wp2_with fail
    go_ret2
    exact ⟨by first | (rw [HV.out]; rfl) | rw [HV.out], hb⟩
   | true =>
    by_cases hr : 1 ≤ deg m ∧ deg m ≤ 12
    · have hu : monUp 12 m = true := by rw [monUp_B, hmo]; simpa using hr
      have hr' := hr
      obtain ⟨n, hn, n2, n7⟩ := okP_nat (codeL_zero hc).1
      subst hn
      have la := lt_of_code hc (f := a) (by simp)
      have lm := lt_of_code hc (f := m) (by simp)
      have hpr := prime_of hc
      have HV := Lib.hid (sbV_0 hc hu)
      obtain ⟨d, hmon, hd1, hd12⟩ := mon_up hu
      have HS := Lib.hid (fun W => l02Symbol_any n d a m W hpr la lm hmon (by omega))
      clear hu hmon hr'
      go_upto_region 3 with (first | (refine zla (.tmp 4) B0 Try.underlying25 Try.size25 ?_) | (refine zla (.tmp 5) B1 Try.underlying25 Try.size25 ?_) | (refine wpList_build_polys rfl 68 _ [a, m] rfl 25 rfl Try.underlying68 Try.elem25 (by simp) (by simp) rfl ?_; intro wa hwa hps hba; clear hwa) | (go_at_call 110; refine (l01Code_any (n : Int) [a, m] (by simp [ha, hm]) _ _ hps (by simp)).mono ?_; rintro e W2 ⟨rfl, hbb⟩; rw [hc]))
      have hBB : Below W1.heap.size W1 W2 := hba.trans (hbb.mono hba.size)
      replace B0 := B0.zw hBB
      replace B1 := B1.zw hBB
      replace hb := hb.trans (hBB.mono hb.size)
      clear hBB hba hbb hps
      go_upto_region 5 with (first | (refine zla (.tmp 5) B1 Try.underlying25 Try.size25 ?_) | (go_at_call 111; refine (l01Monic_any m hm _).mono ?_; rintro e W3 ⟨rfl, hW3⟩; replace B0 := B0.zw hW3; replace B1 := B1.zw hW3; replace hb := (hb).trans (hW3.mono (hb).size); rw [hmo]) | (refine zlg rfl 25 (.tmp 5) rfl _ rfl 64 25 _ (B1) _ Try.underlying25 rfl Try.size25 ?_) | (go_at_call 113; refine (l01Deg_any m _).mono ?_; rintro e W4 ⟨rfl, hW4⟩; replace B0 := B0.zw hW4; replace B1 := B1.zw hW4; replace hb := (hb).trans (hW4.mono (hb).size)) | (go_at_call 112; refine (l01In_yes (deg m) 1 12 hr _).mono ?_; rintro e wS ⟨rfl, rfl⟩))
      go_wp2_with (first | (refine zla (.tmp 4) B0 Try.underlying25 Try.size25 ?_) | (refine zla (.tmp 5) B1 Try.underlying25 Try.size25 ?_) | (go_at_call 114; refine (HS.out _).mono ?_; rintro e W5 ⟨rfl, hW5⟩; replace B0 := B0.zw hW5; replace B1 := B1.zw hW5; replace hb := (hb).trans (hW5.mono (hb).size)))
      go_ret2
      exact ⟨by first | (rw [HV.out]; rfl) | rw [HV.out], hb⟩
    · have HV := Lib.hid (sbV_2 hc (by rw [monUp_B, hmo]; simp; omega))
      go_upto_region 3 with (first | (refine zla (.tmp 4) B0 Try.underlying25 Try.size25 ?_) | (refine zla (.tmp 5) B1 Try.underlying25 Try.size25 ?_) | (refine wpList_build_polys rfl 68 _ [a, m] rfl 25 rfl Try.underlying68 Try.elem25 (by simp) (by simp) rfl ?_; intro wa hwa hps hba; clear hwa) | (go_at_call 110; refine (l01Code_any p [a, m] (by simp [ha, hm]) _ _ hps (by simp)).mono ?_; rintro e W2 ⟨rfl, hbb⟩; rw [hc]))
      have hBB : Below W1.heap.size W1 W2 := hba.trans (hbb.mono hba.size)
      replace B0 := B0.zw hBB
      replace B1 := B1.zw hBB
      replace hb := hb.trans (hBB.mono hb.size)
      clear hBB hba hbb hps
      go_upto_region 4 with (first | (refine zla (.tmp 5) B1 Try.underlying25 Try.size25 ?_) | (go_at_call 111; refine (l01Monic_any m hm _).mono ?_; rintro e W3 ⟨rfl, hW3⟩; replace B0 := B0.zw hW3; replace B1 := B1.zw hW3; replace hb := (hb).trans (hW3.mono (hb).size); rw [hmo]) | (refine zlg rfl 25 (.tmp 5) rfl _ rfl 64 25 _ (B1) _ Try.underlying25 rfl Try.size25 ?_) | (go_at_call 113; refine (l01Deg_any m _).mono ?_; rintro e W4 ⟨rfl, hW4⟩; replace B0 := B0.zw hW4; replace B1 := B1.zw hW4; replace hb := (hb).trans (hW4.mono (hb).size)) | (go_at_call 112; refine (l01In_no (deg m) 1 12 hr _).mono ?_; rintro e wS ⟨rfl, rfl⟩))
      go_wp2_with fail
      go_ret2
      exact ⟨by first | (rw [HV.out]; rfl) | rw [HV.out], hb⟩
 · have HV := Lib.hid (sbV_1 hc)
   go_upto_region 2 with (first | (refine zla (.tmp 4) B0 Try.underlying25 Try.size25 ?_) | (refine zla (.tmp 5) B1 Try.underlying25 Try.size25 ?_) | (refine wpList_build_polys rfl 68 _ [a, m] rfl 25 rfl Try.underlying68 Try.elem25 (by simp) (by simp) rfl ?_; intro wa hwa hps hba; clear hwa) | (go_at_call 110; refine (l01Code_any p [a, m] (by simp [ha, hm]) _ _ hps (by simp)).mono ?_; rintro e W2 ⟨rfl, hbb⟩; rw [hc]))
   have hBB : Below W1.heap.size W1 W2 := hba.trans (hbb.mono hba.size)
   replace B0 := B0.zw hBB
   replace B1 := B1.zw hBB
   replace hb := hb.trans (hBB.mono hb.size)
   clear hBB hba hbb hps
   go_wp2_with fail
   go_ret2
   exact ⟨by first | (rw [HV.out]; rfl) | rw [HV.out], hb⟩
end Go.Proofs.Ytifdkepkedlmoaa
end
section
namespace Go.Proofs.Ytifdkepkedlmoaa
open Go Go.RowKit
set_option linter.unusedVariables false
set_option linter.unusedSimpArgs false
set_option maxRecDepth 100000 in
set_option maxHeartbeats 1600000 in
theorem FnExactSymbolOf_walk (p : Int) (f : Nat → Nat) (m : Nat → Nat) (hf : byte f) (hm : byte m) (w : World) :
 Calls Try.prog 3 #[.int .i64 p, .agg (zb 64 f), .agg (zb 64 m)] w fun e w' => e = .returned (.bool true) ∧ Below w.heap.size w w' := by
 go_enter Try.func3, Try.ntmps3
 go_upto_region 1 with (fail)
 obtain ⟨W1, hwo⟩ : ∃ v : World, v = ((w.alloc (.cells (zb 64 (f)) 22)).alloc (.cells (zb 64 (m)) 22)) := ⟨_, rfl⟩
 have B0 : Blk W1 (w.heap.size) 64 22 (f) := by subst hwo; have := ((Blk.new w 64 22 (f)).alloc (.cells (zb 64 (m)) 22)); simpa using this
 have B1 : Blk W1 (w.heap.size + 1) 64 22 (m) := by subst hwo; have := (Blk.new (w.alloc (.cells (zb 64 (f)) 22)) 64 22 (m)); simpa using this
 have hb : Below w.heap.size w W1 := by subst hwo; exact (((Below.refl _ _).alloc (Nat.le_refl _) _).alloc (by simp) _)
 rw [← hwo]
 clear hwo
 have hne0 : (((sbV p f m).1) != ((sbV p f m).1)) = false := by simp
 have hne1 : (((sbV p f m).2) != ((sbV p f m).2)) = false := by simp
 refine zq Try.mixed (by kernel_rfl) (by kernel_rfl) (fun v => by (simp only [frL, Act.put, pA, pB, pC, Nat.reduceAdd, Nat.zero_add]; exact rfl))
  (fun L v W2 => Below W1.heap.size W1 W2 ∧ VF L v [some (.int .i64 p), some (.agg (zb 64 (f))), some (.agg (zb 64 (f))), some (.agg (zb 64 (m))), some (.agg (zb 64 (m))), some (.tuple #[(.int .i64 ((sbV p f m).1)), (.int .i64 ((sbV p f m).2))]), some (.tuple #[(.int .i64 ((sbV p f m).1)), (.int .i64 ((sbV p f m).2))]), some (.int .i64 ((sbV p f m).1)), some (.int .i64 ((sbV p f m).2)), some (.int .i64 ((sbV p f m).1)), some (.int .i64 ((sbV p f m).2))]) ?_ ?_ ?_
 · intro v hv0
   exact ⟨(Below.refl _ W1).drew, VF.start⟩
 · refine (.cons rfl ?_ (.cons rfl ?_ (.cons rfl ?_ (.cons rfl ?_ (.cons rfl ?_ (.cons rfl ?_ (.cons rfl ?_ (.cons rfl ?_ (.cons rfl ?_ (.cons rfl ?_ (.cons rfl ?_ (.nil _))))))))))))
   all_goals intro L v W2 hd hn ⟨hY, V⟩ K hK
   · go_wp2_with fail
     exact hK _ (.int .i64 p) _ (by simp only [Act.put, pA, pB, pC ]) ⟨hY, V.step 0 rfl⟩
   · refine zlc (B0.zw hY) Try.underlying22 Try.size22 ?_
     exact hK _ _ _ rfl ⟨hY, V.step 1 rfl⟩
   · have e1 := V.at (zdq hd 1 rfl) rfl
     go_wp2_with (go_at_call 11; refine (toPoly_any f hf _).mono ?_; rintro e wy ⟨rfl, hy⟩)
     exact hK _ (.agg (zb 64 (f))) _ (by simp only [Act.put, pA, pB, pC, e1]) ⟨hY.trans (hy.mono hY.size), V.step 2 rfl⟩
   · refine zlc (B1.zw hY) Try.underlying22 Try.size22 ?_
     exact hK _ _ _ rfl ⟨hY, V.step 3 rfl⟩
   · have e3 := V.at (zdq hd 3 rfl) rfl
     go_wp2_with (go_at_call 11; refine (toPoly_any m hm _).mono ?_; rintro e wy ⟨rfl, hy⟩)
     exact hK _ (.agg (zb 64 (m))) _ (by simp only [Act.put, pA, pB, pC, e3]) ⟨hY.trans (hy.mono hY.size), V.step 4 rfl⟩
   · have e0 := V.at (zdq hd 0 rfl) rfl
     have e2 := V.at (zdq hd 2 rfl) rfl
     have e4 := V.at (zdq hd 4 rfl) rfl
     go_wp2_with (go_at_call 10; refine (spec_SymbolOf_any p f m hf hm _).mono ?_; rintro e wy ⟨rfl, hy⟩)
     exact hK _ (.tuple #[(.int .i64 ((sbV p f m).1)), (.int .i64 ((sbV p f m).2))]) _ (by simp only [Act.put, pA, pB, pC, e0, e2, e4]) ⟨hY.trans (hy.mono hY.size), V.step 5 rfl⟩
   · have e5 := V.at (zdq hd 5 rfl) rfl
     go_wp2_with fail
     exact hK _ (.tuple #[(.int .i64 ((sbV p f m).1)), (.int .i64 ((sbV p f m).2))]) _ (by simp only [Act.put, pA, pB, pC, e5]) ⟨hY, V.step 6 rfl⟩
   · have e6 := V.at (zdq hd 6 rfl) rfl
     go_wp2_with fail
     exact hK _ (.int .i64 ((sbV p f m).1)) _ (by simp only [Act.put, pA, pB, pC, e6]) ⟨hY, V.step 7 rfl⟩
   · have e6 := V.at (zdq hd 6 rfl) rfl
     go_wp2_with fail
     exact hK _ (.int .i64 ((sbV p f m).2)) _ (by simp only [Act.put, pA, pB, pC, e6]) ⟨hY, V.step 8 rfl⟩
   · have e7 := V.at (zdq hd 7 rfl) rfl
     go_wp2_with fail
     exact hK _ (.int .i64 ((sbV p f m).1)) _ (by simp only [Act.put, pA, pB, pC, e7]) ⟨hY, V.step 9 rfl⟩
   · have e8 := V.at (zdq hd 8 rfl) rfl
     go_wp2_with fail
     exact hK _ (.int .i64 ((sbV p f m).2)) _ (by simp only [Act.put, pA, pB, pC, e8]) ⟨hY, V.step 10 rfl⟩
 · intro L v W2 hL ⟨hY, V⟩
   have e0 := V.at (hL 0 (by decide)) rfl
   have e1 := V.at (hL 1 (by decide)) rfl
   have e2 := V.at (hL 2 (by decide)) rfl
   have e3 := V.at (hL 3 (by decide)) rfl
   have e4 := V.at (hL 4 (by decide)) rfl
   have e5 := V.at (hL 5 (by decide)) rfl
   have e6 := V.at (hL 6 (by decide)) rfl
   have e7 := V.at (hL 7 (by decide)) rfl
   have e8 := V.at (hL 8 (by decide)) rfl
   have e9 := V.at (hL 9 (by decide)) rfl
   have e10 := V.at (hL 10 (by decide)) rfl
   clear hL V
   replace B0 := B0.zw hY
   replace B1 := B1.zw hY
   replace hb := hb.trans (hY.mono hb.size)
   clear hY
   simp only [Exit.then, e0, e1, e2, e3, e4, e5, e6, e7, e8, e9, e10]
   clear e0 e1 e2 e3 e4 e5 e6 e7 e8 e9 e10
   go_upto_region 2 with (fail)
   refine zq Try.mixed (by kernel_rfl) (by kernel_rfl) (fun v => by (simp only [frL, Act.put, pA, pB, pC, Nat.reduceAdd, Nat.zero_add]; exact rfl))
    (fun L v W3 => Below W2.heap.size W2 W3 ∧ VF L v [some (.int .i64 p), some (.agg (zb 64 (f))), some (.agg (zb 64 (f))), some (.agg (zb 64 (m))), some (.agg (zb 64 (m))), some (.tuple #[(.int .i64 ((sbV p f m).1)), (.int .i64 ((sbV p f m).2))]), some (.tuple #[(.int .i64 ((sbV p f m).1)), (.int .i64 ((sbV p f m).2))]), some (.int .i64 ((sbV p f m).1)), some (.int .i64 ((sbV p f m).2)), some (.int .i64 ((sbV p f m).1)), some (.int .i64 ((sbV p f m).2))]) ?_ ?_ ?_
   · intro v hv0
     exact ⟨(Below.refl _ W2).drew, VF.start⟩
   · refine (.cons rfl ?_ (.cons rfl ?_ (.cons rfl ?_ (.cons rfl ?_ (.cons rfl ?_ (.cons rfl ?_ (.cons rfl ?_ (.cons rfl ?_ (.cons rfl ?_ (.cons rfl ?_ (.cons rfl ?_ (.nil _))))))))))))
     all_goals intro L v W3 hd hn ⟨hY, V⟩ K hK
     · go_wp2_with fail
       exact hK _ (.int .i64 p) _ (by simp only [Act.put, pA, pB, pC ]) ⟨hY, V.step 0 rfl⟩
     · refine zlc (B0.zw hY) Try.underlying22 Try.size22 ?_
       exact hK _ _ _ rfl ⟨hY, V.step 1 rfl⟩
     · have e1 := V.at (zdq hd 1 rfl) rfl
       go_wp2_with (go_at_call 11; refine (toPoly_any f hf _).mono ?_; rintro e wy ⟨rfl, hy⟩)
       exact hK _ (.agg (zb 64 (f))) _ (by simp only [Act.put, pA, pB, pC, e1]) ⟨hY.trans (hy.mono hY.size), V.step 2 rfl⟩
     · refine zlc (B1.zw hY) Try.underlying22 Try.size22 ?_
       exact hK _ _ _ rfl ⟨hY, V.step 3 rfl⟩
     · have e3 := V.at (zdq hd 3 rfl) rfl
       go_wp2_with (go_at_call 11; refine (toPoly_any m hm _).mono ?_; rintro e wy ⟨rfl, hy⟩)
       exact hK _ (.agg (zb 64 (m))) _ (by simp only [Act.put, pA, pB, pC, e3]) ⟨hY.trans (hy.mono hY.size), V.step 4 rfl⟩
     · have e0 := V.at (zdq hd 0 rfl) rfl
       have e2 := V.at (zdq hd 2 rfl) rfl
       have e4 := V.at (zdq hd 4 rfl) rfl
       go_wp2_with (go_at_call 12; refine (impl_SymbolOf_any p f m hf hm _).mono ?_; rintro e wy ⟨rfl, hy⟩)
       exact hK _ (.tuple #[(.int .i64 ((sbV p f m).1)), (.int .i64 ((sbV p f m).2))]) _ (by simp only [Act.put, pA, pB, pC, e0, e2, e4]) ⟨hY.trans (hy.mono hY.size), V.step 5 rfl⟩
     · have e5 := V.at (zdq hd 5 rfl) rfl
       go_wp2_with fail
       exact hK _ (.tuple #[(.int .i64 ((sbV p f m).1)), (.int .i64 ((sbV p f m).2))]) _ (by simp only [Act.put, pA, pB, pC, e5]) ⟨hY, V.step 6 rfl⟩
     · have e6 := V.at (zdq hd 6 rfl) rfl
       go_wp2_with fail
       exact hK _ (.int .i64 ((sbV p f m).1)) _ (by simp only [Act.put, pA, pB, pC, e6]) ⟨hY, V.step 7 rfl⟩
     · have e6 := V.at (zdq hd 6 rfl) rfl
       go_wp2_with fail
       exact hK _ (.int .i64 ((sbV p f m).2)) _ (by simp only [Act.put, pA, pB, pC, e6]) ⟨hY, V.step 8 rfl⟩
     · have e7 := V.at (zdq hd 7 rfl) rfl
       go_wp2_with fail
       exact hK _ (.int .i64 ((sbV p f m).1)) _ (by simp only [Act.put, pA, pB, pC, e7]) ⟨hY, V.step 9 rfl⟩
     · have e8 := V.at (zdq hd 8 rfl) rfl
       go_wp2_with fail
       exact hK _ (.int .i64 ((sbV p f m).2)) _ (by simp only [Act.put, pA, pB, pC, e8]) ⟨hY, V.step 10 rfl⟩
   · intro L v W3 hL ⟨hY, V⟩
     have e0 := V.at (hL 0 (by decide)) rfl
     have e1 := V.at (hL 1 (by decide)) rfl
     have e2 := V.at (hL 2 (by decide)) rfl
     have e3 := V.at (hL 3 (by decide)) rfl
     have e4 := V.at (hL 4 (by decide)) rfl
     have e5 := V.at (hL 5 (by decide)) rfl
     have e6 := V.at (hL 6 (by decide)) rfl
     have e7 := V.at (hL 7 (by decide)) rfl
     have e8 := V.at (hL 8 (by decide)) rfl
     have e9 := V.at (hL 9 (by decide)) rfl
     have e10 := V.at (hL 10 (by decide)) rfl
     clear hL V
     replace B0 := B0.zw hY
     replace B1 := B1.zw hY
     replace hb := hb.trans (hY.mono hb.size)
     clear hY
     simp only [Exit.then, e0, e1, e2, e3, e4, e5, e6, e7, e8, e9, e10]
     clear e0 e1 e2 e3 e4 e5 e6 e7 e8 e9 e10
     go_upto_region 3 with (fail)
     go_wp2_with fail
     go_ret
     exact ⟨rfl, hb⟩
end Go.Proofs.Ytifdkepkedlmoaa
end
section
namespace Go.Proofs.Ytifdkepkedlmoaa
open Go.ChangeShapes Go.WideShapes Go.ChangeAt Go.RowKit
section
variable {H : Type} {enc : TypeId × Value → H} {P : Program}
theorem trod_int_to {e : TypeId} {k : IntKind} (he : P.underlying e = some (.int k)) {w : World} (w' : World) {b : Nat} (b' : Nat) {s : Nat → Bool} (s' : Nat → Bool) {h : Bool} (h' : Bool) {m : Nat} {c : List Value} {x : DataW H × List MemPlace}
 (hx : DataW.trod enc P w b s h m e c = some x) : DataW.trod enc P w' b' s' h' m e c = some x := by
 cases m with
 | zero => simp [DataW.trod] at hx
 | succ m =>
  obtain ⟨n, rfl, rfl, hw⟩ := DataW.trod_int he hx
  unfold DataW.trod
  rw [he]
  simp [hw]
theorem trod_int_same {e : TypeId} {k : IntKind} (he : P.underlying e = some (.int k)) (w w' : World) (b b' : Nat) (s s' : Nat → Bool) (h h' : Bool) (m : Nat) (c : List Value) :
 DataW.trod enc P w b s h m e c = DataW.trod enc P w' b' s' h' m e c := by
 cases h1 : DataW.trod enc P w b s h m e c with
 | some x => rw [trod_int_to he w' b' s' h' h1]
 | none =>
  cases h2 : DataW.trod enc P w' b' s' h' m e c with
  | none => rfl
  | some x => rw [trod_int_to he w b s h h2] at h1; cases h1
theorem open_barr {t e : TypeId} {n : Nat} {w : World} {r : Reach} {b0 base : Nat} {spare : Nat → Bool} {held : Bool} {v : Value} {d : DataW H} {p : List MemPlace}
 (ht : P.underlying t = some (.array n e)) (he : P.underlying e = some (.int .u8)) (hC : P.cellsOf t = n) (hCe : P.cellsOf e = 1)
 (hv : Value.okWide P w r b0 t v) (h : DataW.Trod enc P w base spare held t v d p) :
 ∃ f : Nat → Nat, byte f ∧ v = .agg (zb n f) ∧ p = [] ∧ ∀ (w' : World) (base' : Nat) (spare' : Nat → Bool) (held' : Bool), DataW.Trod enc P w' base' spare' held' t v d [] := by
 unfold Value.okWide at hv
 rw [ht] at hv
 obtain ⟨cs, rfl, hsz, _⟩ := hv
 obtain ⟨fuel, hf⟩ := h
 obtain ⟨xs, m, hm, hx, hlen, hxl, hel⟩ := DataW.trod_array ht hf
 subst hm
 have hcs : cs.size = n := by rw [hsz, hC]
 have each : ∀ i, i < n → ∃ k : Nat, k < 256 ∧ cs[i]? = some (.int .u8 (k : Int)) ∧ xs[i]? = some (.lit (.int .u8 (k : Int)), []) := by
  intro i hi
  have h1 := hel i hi
  have hxi : xs[i]? = some (xs[i]'(by omega)) := List.getElem?_eq_getElem (by omega)
  rw [hxi, hCe] at h1
  obtain ⟨z, hz1, hz2, hz3⟩ := DataW.trod_int he h1
  have hb := bounds_u8 hz3
  obtain ⟨k, rfl⟩ := Int.eq_ofNat_of_zero_le hb.1
  refine ⟨k, by omega, ?_, by rw [hxi, hz2]⟩
  have h2 : ((cs.toList.drop (i * 1)).take 1)[0]? = some (.int .u8 (k : Int)) := by
   have h3 : (Value.agg cs).cells.toList = cs.toList := rfl
   rw [← h3, hz1]; rfl
  simpa using h2
 refine ⟨fun i => match cs[i]? with | some (.int _ z) => if i < n then z.toNat else 0 | _ => 0, ?_, ?_, ?_, ?_⟩
 · intro i
   by_cases hi : i < n
   · obtain ⟨k, hk, hc, _⟩ := each i hi
     simp only [hc, hi, if_true, Int.toNat_natCast]
     exact hk
   · have : cs[i]? = none := Array.getElem?_eq_none (by omega)
     simp [this]
 · congr 1
   apply Array.ext_getElem?
   intro i
   by_cases hi : i < n
   · obtain ⟨k, hk, hc, _⟩ := each i hi
     rw [bcells_get hi]
     simp only [hc, hi, if_true, Int.toNat_natCast]
   · rw [Array.getElem?_eq_none (by omega), Array.getElem?_eq_none (by rw [zbs]; omega)]
 · have hp : p = xs.flatMap (·.2) := by simpa using congrArg Prod.snd hx
   rw [hp]
   rw [List.flatMap_eq_nil_iff]
   intro x hxm
   obtain ⟨i, hi⟩ := List.getElem?_of_mem hxm
   have hin : i < n := by rw [← hxl]; exact (List.getElem?_eq_some_iff.1 hi).1
   obtain ⟨k, _, _, h2⟩ := each i hin
   rw [hi] at h2
   injection h2 with h2
   rw [h2]
 · intro w' base' spare' held'
   refine ⟨m + 1, ?_⟩
   have e1 : DataW.trod enc P w' base' spare' held' (m + 1) t (Value.agg cs).cells.toList = DataW.trod enc P w base spare held (m + 1) t (Value.agg cs).cells.toList := by
    unfold DataW.trod
    rw [ht]
    simp only [trod_int_same he w' w base' base spare' spare held' held m]
   rw [e1, hf]
   have hp : p = xs.flatMap (·.2) := by simpa using congrArg Prod.snd hx
   have : p = [] := by
    rw [hp, List.flatMap_eq_nil_iff]
    intro x hxm
    obtain ⟨i, hi⟩ := List.getElem?_of_mem hxm
    have hin : i < n := by rw [← hxl]; exact (List.getElem?_eq_some_iff.1 hi).1
    obtain ⟨k, _, _, h2⟩ := each i hin
    rw [hi] at h2
    injection h2 with h2
    rw [h2]
   rw [this]
/-- the row's last step where the call has only made new memory, and the row does not say 'again' -/
theorem post_of_below0 {f : Func} {s : ChangeSpec} {apart fresh handsOn : Bool} {W W' : World} {args : Array Value} {v : Value} {ds gs : List (DataW H)} {before pa pv : List MemPlace}
 (hW : DataW.Whole enc P f.params.toList s.vars apart W args.toList ds gs before)
 (hres : ∀ (b : Nat) (sp : Nat → Bool) (hd : Bool), DataW.TrodAll enc P W' b sp hd f.resultTypes.toList (v.resultList f.resultTypes.size) (s.fn H (ds ++ gs)).results [])
 (hargs : ∀ sp : Nat → Bool, (∀ p ∈ before, sp p.block = true) → DataW.TrodAll enc P W' 0 sp true f.params.toList args.toList (s.fn H (ds ++ gs)).args pa)
 (hvars : ∀ sp : Nat → Bool, (∀ p ∈ before, sp p.block = true) → DataW.TrodVars enc P W' sp s.vars (s.fn H (ds ++ gs)).vars pv)
 (hps : before = pa ++ pv) (hb : Below W.heap.size W W') : s.post enc P f apart fresh handsOn false W args v W' := by
 have held : ∀ p ∈ before, (fun b => decide (b < W.heap.size)) p.block = true := fun p hp => by simpa using hW.lt p hp
 refine ⟨ds, gs, before, [], pa, pv, hW, hres _ _ _, hargs _ held, hvars _ held, ?_, fun h => by cases h⟩
 refine World.keptBut_mono (fun p hp => ⟨hp, .inr ?_⟩) (hb.frame (· ∈ before))
 rw [hps, List.mem_append] at hp
 exact hp
end
end Go.Proofs.Ytifdkepkedlmoaa
end
section
namespace Go.Proofs.Ytifdkepkedlmoaa
open Go
def cutW : List Char := [Char.ofNat 99, Char.ofNat 117, Char.ofNat 116]
theorem strip_cut (rest : List (List Char)) : stripLifts liftWords (cutW :: rest) = ([], cutW :: rest) := by
 have key : ∀ os : List String, (os.all fun o => !(cutW == o.toList)) = true → stripLifts os (cutW :: rest) = ([], cutW :: rest) := by
  intro os
  induction os with
  | nil => intro _; rfl
  | cons o os ih =>
   intro h
   simp only [List.all_cons, Bool.and_eq_true, Bool.not_eq_true'] at h
   unfold stripLifts
   rw [h.1]
   exact ih h.2
 exact key _ (by decide +kernel)
theorem make_cut {P : Program} {rest : List (List Char)} (h : behindMainWord (wordsSigns P.initOrder.toList) = cutW :: rest) : P.make = some .cut := by
 unfold Program.make
 rw [h]
 have e1 : (cutW == "gc".toList || cutW == "spec".toList) = false := by decide +kernel
 have e2 : (cutW == "cut".toList) = true := by decide +kernel
 simp only [e1, e2, Bool.true_or]
 rfl
theorem mayEnter_cut {P : Program} {rest : List (List Char)} (h : behindMainWord (wordsSigns P.initOrder.toList) = cutW :: rest) (h1 : P.laysLater = false) (h2 : P.bearsReflect = false) (h3 : P.doorFits [] = true) : P.mayEnter = true := by
 unfold Program.mayEnter
 rw [h]
 have e2 : (some cutW == some "cut".toList) = true := by decide +kernel
 simp only [strip_cut, h1, h2, h3, List.head?_cons, e2]
 simp
theorem lifts_cut {P : Program} {rest : List (List Char)} (h : behindMainWord (wordsSigns P.initOrder.toList) = cutW :: rest) : P.liftsFinal = false := by
 unfold Program.liftsFinal Program.headLifts
 rw [h]
 have e2 : (some cutW == some "cut".toList) = true := by decide +kernel
 have e3 : (some cutW == some "carried".toList) = false := by decide +kernel
 simp only [strip_cut, List.head?_cons, e2, e3]
 simp
/-- the signs of the head, and its words behind the first three -/
def initRest : List (List Nat) := [[97, 116], [108, 111, 111, 112, 46, 101, 120, 97, 109, 112, 108, 101, 47, 103, 48, 49, 50, 52, 53, 47, 108, 97, 119, 115, 46, 70, 110, 69, 120, 97, 99, 116, 83, 121, 109, 98, 111, 108, 79, 102], [108, 111, 111, 112, 46, 101, 120, 97, 109, 112, 108, 101, 47, 103, 48, 49, 50, 52, 53, 47, 108, 97, 119, 115, 46, 70, 110, 83, 121, 109, 98, 111, 108, 115], [108, 111, 111, 112, 46, 101, 120, 97, 109, 112, 108, 101, 47, 103, 48, 49, 50, 52, 53, 47, 108, 97, 119, 115, 46, 70, 110, 80, 111, 108, 121, 115], [108, 111, 111, 112, 46, 101, 120, 97, 109, 112, 108, 101, 47, 103, 48, 49, 50, 52, 53, 47, 108, 97, 119, 115, 46, 70, 110, 68, 105, 118, 105, 115, 111, 114, 115], [108, 111, 111, 112, 46, 101, 120, 97, 109, 112, 108, 101, 47, 103, 48, 49, 50, 52, 53, 47, 108, 97, 119, 115, 46, 70, 110, 80, 111, 119, 101, 114, 115], [108, 111, 111, 112, 46, 101, 120, 97, 109, 112, 108, 101, 47, 103, 48, 49, 50, 52, 53, 47, 108, 97, 119, 115, 46, 70, 110, 73, 114, 114, 101, 100, 117, 99, 105, 98, 108, 101, 115], [108, 111, 111, 112, 46, 101, 120, 97, 109, 112, 108, 101, 47, 103, 48, 49, 50, 52, 53, 47, 108, 97, 119, 115, 46, 70, 110, 82, 101, 115, 105, 100, 117, 101, 115]]
def initSigns : List Nat := [104, 97, 114, 110, 101, 115, 115, 32, 100, 54, 101, 57, 50, 52, 57, 52, 97, 102, 50, 100, 50, 102, 53, 56, 52, 56, 57, 52, 52, 56, 99, 56, 53, 56, 100, 53, 53, 97, 101, 49, 99, 57, 56, 99, 102, 55, 52, 51, 56, 52, 52, 98, 56, 55, 55, 54, 48, 100, 99, 51, 55, 100, 53, 97, 97, 99, 57, 101, 98, 56, 55, 48, 32, 99, 117, 116] ++ initRest.flatMap fun x => 32 :: x
theorem init_split : behindMainWord (wordsSigns (initSigns.map Char.ofNat)) = cutW :: initRest.map (fun w => w.map Char.ofNat) := by kernel_rfl
theorem init_order : Try.prog.initOrder = String.ofList (initSigns.map Char.ofNat) := by kernel_rfl
theorem init_cut : behindMainWord (wordsSigns Try.prog.initOrder.toList) = cutW :: initRest.map (fun w => w.map Char.ofNat) :=
 (congrArg (fun s : String => behindMainWord (wordsSigns s.toList)) init_order).trans ((congrArg (fun l => behindMainWord (wordsSigns l)) String.toList_ofList).trans init_split)
theorem Try.laysLater : Try.prog.laysLater = false := by kernel_rfl
theorem Try.bearsReflect : Try.prog.bearsReflect = false := by kernel_rfl
theorem Try.doorFits : Try.prog.doorFits [] = true := by kernel_rfl
theorem Try.mayEnter : Try.pinned.checked.prog.mayEnter = true := mayEnter_cut init_cut Try.laysLater Try.bearsReflect Try.doorFits
theorem Try.liftsFinal : Try.pinned.checked.prog.liftsFinal = false := lifts_cut init_cut
theorem Try.make : Try.pinned.checked.prog.make = some .cut := make_cut init_cut
end Go.Proofs.Ytifdkepkedlmoaa
end
