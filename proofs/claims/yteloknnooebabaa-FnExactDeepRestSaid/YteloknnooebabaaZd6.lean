/-
  What the rows of this claim rest on: arrays of bytes, walks of the functions, plain mathematics.
-/
import Derived.Test.YteloknnooebabaaZd5
import Derived.OpenShut
import Derived.ProofKit
import Derived.Test.YteloknnooebabaaRows
import Derived.JoinedOf
set_option maxRecDepth 100000
set_option maxHeartbeats 9000000
set_option linter.unusedVariables false
set_option linter.unusedSimpArgs false
namespace Go.Proofs.Yteloknnooebabaa
open Go Go.RowKit
def moC (p n : Int) (f : Value) : List Value := [.int .i64 p, .int .i64 n, f]
theorem moC_len (p n : Int) (f : Value) : (moC p n f).length = 3 := rfl
theorem moC_at (p n : Int) (f : Value) : (moC p n f).toArray[0]? = some (.int .i64 p) := rfl
theorem moC_at2 (p n : Int) (f : Value) : (moC p n f).toArray[2]? = some f := rfl
theorem moC_all (p n : Int) (f : Value) (h : f.oneCell' = true) : (moC p n f).toArray.all (·.oneCell') = true := by
 have e1 : (Value.int .i64 p).oneCell' = true := rfl
 have e2 : (Value.int .i64 n).oneCell' = true := rfl
 simp only [moC, List.all_toArray, List.all_cons, List.all_nil, e1, e2, h, Bool.and_self]
theorem Try.size118 : (Try.prog.info? 118).map (·.size) = some 3 := by kernel_rfl
theorem built_mo (p n : Int) (fn : Fn) (a b : Array Value) : Try.prog.built 118 [(0, .int .i64 p), (1, .int .i64 n), (2, .func fn a b)] = some (moC p n (.func fn a b)).toArray := by unfold moC; kernel_rfl
attribute [local irreducible] deg resP acH acS stP caC
theorem cmodule_any (p : Nat) (m : Nat → Nat) (w : World) :
 Calls Try.prog 119 #[.agg (caC p m).toArray] w fun e w' => e = .returned (.agg (moC (p : Int) (deg m) (.func (.func 205) #[.agg (caC p m).toArray] #[])).toArray) ∧ Below w.heap.size w w' := by
 have hmf : ∀ (fn : Fn) (first cap : Array Value) (w : World), (Instr.makeFunc fn first cap).run Try.prog w = .ok (.func fn first cap) w := fun _ _ _ _ => rfl
 go_enter Try.func119, Try.ntmps119
 go_upto_region 1 with (fail)
 obtain ⟨W1, hwo⟩ : ∃ v : World, v = ((w.alloc (.cells (caC p m).toArray 119)).alloc (.cells ([.int .i64 0, .int .i64 0, .nilFunc]).toArray 118)) := ⟨_, rfl⟩
 have B0 : Row W1 (w.heap.size) 119 (caC p m).toArray := by subst hwo; have := ((Row.new w 119 (caC p m).toArray).alloc (.cells ([.int .i64 0, .int .i64 0, .nilFunc]).toArray 118)); simpa using this
 have B1 : Row W1 (w.heap.size + 1) 118 ([.int .i64 0, .int .i64 0, .nilFunc]).toArray := by subst hwo; have := (Row.new (w.alloc (.cells (caC p m).toArray 119)) 118 ([.int .i64 0, .int .i64 0, .nilFunc]).toArray); simpa using this
 have hb : Below w.heap.size w W1 := by subst hwo; exact (((Below.refl _ _).alloc (Nat.le_refl _) _).alloc (by simp) _)
 rw [← hwo]
 clear hwo
 have lt_B0 : (w.heap.size) < W1.heap.size := B0.lt
 have lt_B1 : (w.heap.size + 1) < W1.heap.size := B1.lt
 have hbase : w.heap.size ≤ W1.heap.size := hb.size
 refine zq Try.mixed (by kernel_rfl) (by kernel_rfl) (fun v => by (simp only [frL, Act.put, pA, pB, pC, Nat.reduceAdd, Nat.zero_add]; exact rfl))
  (fun L v W2 => Below w.heap.size w W2 ∧ Kx [w.heap.size + 1] W1 W2 ∧ (∃ g : Array Value, g.size = 3 ∧ Row W2 (w.heap.size + 1) 118 (g)) ∧ (L 8 = false → Row W2 (w.heap.size + 1) 118 (([.int .i64 0, .int .i64 0, .nilFunc]).toArray)) ∧ (L 8 = true → Row W2 (w.heap.size + 1) 118 ((moC (p : Int) (deg m) (.func (.func 205) #[.agg (caC p m).toArray] #[])).toArray)) ∧ VF L v [some (.pointer (some ⟨w.heap.size, 0, none⟩)), some (.int .i64 (p : Int)), some (.pointer (some ⟨w.heap.size, 1, none⟩)), some (.agg (zb 64 (m))), some (.int .i64 (deg m)), some (.agg (caC p m).toArray), some (.func (.func 205) #[.agg (caC p m).toArray] #[]), some (.agg (moC (p : Int) (deg m) (.func (.func 205) #[.agg (caC p m).toArray] #[])).toArray), none]) ?_ ?_ ?_
 · intro v hv0
   exact ⟨hb.drew, Kx.start _ _, ⟨_, by simp [moC_len], B1.drew⟩, (fun _ => B1.drew), (fun h => by cases h), VF.start⟩
 · refine (.cons rfl ?_ (.cons rfl ?_ (.cons rfl ?_ (.cons rfl ?_ (.cons rfl ?_ (.cons rfl ?_ (.cons rfl ?_ (.cons rfl ?_ (.cons rfl ?_ (.nil _))))))))))
   all_goals intro L v W2 hd hn ⟨hB, hX, x1, q1, n1, V⟩ K hK
   · go_wp2_with fail
     exact hK _ (.pointer (some ⟨w.heap.size, 0, none⟩)) _ (by simp only [Act.put, pA, pB, pC ]) ⟨hB, hX, x1, q1, n1, V.step 0 rfl⟩
   · have e0 := V.at (zdq hd 0 rfl) rfl
     refine wp_load_rowc 2 _ rfl _ 0 e0 119 _ (B0.kx hX (by simp <;> omega)) (.int .i64 (p : Int)) (caC_at _ _) _ Try.underlying2 rfl ?_
     exact hK _ _ _ rfl ⟨hB, hX, x1, q1, n1, V.step 1 rfl⟩
   · go_wp2_with fail
     exact hK _ (.pointer (some ⟨w.heap.size, 1, none⟩)) _ (by simp only [Act.put, pA, pB, pC ]) ⟨hB, hX, x1, q1, n1, V.step 2 rfl⟩
   · have e2 := V.at (zdq hd 2 rfl) rfl
     refine wp_load_mid 24 _ rfl _ 1 e2 _ _ ((B0.kx hX (by simp <;> omega)).ca) Try.underlying24 rfl (by rw [zl]; exact Try.size24) ?_
     exact hK _ _ _ rfl ⟨hB, hX, x1, q1, n1, V.step 3 rfl⟩
   · have e3 := V.at (zdq hd 3 rfl) rfl
     go_wp2_with (go_at_call 150; refine (degree_any m _).mono ?_; rintro e wy ⟨rfl, hy⟩)
     exact hK _ (.int .i64 (deg m)) _ (by simp only [Act.put, pA, pB, pC, e3]) ⟨hB.trans (hy.mono hB.size), hX.below hy, (let ⟨g, hg, h⟩ := x1; ⟨g, hg, h.zw hy⟩), (fun h => (q1 h).below hy (q1 h).lt), (fun h => (n1 h).below hy (n1 h).lt), V.step 4 rfl⟩
   · refine wp_load_rowv 119 _ rfl _ rfl 119 _ (B0.kx hX (by simp <;> omega)) _ Try.underlying119 rfl 65 Try.size119 (by simp [caC_len]) ?_
     exact hK _ _ _ rfl ⟨hB, hX, x1, q1, n1, V.step 5 rfl⟩
   · have e5 := V.at (zdq hd 5 rfl) rfl
     go_wp2_with fail
     exact hK _ (.func (.func 205) #[.agg (caC p m).toArray] #[]) _ (by simp only [Act.put, pA, pB, pC, e5]) ⟨hB, hX, x1, q1, n1, V.step 6 rfl⟩
   · have e1 := V.at (zdq hd 1 rfl) rfl
     have e4 := V.at (zdq hd 4 rfl) rfl
     have e6 := V.at (zdq hd 6 rfl) rfl
     refine wp_build_of 118 _ rfl (moC (p : Int) (deg m) (.func (.func 205) #[.agg (caC p m).toArray] #[])).toArray (by rw [Array.toList_map]; simp only [e1, e4, e6, Act.eval]; exact built_mo _ _ _ _ _) ?_
     exact hK _ _ _ rfl ⟨hB, hX, x1, q1, n1, V.step 7 rfl⟩
   have e7 := V.at (zdq hd 7 rfl) rfl
   obtain ⟨gz, hgz, hk⟩ := x1
   refine wp_store_rowv 118 _ _ rfl _ rfl ((moC (p : Int) (deg m) (.func (.func 205) #[.agg (caC p m).toArray] #[])).toArray) e7 118 gz hk 3 Try.size118 hgz (by simp [moC_len]) (moC_all _ _ _ rfl) ?_
   exact hK _ undef _ rfl ⟨zr hB (by omega) _, hX.row (by simp) _, ⟨_, by simp [moC_len], hk.row _⟩, (fun h => absurd h (by simp [setL])), (fun _ => hk.row _), V.skip 8 rfl⟩
 intro L v W2 hL ⟨hB, hX, x1, q1, n1, V⟩
 have r1 := n1 (hL 8 (by decide))
 have e0 := V.at (hL 0 (by decide)) rfl
 have e1 := V.at (hL 1 (by decide)) rfl
 have e2 := V.at (hL 2 (by decide)) rfl
 have e3 := V.at (hL 3 (by decide)) rfl
 have e4 := V.at (hL 4 (by decide)) rfl
 have e5 := V.at (hL 5 (by decide)) rfl
 have e6 := V.at (hL 6 (by decide)) rfl
 have e7 := V.at (hL 7 (by decide)) rfl
 clear hL x1 q1 n1 V
 replace B0 := B0.kx hX (by simp <;> omega)
 clear hX
 simp only [Exit.then, e0, e1, e2, e3, e4, e5, e6, e7]
 clear e0 e1 e2 e3 e4 e5 e6 e7
 replace B1 := r1
 clear r1
 replace hb := hB
 clear hB
 clear hbase lt_B0 lt_B1
 go_wp2_with fail
 refine bodyPost_ret (results_row rfl _ _ _ _ _ rfl B1 _ Try.underlying118 rfl (by rw [Try.size118]; rfl)) rfl ⟨rfl, hb⟩
theorem mact_any (p : Nat) (a f m : Nat → Nat) (w : World) (la : ∀ k, k < 64 → a k < p) (hpr : p = 2 ∨ p = 3 ∨ p = 5 ∨ p = 7) (lf : ∀ k, k < 64 → f k < p) (lm : ∀ k, k < 64 → m k < p) (h0 : 0 ≤ deg m) (h9 : deg m ≤ 9) (hdf : deg f < deg m) :
 Calls Try.prog 120 #[.agg (moC (p : Int) (deg m) (.func (.func 205) #[.agg (caC p m).toArray] #[])).toArray, .agg (zb 64 a), .agg (zb 64 f)] w fun e w' => e = .returned (.agg (zb 64 (acS p m a f (deg a + 1).toNat))) ∧ Below w.heap.size w w' := by
 have p0 : 0 < p := by omega
 have p2 : 2 ≤ p := by omega
 have p7 : p ≤ 7 := by omega
 obtain ⟨gb1, gb2⟩ := zdb a
 obtain ⟨NN, hNN⟩ : ∃ NN : Nat, deg a = (NN : Int) - 1 := ⟨(deg a + 1).toNat, by omega⟩
 have HD := Lib.hid hNN
 have hN6 : NN ≤ 64 := by omega
 have HT := Lib.hid (show (deg a + 1).toNat = NN by omega)
 have HST := Lib.hid (fun (x : Nat → Nat) (hx : ∀ k, k < 64 → x k < p) (hxd : deg x < deg m) W => step_any p x m W hpr hx lm h0 h9 hxd)
 have HH := Lib.hid (fun j (hj : j ≤ NN - 1 + 1) => acH_ok (a := a) (n := NN - 1) hpr lm h0 lf hdf j hj)
 have HV := Lib.hid (show zb 64 (acH p m a f (NN - 1) NN) = zb 64 (acS p m a f NN) from by
  rcases Nat.eq_zero_or_pos NN with h | h
  · subst h; unfold acH acS; rfl
  have := zbc (ac_same hpr lm h0 (a := a) (n := NN - 1) lf hdf)
  rw [show NN - 1 + 1 = NN by omega] at this; exact this)
 have HHS := Lib.hid (show ∀ j, acH p m a f (NN - 1) (j + 1) = addK p (stP p m (acH p m a f (NN - 1) j)) (sclP p f (a (NN - 1 - j))) 1 from fun j => by rw [acH])
 have HZ := Lib.hid (show acH p m a f (NN - 1) 0 = fun _ => 0 by unfold acH; rfl)
 clear hNN
 go_enter Try.func120, Try.ntmps120
 go_upto_region 1 with (fail)
 rw [← z64]
 obtain ⟨W1, hwo⟩ : ∃ v : World, v = ((((w.alloc (.cells (moC (p : Int) (deg m) (.func (.func 205) #[.agg (caC p m).toArray] #[])).toArray 118)).alloc (.cells (zb 64 (a)) 24)).alloc (.cells (zb 64 (f)) 24)).alloc (.cells (zb 64 (fun _ => 0)) 24)) := ⟨_, rfl⟩
 have B0 : Row W1 (w.heap.size) 118 (moC (p : Int) (deg m) (.func (.func 205) #[.agg (caC p m).toArray] #[])).toArray := by subst hwo; have := ((((Row.new w 118 (moC (p : Int) (deg m) (.func (.func 205) #[.agg (caC p m).toArray] #[])).toArray).alloc (.cells (zb 64 (a)) 24)).alloc (.cells (zb 64 (f)) 24)).alloc (.cells (zb 64 (fun _ => 0)) 24)); simpa using this
 have B1 : Blk W1 (w.heap.size + 1) 64 24 (a) := by subst hwo; have := (((Blk.new (w.alloc (.cells (moC (p : Int) (deg m) (.func (.func 205) #[.agg (caC p m).toArray] #[])).toArray 118)) 64 24 (a)).alloc (.cells (zb 64 (f)) 24)).alloc (.cells (zb 64 (fun _ => 0)) 24)); simpa using this
 have B2 : Blk W1 (w.heap.size + 1 + 1) 64 24 (f) := by subst hwo; have := ((Blk.new ((w.alloc (.cells (moC (p : Int) (deg m) (.func (.func 205) #[.agg (caC p m).toArray] #[])).toArray 118)).alloc (.cells (zb 64 (a)) 24)) 64 24 (f)).alloc (.cells (zb 64 (fun _ => 0)) 24)); simpa using this
 have B3 : Blk W1 (w.heap.size + 1 + 1 + 1) 64 24 (fun _ => 0) := by subst hwo; have := (Blk.new (((w.alloc (.cells (moC (p : Int) (deg m) (.func (.func 205) #[.agg (caC p m).toArray] #[])).toArray 118)).alloc (.cells (zb 64 (a)) 24)).alloc (.cells (zb 64 (f)) 24)) 64 24 (fun _ => 0)); simpa using this
 have hb : Below w.heap.size w W1 := by subst hwo; exact (((((Below.refl _ _).alloc (Nat.le_refl _) _).alloc (by simp) _).alloc (by simp; omega) _).alloc (by simp; omega) _)
 rw [← hwo]
 clear hwo
 go_upto_region 2 with (first | rw [← z64])
 have lt_B0 := B0.lt
 have lt_B1 := B1.lt
 have lt_B2 := B2.lt
 have lt_B3 := B3.lt
 have lhb := hb.size
 obtain ⟨W2, hwo, hzQ⟩ : ∃ v : World, v = (W1.alloc (.cells (zb 64 (fun _ => 0)) 24)) ∧ Row v (w.heap.size) 118 (moC (p : Int) (deg m) (.func (.func 205) #[.agg (caC p m).toArray] #[])).toArray ∧ Blk v (w.heap.size + 1) 64 24 (a) ∧ Blk v (w.heap.size + 1 + 1) 64 24 (f) ∧ Blk v (w.heap.size + 1 + 1 + 1) 64 24 (fun _ => 0) ∧ Blk v (W1.heap.size) 64 24 (fun _ => 0) ∧ Below w.heap.size w v := ⟨_, rfl, (B0.alloc (.cells (zb 64 (fun _ => 0)) 24)), (B1.alloc (.cells (zb 64 (fun _ => 0)) 24)), (B2.alloc (.cells (zb 64 (fun _ => 0)) 24)), (B3.alloc (.cells (zb 64 (fun _ => 0)) 24)), (Blk.new W1 64 24 (fun _ => 0)), (hb.alloc (by have := hb.size; simp; omega) (.cells (zb 64 (fun _ => 0)) 24))⟩
 rw [← hwo]
 clear hwo B0 B1 B2 B3 hb
 obtain ⟨B0, B1, B2, B3, B4, hb⟩ := hzQ
 obtain ⟨N1, hNN⟩ : ∃ n : Nat, n = W1.heap.size := ⟨_, rfl⟩
 rw [← hNN] at lt_B0 lt_B1 lt_B2 lt_B3 lhb B4 ⊢
 clear hNN
 have zN1_0 := lt_B0
 have zN1_1 := lt_B1
 have zN1_2 := lt_B2
 have zN1_3 := lt_B3
 have zN1 := lhb
 clear lt_B0 lt_B1 lt_B2 lt_B3 lhb
 try simp only [Act.put, pA, pB, pC]
 go_upto_region 99 with (first | (refine zla (.tmp 4) B1 Try.underlying24 Try.size24 ?_) | (go_at_call 150; refine (degree_any a _).mono ?_; rintro e W3 ⟨rfl, hW3⟩; replace B0 := B0.zw hW3; replace B1 := B1.zw hW3; replace B2 := B2.zw hW3; replace B3 := B3.zw hW3; replace B4 := B4.zw hW3; replace hb := (hb).trans (hW3.mono (hb).size); rw [HD.out]))
 go_loopw [8] (fun i wr => ∃ q j : Nat, Hid (q + j = NN) ∧ i = .int .i64 ((q : Int) - 1) ∧ Below w.heap.size w wr ∧ Row wr (w.heap.size) 118 (moC (p : Int) (deg m) (.func (.func 205) #[.agg (caC p m).toArray] #[])).toArray ∧ Blk wr (w.heap.size + 1) 64 24 a ∧ Blk wr (w.heap.size + 1 + 1) 64 24 f ∧ Blk wr (w.heap.size + 1 + 1 + 1) 64 24 (fun _ => 0) ∧ Blk wr (N1) 64 24 (acH p m a f (NN - 1) j)) (fun i _ => (intOf i + 1).toNat)
 case atStart => exact ⟨NN, 0, Lib.hid (by omega), rfl, hb, B0, B1, B2, B3, by rw [HZ.out]; exact B4⟩
 case round =>
  clear hb B0 B1 B2 B3 B4
  obtain ⟨q, j, hqj, rfl, hb, B0, B1, B2, B3, B4⟩ := hrel
  by_cases hq0 : q = 0
  · subst hq0
    have ej : j = NN := by have := hqj.out; omega
    rw [ej] at B4
    clear hqj ej
    go_upto_region 6 with (fail)
    have lt_B0 := B0.lt
    have lt_B1 := B1.lt
    have lt_B2 := B2.lt
    have lt_B3 := B3.lt
    have lt_B4 := B4.lt
    go_wp2_with (first | rw [← z64] | (refine zla (.tmp 7) B4 Try.underlying24 Try.size24 ?_) | (refine zsr (.tmp 6) (.tmp 29) (acH p m a f (NN - 1) NN) B3 Try.size24 ?_; try simp only [Act.put]))
    obtain ⟨W4, hwo, hzQ⟩ : ∃ v : World, v = (wr.setRow (w.heap.size + 1 + 1 + 1) (zb 64 (acH p m a f (NN - 1) NN))) ∧ Row v (w.heap.size) 118 (moC (p : Int) (deg m) (.func (.func 205) #[.agg (caC p m).toArray] #[])).toArray ∧ Blk v (w.heap.size + 1) 64 24 (a) ∧ Blk v (w.heap.size + 1 + 1) 64 24 (f) ∧ Blk v (w.heap.size + 1 + 1 + 1) 64 24 (acH p m a f (NN - 1) NN) ∧ Blk v (N1) 64 24 (acH p m a f (NN - 1) NN) ∧ Below w.heap.size w v := ⟨_, rfl, (B0.rowOther (by omega)), (B1.rowOther (by omega)), (B2.rowOther (by omega)), (B3.row (acH p m a f (NN - 1) NN)), (B4.rowOther (by omega)), (zr hb (by omega) _)⟩
    rw [← hwo]
    clear hwo B0 B1 B2 B3 B4 hb
    obtain ⟨B0, B1, B2, B3, B4, hb⟩ := hzQ
    try simp only [Act.put, pA, pB, pC]
    refine bodyPost_ret (zrb rfl _ _ _ 64 24 5 _ rfl B3 Try.underlying24 Try.size24) rfl ⟨by rw [HV.out, HT.out], hb⟩
  obtain ⟨q, rfl⟩ : ∃ t, q = t + 1 := ⟨q - 1, by omega⟩
  rw [show ((q + 1 : Nat) : Int) - 1 = (q : Int) by omega]
  have hq6 : q < 64 := by have := hqj.out; omega
  obtain ⟨s1, s2, _⟩ := HH.out j (by have := hqj.out; omega)
  obtain ⟨r1, r2, _⟩ := stP_ok hpr lm h0 (x := acH p m a f (NN - 1) j) (fun k _ => s1 k)
  have laq := la q hq6
  obtain ⟨C, hC⟩ : ∃ C, C = a q := ⟨_, rfl⟩
  rw [← hC] at laq
  have HC := Lib.hid hC
  have HS1 := Lib.hid (fun W => HST.out (acH p m a f (NN - 1) j) (fun k _ => s1 k) s2 W)
  have HSC := Lib.hid (fun W => scaled_any p f C W p2 p7 lf laq)
  have HSU := Lib.hid (show ∀ W, Calls Try.prog 177 #[.int .i64 (p : Int), .agg (zb 64 (stP p m (acH p m a f (NN - 1) j))), .agg (zb 64 (sclP p f C))] W fun e w' => e = .returned (.agg (zb 64 (acH p m a f (NN - 1) (j + 1)))) ∧ Below W.heap.size W w' from fun W => by
   have e : acH p m a f (NN - 1) (j + 1) = fun i => (stP p m (acH p m a f (NN - 1) j) i + sclP p f C i) % p := by rw [HHS.out, addK_one, HC.out, show NN - 1 - j = q by have := hqj.out; omega]
   rw [e]; exact sum_any p _ _ W p2 p7 (fun k _ => r1 k) (fun k _ => Nat.mod_lt _ p0))
  clear hC s1 s2 r1 r2
  go_upto_region 5 with (fail)
  have lt_B0 : (w.heap.size) < wr.heap.size := B0.lt
  have lt_B1 : (w.heap.size + 1) < wr.heap.size := B1.lt
  have lt_B2 : (w.heap.size + 1 + 1) < wr.heap.size := B2.lt
  have lt_B3 : (w.heap.size + 1 + 1 + 1) < wr.heap.size := B3.lt
  have lt_B4 : (N1) < wr.heap.size := B4.lt
  have hbase : w.heap.size ≤ wr.heap.size := hb.size
  refine zq Try.mixed (by kernel_rfl) (by kernel_rfl) (fun v => by (simp only [frL, Act.put, pA, pB, pC, Nat.reduceAdd, Nat.zero_add]; exact rfl))
   (fun L v W4 => Below w.heap.size w W4 ∧ Kx [N1] wr W4 ∧ (∃ g, Blk W4 (N1) 64 24 (g)) ∧ (L 14 = false → Blk W4 (N1) 64 24 (acH p m a f (NN - 1) j)) ∧ (L 14 = true → Blk W4 (N1) 64 24 (acH p m a f (NN - 1) (j + 1))) ∧ VF L v [some (.pointer (some ⟨w.heap.size, 0, none⟩)), some (.int .i64 (p : Int)), some (.pointer (some ⟨w.heap.size, 2, none⟩)), some (.func (.func 205) #[.agg (caC p m).toArray] #[]), some (.agg (zb 64 (acH p m a f (NN - 1) j))), some (.agg (zb 64 (stP p m (acH p m a f (NN - 1) j)))), some (.pointer (some ⟨w.heap.size, 0, none⟩)), some (.int .i64 (p : Int)), some (.agg (zb 64 (f))), some (.int .i64 (q : Int)), some (.pointer (some ⟨w.heap.size + 1, q, none⟩)), some (.int .u8 (C : Int)), some (.agg (zb 64 (sclP p f C))), some (.agg (zb 64 (acH p m a f (NN - 1) (j + 1)))), none]) ?_ ?_ ?_
  · intro v hv0
    exact ⟨hb.drew, Kx.start _ _, ⟨_, B4.drew⟩, (fun _ => B4.drew), (fun h => by cases h), VF.start⟩
  · refine (.cons rfl ?_ (.cons rfl ?_ (.cons rfl ?_ (.cons rfl ?_ (.cons rfl ?_ (.cons rfl ?_ (.cons rfl ?_ (.cons rfl ?_ (.cons rfl ?_ (.cons rfl ?_ (.cons rfl ?_ (.cons rfl ?_ (.cons rfl ?_ (.cons rfl ?_ (.cons rfl ?_ (.nil _))))))))))))))))
    all_goals intro L v W4 hd hn ⟨hB, hX, x4, q4, n4, V⟩ K hK
    · go_wp2_with fail
      exact hK _ (.pointer (some ⟨w.heap.size, 0, none⟩)) _ (by simp only [Act.put, pA, pB, pC ]) ⟨hB, hX, x4, q4, n4, V.step 0 rfl⟩
    · have e0 := V.at (zdq hd 0 rfl) rfl
      refine wp_load_rowc 2 _ rfl _ 0 e0 118 _ (B0.kx hX (by simp <;> omega)) (.int .i64 (p : Int)) (moC_at _ _ _) _ Try.underlying2 rfl ?_
      exact hK _ _ _ rfl ⟨hB, hX, x4, q4, n4, V.step 1 rfl⟩
    · go_wp2_with fail
      exact hK _ (.pointer (some ⟨w.heap.size, 2, none⟩)) _ (by simp only [Act.put, pA, pB, pC ]) ⟨hB, hX, x4, q4, n4, V.step 2 rfl⟩
    · have e2 := V.at (zdq hd 2 rfl) rfl
      refine wp_load_rowc 116 _ rfl _ 2 e2 118 _ (B0.kx hX (by simp <;> omega)) (.func (.func 205) #[.agg (caC p m).toArray] #[]) (moC_at2 _ _ _) _ Try.underlying116 rfl ?_
      exact hK _ _ _ rfl ⟨hB, hX, x4, q4, n4, V.step 3 rfl⟩
    · have s4 := q4 (by
       cases hL : L 14 with
       | false => rfl
       | true => exact absurd rfl (hn 14 _ rfl hL ⟨4, .phase⟩ (by simp) rfl))
      refine zlc s4 Try.underlying24 Try.size24 ?_
      exact hK _ _ _ rfl ⟨hB, hX, x4, q4, n4, V.step 4 rfl⟩
    · have e3 := V.at (zdq hd 3 rfl) rfl
      have e4 := V.at (zdq hd 4 rfl) rfl
      go_wp2_with (go_at_call 205; refine (HS1.out _).mono ?_; rintro e wy ⟨rfl, hy⟩)
      exact hK _ (.agg (zb 64 (stP p m (acH p m a f (NN - 1) j)))) _ (by simp only [Act.put, pA, pB, pC, e3, e4]) ⟨hB.trans (hy.mono hB.size), hX.below hy, (let ⟨g, h⟩ := x4; ⟨g, h.zw hy⟩), (fun h => (q4 h).below hy (q4 h).lt), (fun h => (n4 h).below hy (n4 h).lt), V.step 5 rfl⟩
    · go_wp2_with fail
      exact hK _ (.pointer (some ⟨w.heap.size, 0, none⟩)) _ (by simp only [Act.put, pA, pB, pC ]) ⟨hB, hX, x4, q4, n4, V.step 6 rfl⟩
    · have e6 := V.at (zdq hd 6 rfl) rfl
      refine wp_load_rowc 2 _ rfl _ 0 e6 118 _ (B0.kx hX (by simp <;> omega)) (.int .i64 (p : Int)) (moC_at _ _ _) _ Try.underlying2 rfl ?_
      exact hK _ _ _ rfl ⟨hB, hX, x4, q4, n4, V.step 7 rfl⟩
    · refine wp_load_any 24 _ rfl _ rfl 64 24 _ (B2.kx hX (by simp <;> omega)) _ Try.underlying24 rfl Try.size24 ?_
      exact hK _ _ _ rfl ⟨hB, hX, x4, q4, n4, V.step 8 rfl⟩
    · go_wp2_with fail
      exact hK _ (.int .i64 (q : Int)) _ (by simp only [Act.put, pA, pB, pC ]) ⟨hB, hX, x4, q4, n4, V.step 9 rfl⟩
    · have e9 := V.at (zdq hd 9 rfl) rfl
      go_wp2_with fail
      exact hK _ (.pointer (some ⟨w.heap.size + 1, q, none⟩)) _ (by simp only [Act.put, pA, pB, pC, e9]) ⟨hB, hX, x4, q4, n4, V.step 10 rfl⟩
    · have e10 := V.at (zdq hd 10 rfl) rfl
      have cc := (B1.kx hX (by simp <;> omega)).cell (i := q) hq6
      rw [← HC.out] at cc
      go_wp2_with fail
      exact hK _ (.int .u8 (C : Int)) _ (by simp only [Act.put, pA, pB, pC, e10]) ⟨hB, hX, x4, q4, n4, V.step 11 rfl⟩
    · have e7 := V.at (zdq hd 7 rfl) rfl
      have e8 := V.at (zdq hd 8 rfl) rfl
      have e11 := V.at (zdq hd 11 rfl) rfl
      go_wp2_with (go_at_call 178; refine (HSC.out _).mono ?_; rintro e wy ⟨rfl, hy⟩)
      exact hK _ (.agg (zb 64 (sclP p f C))) _ (by simp only [Act.put, pA, pB, pC, e7, e8, e11]) ⟨hB.trans (hy.mono hB.size), hX.below hy, (let ⟨g, h⟩ := x4; ⟨g, h.zw hy⟩), (fun h => (q4 h).below hy (q4 h).lt), (fun h => (n4 h).below hy (n4 h).lt), V.step 12 rfl⟩
    · have e1 := V.at (zdq hd 1 rfl) rfl
      have e5 := V.at (zdq hd 5 rfl) rfl
      have e12 := V.at (zdq hd 12 rfl) rfl
      go_wp2_with (go_at_call 177; refine (HSU.out _).mono ?_; rintro e wy ⟨rfl, hy⟩)
      exact hK _ (.agg (zb 64 (acH p m a f (NN - 1) (j + 1)))) _ (by simp only [Act.put, pA, pB, pC, e1, e5, e12]) ⟨hB.trans (hy.mono hB.size), hX.below hy, (let ⟨g, h⟩ := x4; ⟨g, h.zw hy⟩), (fun h => (q4 h).below hy (q4 h).lt), (fun h => (n4 h).below hy (n4 h).lt), V.step 13 rfl⟩
    have e13 := V.at (zdq hd 13 rfl) rfl
    obtain ⟨gz, hk⟩ := x4
    refine zsb 24 _ _ rfl _ 64 (acH p m a f (NN - 1) (j + 1)) rfl e13 24 gz hk Try.size24 ?_
    exact hK _ undef _ rfl ⟨zr hB (by omega) _, hX.row (by simp) _, ⟨_, hk.row _⟩, (fun h => absurd h (by simp [setL])), (fun _ => hk.row _), V.skip 14 rfl⟩
  intro L v W4 hL ⟨hB, hX, x4, q4, n4, V⟩
  have r4 := n4 (hL 14 (by decide))
  have e0 := V.at (hL 0 (by decide)) rfl
  have e1 := V.at (hL 1 (by decide)) rfl
  have e2 := V.at (hL 2 (by decide)) rfl
  have e3 := V.at (hL 3 (by decide)) rfl
  have e4 := V.at (hL 4 (by decide)) rfl
  have e5 := V.at (hL 5 (by decide)) rfl
  have e6 := V.at (hL 6 (by decide)) rfl
  have e7 := V.at (hL 7 (by decide)) rfl
  have e8 := V.at (hL 8 (by decide)) rfl
  have e9 := V.at (hL 9 (by decide)) rfl
  have e10 := V.at (hL 10 (by decide)) rfl
  have e11 := V.at (hL 11 (by decide)) rfl
  have e12 := V.at (hL 12 (by decide)) rfl
  have e13 := V.at (hL 13 (by decide)) rfl
  clear hL x4 q4 n4 V
  replace B0 := B0.kx hX (by simp <;> omega)
  replace B1 := B1.kx hX (by simp <;> omega)
  replace B2 := B2.kx hX (by simp <;> omega)
  replace B3 := B3.kx hX (by simp <;> omega)
  clear hX
  simp only [Exit.then, e0, e1, e2, e3, e4, e5, e6, e7, e8, e9, e10, e11, e12, e13]
  clear e0 e1 e2 e3 e4 e5 e6 e7 e8 e9 e10 e11 e12 e13
  replace B4 := r4
  clear r4
  replace hb := hB
  clear hB
  clear hbase lt_B0 lt_B1 lt_B2 lt_B3 lt_B4
  go_wp2_with fail
  go_roundw
  case rel => exact ⟨q, j + 1, Lib.hid (by have := hqj.out; omega), rfl, hb, B0, B1, B2, B3, B4⟩
  case measure => simp [intOf] <;> omega
end Go.Proofs.Yteloknnooebabaa
namespace Go.Proofs.Yteloknnooebabaa
open Go Go.RowKit Rg
theorem deg_sqr {p d : Nat} {m : Nat → Nat} (hp : p = 2 ∨ p = 3 ∨ p = 5 ∨ p = 7) (hm : mon m d) (hd : d ≤ 31) : deg (prd p m m) = ((2 * d : Nat) : Int) := by
 have hp0 : 0 < p := by omega
 have up : deg (prd p m m) ≤ ((2 * d : Nat) : Int) := deg_le (by omega) (fun k h1 _ => prd_above hp0 (by rw [hm.1]; omega))
 have h1 := prd_mz p m m (2 * d)
 have hl : lz m d = 1 := (mon_S hm).1
 have h2 : (p : Int) ∣ mz (lz m) (lz m) (2 * d) - lz m d * lz m (2 * d - d) := cs_but (t := fun i => lz m i * lz m (2 * d - i)) (2 * d + 1) (by omega) (fun i hi hne => by
  by_cases h : d < i
  · rw [lz_above hm.1 h, Int.zero_mul]; exact ⟨0, by simp⟩
  rw [lz_above hm.1 (show d < 2 * d - i by omega), Int.mul_zero]; exact ⟨0, by simp⟩)
 rw [show 2 * d - d = d by omega, hl] at h2
 have h3 : prd p m m (2 * d) ≠ 0 := by
  intro h
  rw [h] at h1
  have := Int.dvd_add h1 h2
  have := dvd_small this (by omega) (by omega)
  omega
 rcases deg_spec (prd p m m) with ⟨_, h5⟩ | ⟨j, hj, h4, _, h5⟩
 · exact absurd (h5 _ (by omega)) h3
 by_cases h : j < 2 * d
 · exact absurd (h5 _ h (by omega)) h3
 omega
def lsP (n : Nat) (m : Nat → Nat) : Nat → Nat := addK n m oneP (-1)
def drP (n : Nat) (x m : Nat → Nat) : Nat → Nat := acS n (prd n m m) (lsP n m) (resP n x m) (deg (lsP n m) + 1).toNat
noncomputable def drV (p : Int) (x m : Nat → Nat) : (Nat → Nat) × Int := if codeL p [x, m] = 0 then (if monUp 3 m = true then (if irB p.toNat m = true then (quoP p.toNat (drP p.toNat x m) m, 0) else (fun _ => 0, 5)) else (fun _ => 0, 2)) else (fun _ => 0, 1)
theorem drV_1 {p : Int} {x m : Nat → Nat} (h : codeL p [x, m] = 1) : drV p x m = (fun _ => 0, 1) := by unfold drV; rw [if_neg (by omega)]
theorem drV_2 {p : Int} {x m : Nat → Nat} (h : codeL p [x, m] = 0) (h2 : monUp 3 m = false) : drV p x m = (fun _ => 0, 2) := by unfold drV; rw [if_pos h, if_neg (by rw [h2]; simp)]
theorem drV_5 {n : Nat} {x m : Nat → Nat} (h : codeL (n : Int) [x, m] = 0) (h2 : monUp 3 m = true) (h3 : irB n m = false) : drV (n : Int) x m = (fun _ => 0, 5) := by unfold drV; rw [if_pos h, if_pos h2, Int.toNat_natCast, if_neg (by rw [h3]; simp)]
theorem drV_0 {n : Nat} {x m : Nat → Nat} (h : codeL (n : Int) [x, m] = 0) (h2 : monUp 3 m = true) (h3 : irB n m = true) : drV (n : Int) x m = (quoP n (drP n x m) m, 0) := by unfold drV; rw [if_pos h, if_pos h2, Int.toNat_natCast, if_pos h3]
section
variable {n d : Nat} {x m : Nat → Nat} (hp : n = 2 ∨ n = 3 ∨ n = 5 ∨ n = 7) (lx : ∀ k, k < 64 → x k < n) (lm : ∀ k, k < 64 → m k < n) (hmon : mon m d) (hd1 : 1 ≤ d) (hd3 : d ≤ 3)
include hp lx lm hmon hd1 hd3
theorem dr_ok : (∀ k, drP n x m k < n) ∧ deg (drP n x m) < ((2 * d : Nat) : Int) := by
 have hs := deg_sqr hp hmon (by omega)
 have h0 : 0 ≤ deg m := by rw [hmon.1]; omega
 have hx : deg (resP n x m) < deg (prd n m m) := by
  have := (resP_deg hp lx lm h0).1
  rw [hmon.1] at this; rw [hs]; omega
 obtain ⟨a, b, _⟩ := acS_ok (a := lsP n m) hp (fun k _ => prd_lt (by omega) k) (by rw [hs]; omega) (resP_lt (by omega) lx) hx (deg (lsP n m) + 1).toNat
 rw [hs] at b
 exact ⟨a, b⟩
theorem dr_quo : deg (quoP n (drP n x m) m) < deg m := by
 obtain ⟨a, b⟩ := dr_ok hp lx lm hmon hd1 hd3
 have h0 : 0 ≤ deg m := by rw [hmon.1]; omega
 rcases quoP_deg (p := n) (a := drP n x m) (b := m) (by omega) (fun k _ => a k) h0 with h | h
 · omega
 rw [hmon.1] at h ⊢; omega
theorem dr_again : ∀ k, k < 64 → acS n (prd n m m) (lsP n m) (resP n (resP n x m) (prd n m m)) (deg (lsP n m) + 1).toNat k = drP n x m k := by
 have hs := deg_sqr hp hmon (by omega)
 have h0 : 0 ≤ deg m := by rw [hmon.1]; omega
 have hs0 : 0 ≤ deg (prd n m m) := by rw [hs]; omega
 have ls : ∀ k, k < 64 → prd n m m k < n := fun k _ => prd_lt (by omega) k
 have lr := resP_lt (p := n) (b := m) (by omega) lx
 have hx : deg (resP n x m) < deg (prd n m m) := by
  have := (resP_deg hp lx lm h0).1
  rw [hmon.1] at this; rw [hs]; omega
 obtain ⟨a1, a2, a3⟩ := acS_ok (a := lsP n m) hp ls hs0 lr hx (deg (lsP n m) + 1).toNat
 obtain ⟨b1, b2, b3⟩ := acS_ok (a := lsP n m) hp ls hs0 (resP_lt (b := prd n m m) (by omega) lr) (resP_deg hp lr ls hs0).1 (deg (lsP n m) + 1).toNat
 refine res_sameN hp (fun k _ => b1 k) (fun k _ => a1 k) ls hs0 b2 a2 (cl_eq.1 (?_ : (rs (acS n (prd n m m) (lsP n m) (resP n (resP n x m) (prd n m m)) (deg (lsP n m) + 1).toNat) : Res n (lz (prd n m m))) = rs (acS n (prd n m m) (lsP n m) (resP n x m) (deg (lsP n m) + 1).toNat)))
 rw [b3, a3, rs_res hp lr ls hs0]
end
attribute [local irreducible] deg resP acS caC irB irV monUp monB quoP prd drP lsP oneP addK
theorem spec_DeepRest_any (p : Int) (x m : Nat → Nat) (hx : byte x) (hm : byte m) (w : World) :
 Calls Try.prog 50 #[.int .i64 p, .agg (zb 64 x), .agg (zb 64 m)] w fun e w' => e = .returned (.tuple #[.agg (zb 64 (drV p x m).1), .int .i64 (drV p x m).2]) ∧ Below w.heap.size w w' := by
 go_enter Try.func50, Try.ntmps50
 go_upto_region 1 with (fail)
 rw [← z64]
 obtain ⟨W1, hwo⟩ : ∃ v : World, v = (((w.alloc (.cells (zb 64 (x)) 24)).alloc (.cells (zb 64 (m)) 24)).alloc (.cells (zb 64 (fun _ => 0)) 24)) := ⟨_, rfl⟩
 have B0 : Blk W1 (w.heap.size) 64 24 (x) := by subst hwo; have := (((Blk.new w 64 24 (x)).alloc (.cells (zb 64 (m)) 24)).alloc (.cells (zb 64 (fun _ => 0)) 24)); simpa using this
 have B1 : Blk W1 (w.heap.size + 1) 64 24 (m) := by subst hwo; have := ((Blk.new (w.alloc (.cells (zb 64 (x)) 24)) 64 24 (m)).alloc (.cells (zb 64 (fun _ => 0)) 24)); simpa using this
 have B2 : Blk W1 (w.heap.size + 1 + 1) 64 24 (fun _ => 0) := by subst hwo; have := (Blk.new ((w.alloc (.cells (zb 64 (x)) 24)).alloc (.cells (zb 64 (m)) 24)) 64 24 (fun _ => 0)); simpa using this
 have hb : Below w.heap.size w W1 := by subst hwo; exact ((((Below.refl _ _).alloc (Nat.le_refl _) _).alloc (by simp) _).alloc (by simp; omega) _)
 rw [← hwo]
 clear hwo
 rcases codeL_two p [x, m] with hc | hc
 · obtain ⟨n, hn, n2, n7⟩ := okP_nat (codeL_zero hc).1
   subst hn
   have lx := lt_of_code hc (f := x) (by simp)
   have lm := lt_of_code hc (f := m) (by simp)
   have hpr := prime_of hc
   cases hm3 : monUp 3 m with
   | false =>
    have HV := Lib.hid (drV_2 hc hm3)
    go_upto_region 3 with (first | (refine zla (.tmp 4) B0 Try.underlying24 Try.size24 ?_) | (refine zla (.tmp 5) B1 Try.underlying24 Try.size24 ?_) | (refine wpList_build_polys rfl 40 _ [x, m] rfl 24 rfl Try.underlying40 Try.elem24 (by simp) (by simp) rfl ?_; intro wa hwa hps hba; clear hwa) | (go_at_call 122; refine (l01Code_any (n : Int) [x, m] (by simp [hx, hm]) _ _ hps (by simp)).mono ?_; rintro e W2 ⟨rfl, hbb⟩; rw [hc]))
    have hBB : Below W1.heap.size W1 W2 := hba.trans (hbb.mono hba.size)
    replace B0 := B0.zw hBB
    replace B1 := B1.zw hBB
    replace B2 := B2.zw hBB
    replace hb := hb.trans (hBB.mono hb.size)
    clear hBB hba hbb hps
    clear hc
    rw [monUp_B] at hm3
    cases hmo : monB m with
    | false =>
     go_upto_region 4 with (first | (refine zla (.tmp 5) B1 Try.underlying24 Try.size24 ?_) | (go_at_call 123; refine (l01Monic_any m hm _).mono ?_; rintro e W3 ⟨rfl, hW3⟩; replace B0 := B0.zw hW3; replace B1 := B1.zw hW3; replace B2 := B2.zw hW3; replace hb := (hb).trans (hW3.mono (hb).size); rw [hmo]))
     have lt_B0 := B0.lt
     have lt_B1 := B1.lt
     have lt_B2 := B2.lt
     go_wp2_with (first | rw [← z64] | (refine zsr (.tmp 6) (.tmp 31) (fun _ => 0) B2 Try.size24 ?_; try simp only [Act.put]; go_wp2_with fail))
     obtain ⟨W4, hwo, hzQ⟩ : ∃ v : World, v = (W3.setRow (w.heap.size + 1 + 1) (zb 64 (fun _ => 0))) ∧ Blk v (w.heap.size) 64 24 (x) ∧ Blk v (w.heap.size + 1) 64 24 (m) ∧ Blk v (w.heap.size + 1 + 1) 64 24 (fun _ => 0) ∧ Below w.heap.size w v := ⟨_, rfl, (B0.rowOther (by omega)), (B1.rowOther (by omega)), (B2.row (fun _ => 0)), (zr hb (by omega) _)⟩
     rw [← hwo]
     clear hwo B0 B1 B2 hb
     obtain ⟨B0, B1, B2, hb⟩ := hzQ
     try simp only [Act.put, pA, pB, pC]
     refine bodyPost_ret (results_bt rfl _ _ _ 64 24 5 _ rfl B2 Try.underlying24 Try.size24) rfl ⟨by first | (rw [HV.out]; rfl) | rw [HV.out], hb⟩
    | true =>
     have hnr : ¬ (1 ≤ deg m ∧ deg m ≤ 3) := by intro h; rw [hmo] at hm3; simp at hm3; omega
     go_upto_region 4 with (first | (refine zla (.tmp 5) B1 Try.underlying24 Try.size24 ?_) | (go_at_call 123; refine (l01Monic_any m hm _).mono ?_; rintro e W3 ⟨rfl, hW3⟩; replace B0 := B0.zw hW3; replace B1 := B1.zw hW3; replace B2 := B2.zw hW3; replace hb := (hb).trans (hW3.mono (hb).size); rw [hmo]) | (refine zlg rfl 24 (.tmp 5) rfl _ rfl 64 24 _ (B1) _ Try.underlying24 rfl Try.size24 ?_) | (go_at_call 124; refine (l01Deg_any m _).mono ?_; rintro e W4 ⟨rfl, hW4⟩; replace B0 := B0.zw hW4; replace B1 := B1.zw hW4; replace B2 := B2.zw hW4; replace hb := (hb).trans (hW4.mono (hb).size)) | (go_at_call 98; refine (l01In_no (deg m) 1 3 hnr _).mono ?_; rintro e wS ⟨rfl, rfl⟩))
     have lt_B0 := B0.lt
     have lt_B1 := B1.lt
     have lt_B2 := B2.lt
     go_wp2_with (first | rw [← z64] | (refine zsr (.tmp 6) (.tmp 31) (fun _ => 0) B2 Try.size24 ?_; try simp only [Act.put]; go_wp2_with fail))
     obtain ⟨W5, hwo, hzQ⟩ : ∃ v : World, v = (W4.setRow (w.heap.size + 1 + 1) (zb 64 (fun _ => 0))) ∧ Blk v (w.heap.size) 64 24 (x) ∧ Blk v (w.heap.size + 1) 64 24 (m) ∧ Blk v (w.heap.size + 1 + 1) 64 24 (fun _ => 0) ∧ Below w.heap.size w v := ⟨_, rfl, (B0.rowOther (by omega)), (B1.rowOther (by omega)), (B2.row (fun _ => 0)), (zr hb (by omega) _)⟩
     rw [← hwo]
     clear hwo B0 B1 B2 hb
     obtain ⟨B0, B1, B2, hb⟩ := hzQ
     try simp only [Act.put, pA, pB, pC]
     refine bodyPost_ret (results_bt rfl _ _ _ 64 24 5 _ rfl B2 Try.underlying24 Try.size24) rfl ⟨by first | (rw [HV.out]; rfl) | rw [HV.out], hb⟩
   | true =>
    obtain ⟨d, hmon, hd1, hd5⟩ := mon_up hm3
    have h0 : 0 ≤ deg m := by rw [hmon.1]; omega
    have h12 : deg m ≤ 12 := by rw [hmon.1]; omega
    have hmo : monB m = true := by
     have h5 := hm3
     rw [monUp_B] at h5
     simp only [Bool.and_eq_true, decide_eq_true_eq] at h5
     exact h5.1
    have hyr : 1 ≤ deg m ∧ deg m ≤ 3 := by rw [hmon.1]; omega
    cases hu : irB n m with
    | false =>
     have HV := Lib.hid (drV_5 hc hm3 hu)
     have HI := Lib.hid (fun W => l01Irreducible_any n m d W hpr lm hmon (by omega))
     rw [hu] at HI
     go_upto_region 3 with (first | (refine zla (.tmp 4) B0 Try.underlying24 Try.size24 ?_) | (refine zla (.tmp 5) B1 Try.underlying24 Try.size24 ?_) | (refine wpList_build_polys rfl 40 _ [x, m] rfl 24 rfl Try.underlying40 Try.elem24 (by simp) (by simp) rfl ?_; intro wa hwa hps hba; clear hwa) | (go_at_call 122; refine (l01Code_any (n : Int) [x, m] (by simp [hx, hm]) _ _ hps (by simp)).mono ?_; rintro e W2 ⟨rfl, hbb⟩; rw [hc]))
     have hBB : Below W1.heap.size W1 W2 := hba.trans (hbb.mono hba.size)
     replace B0 := B0.zw hBB
     replace B1 := B1.zw hBB
     replace B2 := B2.zw hBB
     replace hb := hb.trans (hBB.mono hb.size)
     clear hBB hba hbb hps
     clear hc
     go_upto_region 5 with (first | (refine zla (.tmp 5) B1 Try.underlying24 Try.size24 ?_) | (go_at_call 123; refine (l01Monic_any m hm _).mono ?_; rintro e W3 ⟨rfl, hW3⟩; replace B0 := B0.zw hW3; replace B1 := B1.zw hW3; replace B2 := B2.zw hW3; replace hb := (hb).trans (hW3.mono (hb).size); rw [hmo]) | (refine zlg rfl 24 (.tmp 5) rfl _ rfl 64 24 _ (B1) _ Try.underlying24 rfl Try.size24 ?_) | (go_at_call 124; refine (l01Deg_any m _).mono ?_; rintro e W4 ⟨rfl, hW4⟩; replace B0 := B0.zw hW4; replace B1 := B1.zw hW4; replace B2 := B2.zw hW4; replace hb := (hb).trans (hW4.mono (hb).size)) | (go_at_call 98; refine (l01In_yes (deg m) 1 3 hyr _).mono ?_; rintro e wS ⟨rfl, rfl⟩))
     go_upto_region 6 with (first | (refine zla (.tmp 5) B1 Try.underlying24 Try.size24 ?_) | (go_at_call 125; refine (HI.out _).mono ?_; rintro e W5 ⟨rfl, hW5⟩; replace B0 := B0.zw hW5; replace B1 := B1.zw hW5; replace B2 := B2.zw hW5; replace hb := (hb).trans (hW5.mono (hb).size)))
     go_wp2_with (first | rw [← z64] | (refine zsr (.tmp 6) (.tmp 37) (fun _ => 0) B2 Try.size24 ?_; try simp only [Act.put]; go_wp2_with fail))
     obtain ⟨W6, hwo, hzQ⟩ : ∃ v : World, v = (W5.setRow (w.heap.size + 1 + 1) (zb 64 (fun _ => 0))) ∧ Blk v (w.heap.size) 64 24 (x) ∧ Blk v (w.heap.size + 1) 64 24 (m) ∧ Blk v (w.heap.size + 1 + 1) 64 24 (fun _ => 0) ∧ Below w.heap.size w v := ⟨_, rfl, (B0.rowOther (by omega)), (B1.rowOther (by omega)), (B2.row (fun _ => 0)), (zr hb (by omega) _)⟩
     rw [← hwo]
     clear hwo B0 B1 B2 hb
     obtain ⟨B0, B1, B2, hb⟩ := hzQ
     try simp only [Act.put, pA, pB, pC]
     refine bodyPost_ret (results_bt rfl _ _ _ 64 24 5 _ rfl B2 Try.underlying24 Try.size24) rfl ⟨by first | (rw [HV.out]; rfl) | rw [HV.out], hb⟩
    | true =>
     have HV := Lib.hid (drV_0 hc hm3 hu)
     have HI := Lib.hid (fun W => l01Irreducible_any n m d W hpr lm hmon (by omega))
     rw [hu] at HI
     have hd3 : d ≤ 3 := by omega
     have hsq := deg_sqr hpr hmon (by omega)
     have ls : ∀ k, k < 64 → prd n m m k < n := fun k _ => prd_lt (by omega) k
     have hs0 : 0 ≤ deg (prd n m m) := by rw [hsq]; omega
     have hs9 : deg (prd n m m) ≤ 9 := by rw [hsq]; omega
     have lr := resP_lt (p := n) (b := m) (by omega) lx
     have hxs : deg (resP n x m) < deg (prd n m m) := by
      have := (resP_deg hpr lx lm h0).1
      rw [hmon.1] at this; rw [hsq]; omega
     have l1 : ∀ k, k < 64 → oneP k < n := fun k _ => by unfold oneP; split <;> omega
     have lls : ∀ k, k < 64 → lsP n m k < n := fun k _ => by unfold lsP; exact addK_lt (by omega) k
     obtain ⟨ldr, _⟩ := dr_ok hpr lx lm hmon hd1 hd3
     have HV2 := Lib.hid (show (drV (n : Int) x m).2 = 0 by rw [HV.out])
     have HE := Lib.hid (show zb 64 (drV (n : Int) x m).1 = zb 64 (quoP n (drP n x m) m) by rw [HV.out])
        
     have HTM := Lib.hid (fun W => l01Times_any n m m W n2 n7 lm lm)
     have HTV := Lib.hid (show tmV n m m = (prd n m m, true) from if_pos (by rw [hmon.1]; omega))
     have HAD := Lib.hid (show ∀ W, Calls Try.prog 127 #[.int .i64 (n : Int), .agg (zb 64 m), .agg (zb 64 oneP), .int .i64 (-1)] W fun e w' => e = .returned (.agg (zb 64 (lsP n m))) ∧ Below W.heap.size W w' from fun W => by
      have h := l01Add_any n m oneP (-1) W n2 n7 (by omega) (by omega) lm l1
      unfold lsP; exact h)
     have HMO := Lib.hid (fun W => l01Mod_any n x m W hpr lx lm h0)
     have HAC := Lib.hid (show ∀ W, Calls Try.prog 117 #[.int .i64 (n : Int), .agg (zb 64 (lsP n m)), .agg (zb 64 (resP n x m)), .agg (zb 64 (prd n m m))] W fun e w' => e = .returned (.agg (zb 64 (drP n x m))) ∧ Below W.heap.size W w' from fun W => by
      have h := l04Act_any n (lsP n m) (resP n x m) (prd n m m) W hpr lls lr ls hs0
      rw [zbc (dr_again hpr lx lm hmon hd1 hd3)] at h
      exact h)
     have HQR := Lib.hid (fun W => l01Divide_any n (drP n x m) m W hpr (fun k _ => ldr k) lm h0)
     have HMQ := Lib.hid (show ∀ W, Calls Try.prog 129 #[.int .i64 (n : Int), .agg (zb 64 (quoP n (drP n x m) m)), .agg (zb 64 m)] W fun e w' => e = .returned (.agg (zb 64 (quoP n (drP n x m) m))) ∧ Below W.heap.size W w' from fun W => by
      have lq : ∀ k, k < 64 → quoP n (drP n x m) m k < n := fun k _ => quoP_lt (by omega) k
      have h := l01Mod_any n (quoP n (drP n x m) m) m W hpr lq lm h0
      rw [zbc (resP_small (by omega) lq (dr_quo hpr lx lm hmon hd1 hd3))] at h
      exact h)
     clear hm3 hu hmon hsq ldr hxs hs0 hs9 h12
     go_upto_region 3 with (first | (refine zla (.tmp 4) B0 Try.underlying24 Try.size24 ?_) | (refine zla (.tmp 5) B1 Try.underlying24 Try.size24 ?_) | (refine wpList_build_polys rfl 40 _ [x, m] rfl 24 rfl Try.underlying40 Try.elem24 (by simp) (by simp) rfl ?_; intro wa hwa hps hba; clear hwa) | (go_at_call 122; refine (l01Code_any (n : Int) [x, m] (by simp [hx, hm]) _ _ hps (by simp)).mono ?_; rintro e W2 ⟨rfl, hbb⟩; rw [hc]))
     have hBB : Below W1.heap.size W1 W2 := hba.trans (hbb.mono hba.size)
     replace B0 := B0.zw hBB
     replace B1 := B1.zw hBB
     replace B2 := B2.zw hBB
     replace hb := hb.trans (hBB.mono hb.size)
     clear hBB hba hbb hps
     clear hc
     go_upto_region 5 with (first | (refine zla (.tmp 5) B1 Try.underlying24 Try.size24 ?_) | (go_at_call 123; refine (l01Monic_any m hm _).mono ?_; rintro e W3 ⟨rfl, hW3⟩; replace B0 := B0.zw hW3; replace B1 := B1.zw hW3; replace B2 := B2.zw hW3; replace hb := (hb).trans (hW3.mono (hb).size); rw [hmo]) | (refine zlg rfl 24 (.tmp 5) rfl _ rfl 64 24 _ (B1) _ Try.underlying24 rfl Try.size24 ?_) | (go_at_call 124; refine (l01Deg_any m _).mono ?_; rintro e W4 ⟨rfl, hW4⟩; replace B0 := B0.zw hW4; replace B1 := B1.zw hW4; replace B2 := B2.zw hW4; replace hb := (hb).trans (hW4.mono (hb).size)) | (go_at_call 98; refine (l01In_yes (deg m) 1 3 hyr _).mono ?_; rintro e wS ⟨rfl, rfl⟩))
     go_upto_region 7 with (first | (refine zla (.tmp 5) B1 Try.underlying24 Try.size24 ?_) | (go_at_call 125; refine (HI.out _).mono ?_; rintro e W5 ⟨rfl, hW5⟩; replace B0 := B0.zw hW5; replace B1 := B1.zw hW5; replace B2 := B2.zw hW5; replace hb := (hb).trans (hW5.mono (hb).size)))
     clear HI
     have lt_B0 := B0.lt
     have lt_B1 := B1.lt
     have lt_B2 := B2.lt
     go_upto_region 8 with (first | rw [← z64] | (refine zla (.tmp 5) B1 Try.underlying24 Try.size24 ?_) | (refine zla (.tmp 5) B1 Try.underlying24 Try.size24 ?_) | (go_at_call 126; refine (HTM.out _).mono ?_; rintro e W6 ⟨rfl, hW6⟩; replace B0 := B0.zw hW6; replace B1 := B1.zw hW6; replace B2 := B2.zw hW6; replace hb := (hb).trans (hW6.mono (hb).size); rw [HTV.out]) | (refine wpList_store_blk rfl 24 (.tmp 8) (.tmp 43) rfl _ 64 (prd n m m) rfl rfl 24 _ ((Blk.new W6 64 24 (fun _ => 0))) Try.size24 ?_; try simp only [Act.put]; go_upto_region 8 with (fail)))
     have lt_B0 := B0.lt
     have lt_B1 := B1.lt
     have lt_B2 := B2.lt
     have lhb := hb.size
     obtain ⟨W7, hwo, hzQ⟩ : ∃ v : World, v = ((W6.alloc (.cells (zb 64 (fun _ => 0)) 24)).setRow (W6.heap.size) (zb 64 (prd n m m))) ∧ Blk v (w.heap.size) 64 24 (x) ∧ Blk v (w.heap.size + 1) 64 24 (m) ∧ Blk v (w.heap.size + 1 + 1) 64 24 (fun _ => 0) ∧ Blk v (W6.heap.size) 64 24 (prd n m m) ∧ Below w.heap.size w v := ⟨_, rfl, ((B0.alloc (.cells (zb 64 (fun _ => 0)) 24)).rowOther (by omega)), ((B1.alloc (.cells (zb 64 (fun _ => 0)) 24)).rowOther (by omega)), ((B2.alloc (.cells (zb 64 (fun _ => 0)) 24)).rowOther (by omega)), ((Blk.new W6 64 24 (fun _ => 0)).row (prd n m m)), (zr (hb.alloc (by have := hb.size; simp; omega) (.cells (zb 64 (fun _ => 0)) 24)) (by omega) _)⟩
     rw [← hwo]
     clear hwo B0 B1 B2 hb
     obtain ⟨B0, B1, B2, B3, hb⟩ := hzQ
     obtain ⟨N1, hNN⟩ : ∃ n : Nat, n = W6.heap.size := ⟨_, rfl⟩
     rw [← hNN] at lt_B0 lt_B1 lt_B2 lhb B3 ⊢
     clear hNN
     have zN1_0 := lt_B0
     have zN1_1 := lt_B1
     have zN1_2 := lt_B2
     have zN1 := lhb
     clear lt_B0 lt_B1 lt_B2 lhb
     try simp only [Act.put, pA, pB, pC]
     have lt_B0 : (w.heap.size) < W7.heap.size := B0.lt
     have lt_B1 : (w.heap.size + 1) < W7.heap.size := B1.lt
     have lt_B2 : (w.heap.size + 1 + 1) < W7.heap.size := B2.lt
     have lt_B3 : (N1) < W7.heap.size := B3.lt
     refine zq Try.mixed (by kernel_rfl) (by kernel_rfl) (fun v => by (simp only [frL, Act.put, pA, pB, pC, Nat.reduceAdd, Nat.zero_add]; exact rfl))
      (fun L v W8 => Below W7.heap.size W7 W8 ∧ (L 11 = true → AF (v 11) W8 W7.heap.size 64 24) ∧ (L 12 = true → PF (v 11) W8 W7.heap.size 64 24 (drP n x m)) ∧ VF L v [some (.int .i64 (n : Int)), some (.int .i64 (n : Int)), some (.agg (zb 64 (m))), some (.agg (zb 64 (oneP))), some (.agg (zb 64 (lsP n m))), some (.int .i64 (n : Int)), some (.agg (zb 64 (x))), some (.agg (zb 64 (m))), some (.agg (zb 64 (resP n x m))), some (.agg (zb 64 (prd n m m))), some (.agg (zb 64 (drP n x m))), none, none]) ?_ ?_ ?_
     · intro v hv0
       exact ⟨(Below.refl _ W7).drew, (fun h => by cases h), (fun h => by cases h), VF.start⟩
     · refine (.cons rfl ?_ (.cons rfl ?_ (.cons rfl ?_ (.cons rfl ?_ (.cons rfl ?_ (.cons rfl ?_ (.cons rfl ?_ (.cons rfl ?_ (.cons rfl ?_ (.cons rfl ?_ (.cons rfl ?_ (.cons rfl ?_ (.cons rfl ?_ (.nil _))))))))))))))
       all_goals intro L v W8 hd hn ⟨hY, h11, h12, V⟩ K hK
       · go_wp2_with fail
         exact hK _ (.int .i64 (n : Int)) _ (by simp only [Act.put, pA, pB, pC ]) ⟨hY, h11, h12, V.step 0 rfl⟩
       · go_wp2_with fail
         exact hK _ (.int .i64 (n : Int)) _ (by simp only [Act.put, pA, pB, pC ]) ⟨hY, h11, h12, V.step 1 rfl⟩
       · refine zlc (B1.zw hY) Try.underlying24 Try.size24 ?_
         exact hK _ _ _ rfl ⟨hY, h11, h12, V.step 2 rfl⟩
       · go_wp2_with (go_at_call 128; refine (l01One_any _).mono ?_; rintro e wy ⟨rfl, hy⟩)
         exact hK _ (.agg (zb 64 (oneP))) _ (by simp only [Act.put, pA, pB, pC ]) ⟨hY.trans (hy.mono hY.size), (fun h => (h11 h).below hy), (fun h => (h12 h).below hy), V.step 3 rfl⟩
       · have e1 := V.at (zdq hd 1 rfl) rfl
         have e2 := V.at (zdq hd 2 rfl) rfl
         have e3 := V.at (zdq hd 3 rfl) rfl
         go_wp2_with (go_at_call 127; refine (HAD.out _).mono ?_; rintro e wy ⟨rfl, hy⟩)
         exact hK _ (.agg (zb 64 (lsP n m))) _ (by simp only [Act.put, pA, pB, pC, e1, e2, e3]) ⟨hY.trans (hy.mono hY.size), (fun h => (h11 h).below hy), (fun h => (h12 h).below hy), V.step 4 rfl⟩
       · go_wp2_with fail
         exact hK _ (.int .i64 (n : Int)) _ (by simp only [Act.put, pA, pB, pC ]) ⟨hY, h11, h12, V.step 5 rfl⟩
       · refine zlc (B0.zw hY) Try.underlying24 Try.size24 ?_
         exact hK _ _ _ rfl ⟨hY, h11, h12, V.step 6 rfl⟩
       · refine zlc (B1.zw hY) Try.underlying24 Try.size24 ?_
         exact hK _ _ _ rfl ⟨hY, h11, h12, V.step 7 rfl⟩
       · have e5 := V.at (zdq hd 5 rfl) rfl
         have e6 := V.at (zdq hd 6 rfl) rfl
         have e7 := V.at (zdq hd 7 rfl) rfl
         go_wp2_with (go_at_call 129; refine (HMO.out _).mono ?_; rintro e wy ⟨rfl, hy⟩)
         exact hK _ (.agg (zb 64 (resP n x m))) _ (by simp only [Act.put, pA, pB, pC, e5, e6, e7]) ⟨hY.trans (hy.mono hY.size), (fun h => (h11 h).below hy), (fun h => (h12 h).below hy), V.step 8 rfl⟩
       · refine zlc (B3.zw hY) Try.underlying24 Try.size24 ?_
         exact hK _ _ _ rfl ⟨hY, h11, h12, V.step 9 rfl⟩
       · have e0 := V.at (zdq hd 0 rfl) rfl
         have e4 := V.at (zdq hd 4 rfl) rfl
         have e8 := V.at (zdq hd 8 rfl) rfl
         have e9 := V.at (zdq hd 9 rfl) rfl
         go_wp2_with (go_at_call 117; refine (HAC.out _).mono ?_; rintro e wy ⟨rfl, hy⟩)
         exact hK _ (.agg (zb 64 (drP n x m))) _ (by simp only [Act.put, pA, pB, pC, e0, e4, e8, e9]) ⟨hY.trans (hy.mono hY.size), (fun h => (h11 h).below hy), (fun h => (h12 h).below hy), V.step 10 rfl⟩
       · go_wp2_with fail
         rw [← z64]
         exact hK _ (.pointer (some ⟨W8.heap.size, 0, none⟩)) _ (by simp only [Act.put, pA, pB, pC ]) ⟨hY.alloc hY.size _, (fun _ => (PF.new W8 64 24 _ hY.size).af), (fun h => absurd rfl (hn 12 _ rfl h ⟨11, .data⟩ (by simp) rfl)), V.skip 11 rfl⟩
       have e10 := V.at (zdq hd 10 rfl) rfl
       obtain ⟨gz, b, ea, hN, hk⟩ := (h11 (zdq hd 11 rfl)).out
       refine zsb 24 _ _ rfl b 64 (drP n x m) ea e10 24 gz hk Try.size24 ?_
       exact hK _ undef _ rfl ⟨zr hY hN _, (fun h => (h11 h).row hk), (fun _ => by rw [show updV v 12 undef 11 = v 11 from rfl, ea]; exact PF.row hk hN _), V.skip 12 rfl⟩
     intro L v W8 hL ⟨hY, h11, h12, V⟩
     obtain ⟨k8_11, e11, hNk8_11, hk8_11⟩ := (h12 (hL 12 (by decide))).out
     have e0 := V.at (hL 0 (by decide)) rfl
     have e1 := V.at (hL 1 (by decide)) rfl
     have e2 := V.at (hL 2 (by decide)) rfl
     have e3 := V.at (hL 3 (by decide)) rfl
     have e4 := V.at (hL 4 (by decide)) rfl
     have e5 := V.at (hL 5 (by decide)) rfl
     have e6 := V.at (hL 6 (by decide)) rfl
     have e7 := V.at (hL 7 (by decide)) rfl
     have e8 := V.at (hL 8 (by decide)) rfl
     have e9 := V.at (hL 9 (by decide)) rfl
     have e10 := V.at (hL 10 (by decide)) rfl
     clear hL h11 h12 V
     replace B0 := B0.zw hY
     replace B1 := B1.zw hY
     replace B2 := B2.zw hY
     replace B3 := B3.zw hY
     replace hb := hb.trans (hY.mono hb.size)
     clear hY
     simp only [Exit.then, e11, e0, e1, e2, e3, e4, e5, e6, e7, e8, e9, e10]
     clear e11 e0 e1 e2 e3 e4 e5 e6 e7 e8 e9 e10
     have B4 := hk8_11
     clear hk8_11
     have zk8_11_0 : w.heap.size < k8_11 := by omega
     have zk8_11_1 : w.heap.size + 1 < k8_11 := by omega
     have zk8_11_2 : w.heap.size + 1 + 1 < k8_11 := by omega
     have zk8_11_3 : N1 < k8_11 := by omega
     clear lt_B0 lt_B1 lt_B2 lt_B3
     go_upto_region 9 with (fail)
     have lt_B0 := B0.lt
     have lt_B1 := B1.lt
     have lt_B2 := B2.lt
     have lt_B3 := B3.lt
     have lt_B4 := B4.lt
     go_upto_region 10 with (first | rw [← z64] | (refine zla (.tmp 10) B4 Try.underlying24 Try.size24 ?_) | (refine zla (.tmp 5) B1 Try.underlying24 Try.size24 ?_) | (go_at_call 130; refine (HQR.out _).mono ?_; rintro e W9 ⟨rfl, hW9⟩; replace B0 := B0.zw hW9; replace B1 := B1.zw hW9; replace B2 := B2.zw hW9; replace B3 := B3.zw hW9; replace B4 := B4.zw hW9; replace hb := (hb).trans (hW9.mono (hb).size)) | (refine wpList_store_blk rfl 24 (.tmp 11) (.tmp 61) rfl _ 64 (quoP n (drP n x m) m) rfl rfl 24 _ (((Blk.new W9 64 24 (fun _ => 0)).alloc (.cells (zb 64 (fun _ => 0)) 24))) Try.size24 ?_; try simp only [Act.put]) | (refine wpList_store_blk rfl 24 (.tmp 12) (.tmp 62) rfl _ 64 (resP n (drP n x m) m) rfl rfl 24 _ (((show Blk ((W9.alloc (.cells (zb 64 (fun _ => 0)) 24)).alloc (.cells (zb 64 (fun _ => 0)) 24)) (W9.heap.size + 1) 64 24 (fun _ => 0) by have := Blk.new (W9.alloc (.cells (zb 64 (fun _ => 0)) 24)) 64 24 (fun _ => 0); simpa using this).rowOther (by omega))) Try.size24 ?_; try simp only [Act.put]))
     have lt_B0 := B0.lt
     have lt_B1 := B1.lt
     have lt_B2 := B2.lt
     have lt_B3 := B3.lt
     have lt_B4 := B4.lt
     have lhb := hb.size
     obtain ⟨W10, hwo, hzQ⟩ : ∃ v : World, v = ((((W9.alloc (.cells (zb 64 (fun _ => 0)) 24)).alloc (.cells (zb 64 (fun _ => 0)) 24)).setRow (W9.heap.size) (zb 64 (quoP n (drP n x m) m))).setRow (W9.heap.size + 1) (zb 64 (resP n (drP n x m) m))) ∧ Blk v (w.heap.size) 64 24 (x) ∧ Blk v (w.heap.size + 1) 64 24 (m) ∧ Blk v (w.heap.size + 1 + 1) 64 24 (fun _ => 0) ∧ Blk v (N1) 64 24 (prd n m m) ∧ Blk v (k8_11) 64 24 (drP n x m) ∧ Blk v (W9.heap.size) 64 24 (quoP n (drP n x m) m) ∧ Blk v (W9.heap.size + 1) 64 24 (resP n (drP n x m) m) ∧ Below w.heap.size w v := ⟨_, rfl, ((((B0.alloc (.cells (zb 64 (fun _ => 0)) 24)).alloc (.cells (zb 64 (fun _ => 0)) 24)).rowOther (by omega)).rowOther (by omega)), ((((B1.alloc (.cells (zb 64 (fun _ => 0)) 24)).alloc (.cells (zb 64 (fun _ => 0)) 24)).rowOther (by omega)).rowOther (by omega)), ((((B2.alloc (.cells (zb 64 (fun _ => 0)) 24)).alloc (.cells (zb 64 (fun _ => 0)) 24)).rowOther (by omega)).rowOther (by omega)), ((((B3.alloc (.cells (zb 64 (fun _ => 0)) 24)).alloc (.cells (zb 64 (fun _ => 0)) 24)).rowOther (by omega)).rowOther (by omega)), ((((B4.alloc (.cells (zb 64 (fun _ => 0)) 24)).alloc (.cells (zb 64 (fun _ => 0)) 24)).rowOther (by omega)).rowOther (by omega)), ((((Blk.new W9 64 24 (fun _ => 0)).alloc (.cells (zb 64 (fun _ => 0)) 24)).row (quoP n (drP n x m) m)).rowOther (by omega)), (((show Blk ((W9.alloc (.cells (zb 64 (fun _ => 0)) 24)).alloc (.cells (zb 64 (fun _ => 0)) 24)) (W9.heap.size + 1) 64 24 (fun _ => 0) by have := Blk.new (W9.alloc (.cells (zb 64 (fun _ => 0)) 24)) 64 24 (fun _ => 0); simpa using this).rowOther (by omega)).row (resP n (drP n x m) m)), (zr (zr ((hb.alloc (by have := hb.size; simp; omega) (.cells (zb 64 (fun _ => 0)) 24)).alloc (by have := hb.size; simp; omega) (.cells (zb 64 (fun _ => 0)) 24)) (by omega) _) (by omega) _)⟩
     rw [← hwo]
     clear hwo B0 B1 B2 B3 B4 hb
     obtain ⟨B0, B1, B2, B3, B4, B5, B6, hb⟩ := hzQ
     obtain ⟨N2, hNN⟩ : ∃ n : Nat, n = W9.heap.size := ⟨_, rfl⟩
     rw [← hNN] at lt_B0 lt_B1 lt_B2 lt_B3 lt_B4 lhb B5 B6 ⊢
     clear hNN
     have zN2_0 := lt_B0
     have zN2_1 := lt_B1
     have zN2_2 := lt_B2
     have zN2_3 := lt_B3
     have zN2_4 := lt_B4
     have zN2 := lhb
     clear lt_B0 lt_B1 lt_B2 lt_B3 lt_B4 lhb
     try simp only [Act.put, pA, pB, pC]
     have lt_B0 := B0.lt
     have lt_B1 := B1.lt
     have lt_B2 := B2.lt
     have lt_B3 := B3.lt
     have lt_B4 := B4.lt
     have lt_B5 := B5.lt
     have lt_B6 := B6.lt
     go_wp2_with (first | rw [← z64] | (refine zla (.tmp 11) B5 Try.underlying24 Try.size24 ?_) | (refine zla (.tmp 5) B1 Try.underlying24 Try.size24 ?_) | (go_at_call 129; refine (HMQ.out _).mono ?_; rintro e W11 ⟨rfl, hW11⟩; replace B0 := B0.zw hW11; replace B1 := B1.zw hW11; replace B2 := B2.zw hW11; replace B3 := B3.zw hW11; replace B4 := B4.zw hW11; replace B5 := B5.zw hW11; replace B6 := B6.zw hW11; replace hb := (hb).trans (hW11.mono (hb).size)) | (refine zsr (.tmp 6) (.tmp 66) (quoP n (drP n x m) m) B2 Try.size24 ?_; try simp only [Act.put]; go_wp2_with fail))
     obtain ⟨W12, hwo, hzQ⟩ : ∃ v : World, v = (W11.setRow (w.heap.size + 1 + 1) (zb 64 (quoP n (drP n x m) m))) ∧ Blk v (w.heap.size) 64 24 (x) ∧ Blk v (w.heap.size + 1) 64 24 (m) ∧ Blk v (w.heap.size + 1 + 1) 64 24 (quoP n (drP n x m) m) ∧ Blk v (N1) 64 24 (prd n m m) ∧ Blk v (k8_11) 64 24 (drP n x m) ∧ Blk v (N2) 64 24 (quoP n (drP n x m) m) ∧ Blk v (N2 + 1) 64 24 (resP n (drP n x m) m) ∧ Below w.heap.size w v := ⟨_, rfl, (B0.rowOther (by omega)), (B1.rowOther (by omega)), (B2.row (quoP n (drP n x m) m)), (B3.rowOther (by omega)), (B4.rowOther (by omega)), (B5.rowOther (by omega)), (B6.rowOther (by omega)), (zr hb (by omega) _)⟩
     rw [← hwo]
     clear hwo B0 B1 B2 B3 B4 B5 B6 hb
     obtain ⟨B0, B1, B2, B3, B4, B5, B6, hb⟩ := hzQ
     try simp only [Act.put, pA, pB, pC]
     refine bodyPost_ret (results_bt rfl _ _ _ 64 24 5 _ rfl B2 Try.underlying24 Try.size24) rfl ⟨by first | (rw [HE.out, HV2.out]; rfl) | rw [HE.out, HV2.out], hb⟩
 have HV := Lib.hid (drV_1 hc)
 go_upto_region 2 with (first | (refine zla (.tmp 4) B0 Try.underlying24 Try.size24 ?_) | (refine zla (.tmp 5) B1 Try.underlying24 Try.size24 ?_) | (refine wpList_build_polys rfl 40 _ [x, m] rfl 24 rfl Try.underlying40 Try.elem24 (by simp) (by simp) rfl ?_; intro wa hwa hps hba; clear hwa) | (go_at_call 122; refine (l01Code_any p [x, m] (by simp [hx, hm]) _ _ hps (by simp)).mono ?_; rintro e W2 ⟨rfl, hbb⟩; rw [hc]))
 have hBB : Below W1.heap.size W1 W2 := hba.trans (hbb.mono hba.size)
 replace B0 := B0.zw hBB
 replace B1 := B1.zw hBB
 replace B2 := B2.zw hBB
 replace hb := hb.trans (hBB.mono hb.size)
 clear hBB hba hbb hps
 clear hc
 go_wp2_with (first | rw [← z64] | (refine zsr (.tmp 6) (.tmp 20) (fun _ => 0) B2 Try.size24 ?_; try simp only [Act.put]; go_wp2_with fail))
 obtain ⟨W3, hwo, hzQ⟩ : ∃ v : World, v = (W2.setRow (w.heap.size + 1 + 1) (zb 64 (fun _ => 0))) ∧ Blk v (w.heap.size) 64 24 (x) ∧ Blk v (w.heap.size + 1) 64 24 (m) ∧ Blk v (w.heap.size + 1 + 1) 64 24 (fun _ => 0) ∧ Below w.heap.size w v := ⟨_, rfl, (B0.rowOther (by omega)), (B1.rowOther (by omega)), (B2.row (fun _ => 0)), (zr hb (by omega) _)⟩
 rw [← hwo]
 clear hwo B0 B1 B2 hb
 obtain ⟨B0, B1, B2, hb⟩ := hzQ
 try simp only [Act.put, pA, pB, pC]
 refine bodyPost_ret (results_bt rfl _ _ _ 64 24 5 _ rfl B2 Try.underlying24 Try.size24) rfl ⟨by first | (rw [HV.out]; rfl) | rw [HV.out], hb⟩
theorem impl_DeepRest_any (p : Int) (x m : Nat → Nat) (hx : byte x) (hm : byte m) (w : World) :
 Calls Try.prog 51 #[.int .i64 p, .agg (zb 64 x), .agg (zb 64 m)] w fun e w' => e = .returned (.tuple #[.agg (zb 64 (drV p x m).1), .int .i64 (drV p x m).2]) ∧ Below w.heap.size w w' := by
 go_enter Try.func51, Try.ntmps51
 go_upto_region 1 with (fail)
 rw [← z64]
 obtain ⟨W1, hwo⟩ : ∃ v : World, v = (((w.alloc (.cells (zb 64 (x)) 24)).alloc (.cells (zb 64 (m)) 24)).alloc (.cells (zb 64 (fun _ => 0)) 24)) := ⟨_, rfl⟩
 have B0 : Blk W1 (w.heap.size) 64 24 (x) := by subst hwo; have := (((Blk.new w 64 24 (x)).alloc (.cells (zb 64 (m)) 24)).alloc (.cells (zb 64 (fun _ => 0)) 24)); simpa using this
 have B1 : Blk W1 (w.heap.size + 1) 64 24 (m) := by subst hwo; have := ((Blk.new (w.alloc (.cells (zb 64 (x)) 24)) 64 24 (m)).alloc (.cells (zb 64 (fun _ => 0)) 24)); simpa using this
 have B2 : Blk W1 (w.heap.size + 1 + 1) 64 24 (fun _ => 0) := by subst hwo; have := (Blk.new ((w.alloc (.cells (zb 64 (x)) 24)).alloc (.cells (zb 64 (m)) 24)) 64 24 (fun _ => 0)); simpa using this
 have hb : Below w.heap.size w W1 := by subst hwo; exact ((((Below.refl _ _).alloc (Nat.le_refl _) _).alloc (by simp) _).alloc (by simp; omega) _)
 rw [← hwo]
 clear hwo
 go_upto_region 2 with (first | (refine zla (.tmp 4) B0 Try.underlying24 Try.size24 ?_) | (refine zla (.tmp 5) B1 Try.underlying24 Try.size24 ?_) | (refine wpList_build_polys rfl 40 _ [x, m] rfl 24 rfl Try.underlying40 Try.elem24 (by simp) (by simp) rfl ?_; intro wa hwa hps hba; clear hwa) | (go_at_call 131; refine (checkPolys_any p [x, m] (by simp [hx, hm]) _ _ hps (by simp)).mono ?_; rintro e W2 ⟨rfl, hbb⟩))
 have hBB : Below W1.heap.size W1 W2 := hba.trans (hbb.mono hba.size)
 replace B0 := B0.zw hBB
 replace B1 := B1.zw hBB
 replace B2 := B2.zw hBB
 replace hb := hb.trans (hBB.mono hb.size)
 clear hBB hba hbb hps
 rcases codeL_two p [x, m] with hc | hc
 · obtain ⟨n, hn, n2, n7⟩ := okP_nat (codeL_zero hc).1
   subst hn
   have lx := lt_of_code hc (f := x) (by simp)
   have lm := lt_of_code hc (f := m) (by simp)
   have hpr := prime_of hc
   cases hm3 : monUp 3 m with
   | false =>
    have HV := Lib.hid (drV_2 hc hm3)
    rw [hc]
    clear hc
    go_upto_region 4 with (fail)
    go_upto_region 5 with (first | (refine zla (.tmp 5) B1 Try.underlying24 Try.size24 ?_) | (go_at_call 132; refine (isMonicUpTo_any 3 m hm _ (by decide) (by decide)).mono ?_; rintro e W3 ⟨rfl, hW3⟩; replace B0 := B0.zw hW3; replace B1 := B1.zw hW3; replace B2 := B2.zw hW3; replace hb := (hb).trans (hW3.mono (hb).size); rw [hm3]))
    have lt_B0 := B0.lt
    have lt_B1 := B1.lt
    have lt_B2 := B2.lt
    go_wp2_with (first | rw [← z64] | (refine zsr (.tmp 6) (.tmp 25) (fun _ => 0) B2 Try.size24 ?_; try simp only [Act.put]; go_wp2_with fail))
    obtain ⟨W4, hwo, hzQ⟩ : ∃ v : World, v = (W3.setRow (w.heap.size + 1 + 1) (zb 64 (fun _ => 0))) ∧ Blk v (w.heap.size) 64 24 (x) ∧ Blk v (w.heap.size + 1) 64 24 (m) ∧ Blk v (w.heap.size + 1 + 1) 64 24 (fun _ => 0) ∧ Below w.heap.size w v := ⟨_, rfl, (B0.rowOther (by omega)), (B1.rowOther (by omega)), (B2.row (fun _ => 0)), (zr hb (by omega) _)⟩
    rw [← hwo]
    clear hwo B0 B1 B2 hb
    obtain ⟨B0, B1, B2, hb⟩ := hzQ
    try simp only [Act.put, pA, pB, pC]
    refine bodyPost_ret (results_bt rfl _ _ _ 64 24 5 _ rfl B2 Try.underlying24 Try.size24) rfl ⟨by first | (rw [HV.out]; rfl) | rw [HV.out], hb⟩
   | true =>
    obtain ⟨d, hmon, hd1, hd5⟩ := mon_up hm3
    have h0 : 0 ≤ deg m := by rw [hmon.1]; omega
    have h12 : deg m ≤ 12 := by rw [hmon.1]; omega
    have hmo : monB m = true := by
     have h5 := hm3
     rw [monUp_B] at h5
     simp only [Bool.and_eq_true, decide_eq_true_eq] at h5
     exact h5.1
    have hyr : 1 ≤ deg m ∧ deg m ≤ 3 := by rw [hmon.1]; omega
    cases hu : irB n m with
    | false =>
     have HV := Lib.hid (drV_5 hc hm3 hu)
     have HI := Lib.hid (show ∀ W, Calls Try.prog 133 #[.int .i64 (n : Int), .agg (zb 64 m)] W fun e w' => e = .returned (.bool false) ∧ Below W.heap.size W w' from fun W => by
      have h := isIrreducible_any n m W hpr lm
      rw [irV_B h12, hmo, hu] at h
      exact h)
     rw [hc]
     clear hc
     go_upto_region 4 with (fail)
     go_upto_region 6 with (first | (refine zla (.tmp 5) B1 Try.underlying24 Try.size24 ?_) | (go_at_call 132; refine (isMonicUpTo_any 3 m hm _ (by decide) (by decide)).mono ?_; rintro e W3 ⟨rfl, hW3⟩; replace B0 := B0.zw hW3; replace B1 := B1.zw hW3; replace B2 := B2.zw hW3; replace hb := (hb).trans (hW3.mono (hb).size); rw [hm3]))
     go_upto_region 7 with (first | (refine zla (.tmp 5) B1 Try.underlying24 Try.size24 ?_) | (go_at_call 133; refine (HI.out _).mono ?_; rintro e W4 ⟨rfl, hW4⟩; replace B0 := B0.zw hW4; replace B1 := B1.zw hW4; replace B2 := B2.zw hW4; replace hb := (hb).trans (hW4.mono (hb).size)))
     go_wp2_with (first | rw [← z64] | (refine zsr (.tmp 6) (.tmp 30) (fun _ => 0) B2 Try.size24 ?_; try simp only [Act.put]; go_wp2_with fail))
     obtain ⟨W5, hwo, hzQ⟩ : ∃ v : World, v = (W4.setRow (w.heap.size + 1 + 1) (zb 64 (fun _ => 0))) ∧ Blk v (w.heap.size) 64 24 (x) ∧ Blk v (w.heap.size + 1) 64 24 (m) ∧ Blk v (w.heap.size + 1 + 1) 64 24 (fun _ => 0) ∧ Below w.heap.size w v := ⟨_, rfl, (B0.rowOther (by omega)), (B1.rowOther (by omega)), (B2.row (fun _ => 0)), (zr hb (by omega) _)⟩
     rw [← hwo]
     clear hwo B0 B1 B2 hb
     obtain ⟨B0, B1, B2, hb⟩ := hzQ
     try simp only [Act.put, pA, pB, pC]
     refine bodyPost_ret (results_bt rfl _ _ _ 64 24 5 _ rfl B2 Try.underlying24 Try.size24) rfl ⟨by first | (rw [HV.out]; rfl) | rw [HV.out], hb⟩
    | true =>
     have HV := Lib.hid (drV_0 hc hm3 hu)
     have HI := Lib.hid (show ∀ W, Calls Try.prog 133 #[.int .i64 (n : Int), .agg (zb 64 m)] W fun e w' => e = .returned (.bool true) ∧ Below W.heap.size W w' from fun W => by
      have h := isIrreducible_any n m W hpr lm
      rw [irV_B h12, hmo, hu] at h
      exact h)
     have hd3 : d ≤ 3 := by omega
     have hsq := deg_sqr hpr hmon (by omega)
     have ls : ∀ k, k < 64 → prd n m m k < n := fun k _ => prd_lt (by omega) k
     have hs0 : 0 ≤ deg (prd n m m) := by rw [hsq]; omega
     have hs9 : deg (prd n m m) ≤ 9 := by rw [hsq]; omega
     have lr := resP_lt (p := n) (b := m) (by omega) lx
     have hxs : deg (resP n x m) < deg (prd n m m) := by
      have := (resP_deg hpr lx lm h0).1
      rw [hmon.1] at this; rw [hsq]; omega
     have l1 : ∀ k, k < 64 → oneP k < n := fun k _ => by unfold oneP; split <;> omega
     have lls : ∀ k, k < 64 → lsP n m k < n := fun k _ => by unfold lsP; exact addK_lt (by omega) k
     obtain ⟨ldr, _⟩ := dr_ok hpr lx lm hmon hd1 hd3
     have HV2 := Lib.hid (show (drV (n : Int) x m).2 = 0 by rw [HV.out])
     have HE := Lib.hid (show zb 64 (drV (n : Int) x m).1 = zb 64 (quoP n (drP n x m) m) by rw [HV.out])
        
     have HPR := Lib.hid (fun W => product_any n m m W n2 n7 lm lm)
     have HDI := Lib.hid (show ∀ W, Calls Try.prog 135 #[.int .i64 (n : Int), .agg (zb 64 m), .agg (zb 64 oneP)] W fun e w' => e = .returned (.agg (zb 64 (lsP n m))) ∧ Below W.heap.size W w' from fun W => by
      have e : zb 64 (lsP n m) = zb 64 (fun i => (m i + n - oneP i) % n) := zbc (fun i hi => by unfold lsP; exact addK_neg (by omega) l1 hi)
      rw [e]; exact difference_any n m oneP W n2 n7 lm l1)
     have HRO := Lib.hid (fun W => restOf_any n x m W hpr lx lm h0)
     have HMD := Lib.hid (fun W => cmodule_any n (prd n m m) W)
     have HAC := Lib.hid (show ∀ W, Calls Try.prog 120 #[(.agg (moC (n : Int) (deg (prd n m m)) (.func (.func 205) #[.agg (caC n (prd n m m)).toArray] #[])).toArray), .agg (zb 64 (lsP n m)), .agg (zb 64 (resP n x m))] W fun e w' => e = .returned (.agg (zb 64 (drP n x m))) ∧ Below W.heap.size W w' from fun W => by
      have h := mact_any n (lsP n m) (resP n x m) (prd n m m) W lls hpr lr ls hs0 hs9 hxs
      unfold drP; exact h)
     have HQR := Lib.hid (fun W => quotientAndRest_any n (drP n x m) m W hpr (fun k _ => ldr k) lm h0)
     clear hu hmon hsq ldr hxs hs0 hs9 h12 hyr hmo
     rw [hc]
     clear hc
     go_upto_region 4 with (fail)
     go_upto_region 6 with (first | (refine zla (.tmp 5) B1 Try.underlying24 Try.size24 ?_) | (go_at_call 132; refine (isMonicUpTo_any 3 m hm _ (by decide) (by decide)).mono ?_; rintro e W3 ⟨rfl, hW3⟩; replace B0 := B0.zw hW3; replace B1 := B1.zw hW3; replace B2 := B2.zw hW3; replace hb := (hb).trans (hW3.mono (hb).size); rw [hm3]))
     go_upto_region 8 with (first | (refine zla (.tmp 5) B1 Try.underlying24 Try.size24 ?_) | (go_at_call 133; refine (HI.out _).mono ?_; rintro e W4 ⟨rfl, hW4⟩; replace B0 := B0.zw hW4; replace B1 := B1.zw hW4; replace B2 := B2.zw hW4; replace hb := (hb).trans (hW4.mono (hb).size)))
     clear HI
     have lt_B0 := B0.lt
     have lt_B1 := B1.lt
     have lt_B2 := B2.lt
     go_upto_region 9 with (first | rw [← z64] | (refine zla (.tmp 5) B1 Try.underlying24 Try.size24 ?_) | (refine zla (.tmp 5) B1 Try.underlying24 Try.size24 ?_) | (go_at_call 134; refine (HPR.out _).mono ?_; rintro e W5 ⟨rfl, hW5⟩; replace B0 := B0.zw hW5; replace B1 := B1.zw hW5; replace B2 := B2.zw hW5; replace hb := (hb).trans (hW5.mono (hb).size)) | (refine zbo rfl 119 _ rfl (caC n (prd n m m)).toArray (by rw [Array.toList_map]; exact built_ca n (prd n m m)) ?_) | (go_at_call 119; refine (HMD.out _).mono ?_; rintro e W6 ⟨rfl, hW6⟩; replace B0 := B0.zw hW6; replace B1 := B1.zw hW6; replace B2 := B2.zw hW6; replace hb := (hb).trans (hW6.mono (hb).size)) | (refine wpList_store_rowv rfl 118 (.tmp 9) (.tmp 37) rfl _ rfl (moC (n : Int) (deg (prd n m m)) (.func (.func 205) #[.agg (caC n (prd n m m)).toArray] #[])).toArray rfl 118 _ ((Row.new W6 118 ([.int .i64 0, .int .i64 0, .nilFunc]).toArray)) 3 Try.size118 (by simp [moC_len]) (by simp [moC_len]) (moC_all _ _ _ rfl) ?_; try simp only [Act.put]))
     have lt_B0 := B0.lt
     have lt_B1 := B1.lt
     have lt_B2 := B2.lt
     have lhb := hb.size
     obtain ⟨W7, hwo, hzQ⟩ : ∃ v : World, v = ((W6.alloc (.cells ([.int .i64 0, .int .i64 0, .nilFunc]).toArray 118)).setRow (W6.heap.size) (moC (n : Int) (deg (prd n m m)) (.func (.func 205) #[.agg (caC n (prd n m m)).toArray] #[])).toArray) ∧ Blk v (w.heap.size) 64 24 (x) ∧ Blk v (w.heap.size + 1) 64 24 (m) ∧ Blk v (w.heap.size + 1 + 1) 64 24 (fun _ => 0) ∧ Row v (W6.heap.size) 118 (moC (n : Int) (deg (prd n m m)) (.func (.func 205) #[.agg (caC n (prd n m m)).toArray] #[])).toArray ∧ Below w.heap.size w v := ⟨_, rfl, ((B0.alloc (.cells ([.int .i64 0, .int .i64 0, .nilFunc]).toArray 118)).rowOther (by omega)), ((B1.alloc (.cells ([.int .i64 0, .int .i64 0, .nilFunc]).toArray 118)).rowOther (by omega)), ((B2.alloc (.cells ([.int .i64 0, .int .i64 0, .nilFunc]).toArray 118)).rowOther (by omega)), ((Row.new W6 118 ([.int .i64 0, .int .i64 0, .nilFunc]).toArray).row (moC (n : Int) (deg (prd n m m)) (.func (.func 205) #[.agg (caC n (prd n m m)).toArray] #[])).toArray), (zr (hb.alloc (by have := hb.size; simp; omega) (.cells ([.int .i64 0, .int .i64 0, .nilFunc]).toArray 118)) (by omega) _)⟩
     rw [← hwo]
     clear hwo B0 B1 B2 hb
     obtain ⟨B0, B1, B2, B3, hb⟩ := hzQ
     obtain ⟨N1, hNN⟩ : ∃ n : Nat, n = W6.heap.size := ⟨_, rfl⟩
     rw [← hNN] at lt_B0 lt_B1 lt_B2 lhb B3 ⊢
     clear hNN
     have zN1_0 := lt_B0
     have zN1_1 := lt_B1
     have zN1_2 := lt_B2
     have zN1 := lhb
     clear lt_B0 lt_B1 lt_B2 lhb
     try simp only [Act.put, pA, pB, pC]
     have lt_B0 : (w.heap.size) < W7.heap.size := B0.lt
     have lt_B1 : (w.heap.size + 1) < W7.heap.size := B1.lt
     have lt_B2 : (w.heap.size + 1 + 1) < W7.heap.size := B2.lt
     have lt_B3 : (N1) < W7.heap.size := B3.lt
     refine zq Try.mixed (by kernel_rfl) (by kernel_rfl) (fun v => by (simp only [frL, Act.put, pA, pB, pC, Nat.reduceAdd, Nat.zero_add]; exact rfl))
      (fun L v W8 => Below W7.heap.size W7 W8 ∧ (L 10 = true → AF (v 10) W8 W7.heap.size 64 24) ∧ (L 11 = true → PF (v 10) W8 W7.heap.size 64 24 (drP n x m)) ∧ VF L v [some (.agg (moC (n : Int) (deg (prd n m m)) (.func (.func 205) #[.agg (caC n (prd n m m)).toArray] #[])).toArray), some (.int .i64 (n : Int)), some (.agg (zb 64 (m))), some (.agg (zb 64 (oneP))), some (.agg (zb 64 (lsP n m))), some (.int .i64 (n : Int)), some (.agg (zb 64 (x))), some (.agg (zb 64 (m))), some (.agg (zb 64 (resP n x m))), some (.agg (zb 64 (drP n x m))), none, none]) ?_ ?_ ?_
     · intro v hv0
       exact ⟨(Below.refl _ W7).drew, (fun h => by cases h), (fun h => by cases h), VF.start⟩
     · refine (.cons rfl ?_ (.cons rfl ?_ (.cons rfl ?_ (.cons rfl ?_ (.cons rfl ?_ (.cons rfl ?_ (.cons rfl ?_ (.cons rfl ?_ (.cons rfl ?_ (.cons rfl ?_ (.cons rfl ?_ (.cons rfl ?_ (.nil _)))))))))))))
       all_goals intro L v W8 hd hn ⟨hY, h10, h11, V⟩ K hK
       · refine wp_load_rowv 118 _ rfl _ rfl 118 _ (B3.zw hY) _ Try.underlying118 rfl 3 Try.size118 (by simp [moC_len]) ?_
         exact hK _ _ _ rfl ⟨hY, h10, h11, V.step 0 rfl⟩
       · go_wp2_with fail
         exact hK _ (.int .i64 (n : Int)) _ (by simp only [Act.put, pA, pB, pC ]) ⟨hY, h10, h11, V.step 1 rfl⟩
       · refine zlc (B1.zw hY) Try.underlying24 Try.size24 ?_
         exact hK _ _ _ rfl ⟨hY, h10, h11, V.step 2 rfl⟩
       · refine wp_build_of 24 _ rfl (zb 64 oneP) (by rw [Array.toList_map]; show Try.prog.built 24 [(0, .int .u8 1)] = some (zb 64 oneP); exact built_one) ?_
         exact hK _ _ _ rfl ⟨hY, h10, h11, V.step 3 rfl⟩
       · have e1 := V.at (zdq hd 1 rfl) rfl
         have e2 := V.at (zdq hd 2 rfl) rfl
         have e3 := V.at (zdq hd 3 rfl) rfl
         go_wp2_with (go_at_call 135; refine (HDI.out _).mono ?_; rintro e wy ⟨rfl, hy⟩)
         exact hK _ (.agg (zb 64 (lsP n m))) _ (by simp only [Act.put, pA, pB, pC, e1, e2, e3]) ⟨hY.trans (hy.mono hY.size), (fun h => (h10 h).below hy), (fun h => (h11 h).below hy), V.step 4 rfl⟩
       · go_wp2_with fail
         exact hK _ (.int .i64 (n : Int)) _ (by simp only [Act.put, pA, pB, pC ]) ⟨hY, h10, h11, V.step 5 rfl⟩
       · refine zlc (B0.zw hY) Try.underlying24 Try.size24 ?_
         exact hK _ _ _ rfl ⟨hY, h10, h11, V.step 6 rfl⟩
       · refine zlc (B1.zw hY) Try.underlying24 Try.size24 ?_
         exact hK _ _ _ rfl ⟨hY, h10, h11, V.step 7 rfl⟩
       · have e5 := V.at (zdq hd 5 rfl) rfl
         have e6 := V.at (zdq hd 6 rfl) rfl
         have e7 := V.at (zdq hd 7 rfl) rfl
         go_wp2_with (go_at_call 121; refine (HRO.out _).mono ?_; rintro e wy ⟨rfl, hy⟩)
         exact hK _ (.agg (zb 64 (resP n x m))) _ (by simp only [Act.put, pA, pB, pC, e5, e6, e7]) ⟨hY.trans (hy.mono hY.size), (fun h => (h10 h).below hy), (fun h => (h11 h).below hy), V.step 8 rfl⟩
       · have e0 := V.at (zdq hd 0 rfl) rfl
         have e4 := V.at (zdq hd 4 rfl) rfl
         have e8 := V.at (zdq hd 8 rfl) rfl
         go_wp2_with (go_at_call 120; refine (HAC.out _).mono ?_; rintro e wy ⟨rfl, hy⟩)
         exact hK _ (.agg (zb 64 (drP n x m))) _ (by simp only [Act.put, pA, pB, pC, e0, e4, e8]) ⟨hY.trans (hy.mono hY.size), (fun h => (h10 h).below hy), (fun h => (h11 h).below hy), V.step 9 rfl⟩
       · go_wp2_with fail
         rw [← z64]
         exact hK _ (.pointer (some ⟨W8.heap.size, 0, none⟩)) _ (by simp only [Act.put, pA, pB, pC ]) ⟨hY.alloc hY.size _, (fun _ => (PF.new W8 64 24 _ hY.size).af), (fun h => absurd rfl (hn 11 _ rfl h ⟨10, .data⟩ (by simp) rfl)), V.skip 10 rfl⟩
       have e9 := V.at (zdq hd 9 rfl) rfl
       obtain ⟨gz, b, ea, hN, hk⟩ := (h10 (zdq hd 10 rfl)).out
       refine zsb 24 _ _ rfl b 64 (drP n x m) ea e9 24 gz hk Try.size24 ?_
       exact hK _ undef _ rfl ⟨zr hY hN _, (fun h => (h10 h).row hk), (fun _ => by rw [show updV v 11 undef 10 = v 10 from rfl, ea]; exact PF.row hk hN _), V.skip 11 rfl⟩
     intro L v W8 hL ⟨hY, h10, h11, V⟩
     obtain ⟨k9_10, e10, hNk9_10, hk9_10⟩ := (h11 (hL 11 (by decide))).out
     have e0 := V.at (hL 0 (by decide)) rfl
     have e1 := V.at (hL 1 (by decide)) rfl
     have e2 := V.at (hL 2 (by decide)) rfl
     have e3 := V.at (hL 3 (by decide)) rfl
     have e4 := V.at (hL 4 (by decide)) rfl
     have e5 := V.at (hL 5 (by decide)) rfl
     have e6 := V.at (hL 6 (by decide)) rfl
     have e7 := V.at (hL 7 (by decide)) rfl
     have e8 := V.at (hL 8 (by decide)) rfl
     have e9 := V.at (hL 9 (by decide)) rfl
     clear hL h10 h11 V
     replace B0 := B0.zw hY
     replace B1 := B1.zw hY
     replace B2 := B2.zw hY
     replace B3 := B3.zw hY
     replace hb := hb.trans (hY.mono hb.size)
     clear hY
     simp only [Exit.then, e10, e0, e1, e2, e3, e4, e5, e6, e7, e8, e9]
     clear e10 e0 e1 e2 e3 e4 e5 e6 e7 e8 e9
     have B4 := hk9_10
     clear hk9_10
     have zk9_10_0 : w.heap.size < k9_10 := by omega
     have zk9_10_1 : w.heap.size + 1 < k9_10 := by omega
     have zk9_10_2 : w.heap.size + 1 + 1 < k9_10 := by omega
     have zk9_10_3 : N1 < k9_10 := by omega
     clear lt_B0 lt_B1 lt_B2 lt_B3
     go_upto_region 10 with (fail)
     have lt_B0 := B0.lt
     have lt_B1 := B1.lt
     have lt_B2 := B2.lt
     have lt_B3 := B3.lt
     have lt_B4 := B4.lt
     go_upto_region 11 with (first | rw [← z64] | (refine zla (.tmp 10) B4 Try.underlying24 Try.size24 ?_) | (refine zla (.tmp 5) B1 Try.underlying24 Try.size24 ?_) | (go_at_call 136; refine (HQR.out _).mono ?_; rintro e W9 ⟨rfl, hW9⟩; replace B0 := B0.zw hW9; replace B1 := B1.zw hW9; replace B2 := B2.zw hW9; replace B3 := B3.zw hW9; replace B4 := B4.zw hW9; replace hb := (hb).trans (hW9.mono (hb).size)) | (refine wpList_store_blk rfl 24 (.tmp 11) (.tmp 53) rfl _ 64 (quoP n (drP n x m) m) rfl rfl 24 _ (((Blk.new W9 64 24 (fun _ => 0)).alloc (.cells (zb 64 (fun _ => 0)) 24))) Try.size24 ?_; try simp only [Act.put]) | (refine wpList_store_blk rfl 24 (.tmp 12) (.tmp 54) rfl _ 64 (resP n (drP n x m) m) rfl rfl 24 _ (((show Blk ((W9.alloc (.cells (zb 64 (fun _ => 0)) 24)).alloc (.cells (zb 64 (fun _ => 0)) 24)) (W9.heap.size + 1) 64 24 (fun _ => 0) by have := Blk.new (W9.alloc (.cells (zb 64 (fun _ => 0)) 24)) 64 24 (fun _ => 0); simpa using this).rowOther (by omega))) Try.size24 ?_; try simp only [Act.put]))
     have lt_B0 := B0.lt
     have lt_B1 := B1.lt
     have lt_B2 := B2.lt
     have lt_B3 := B3.lt
     have lt_B4 := B4.lt
     have lhb := hb.size
     obtain ⟨W10, hwo, hzQ⟩ : ∃ v : World, v = ((((W9.alloc (.cells (zb 64 (fun _ => 0)) 24)).alloc (.cells (zb 64 (fun _ => 0)) 24)).setRow (W9.heap.size) (zb 64 (quoP n (drP n x m) m))).setRow (W9.heap.size + 1) (zb 64 (resP n (drP n x m) m))) ∧ Blk v (w.heap.size) 64 24 (x) ∧ Blk v (w.heap.size + 1) 64 24 (m) ∧ Blk v (w.heap.size + 1 + 1) 64 24 (fun _ => 0) ∧ Row v (N1) 118 (moC (n : Int) (deg (prd n m m)) (.func (.func 205) #[.agg (caC n (prd n m m)).toArray] #[])).toArray ∧ Blk v (k9_10) 64 24 (drP n x m) ∧ Blk v (W9.heap.size) 64 24 (quoP n (drP n x m) m) ∧ Blk v (W9.heap.size + 1) 64 24 (resP n (drP n x m) m) ∧ Below w.heap.size w v := ⟨_, rfl, ((((B0.alloc (.cells (zb 64 (fun _ => 0)) 24)).alloc (.cells (zb 64 (fun _ => 0)) 24)).rowOther (by omega)).rowOther (by omega)), ((((B1.alloc (.cells (zb 64 (fun _ => 0)) 24)).alloc (.cells (zb 64 (fun _ => 0)) 24)).rowOther (by omega)).rowOther (by omega)), ((((B2.alloc (.cells (zb 64 (fun _ => 0)) 24)).alloc (.cells (zb 64 (fun _ => 0)) 24)).rowOther (by omega)).rowOther (by omega)), ((((B3.alloc (.cells (zb 64 (fun _ => 0)) 24)).alloc (.cells (zb 64 (fun _ => 0)) 24)).rowOther (by omega)).rowOther (by omega)), ((((B4.alloc (.cells (zb 64 (fun _ => 0)) 24)).alloc (.cells (zb 64 (fun _ => 0)) 24)).rowOther (by omega)).rowOther (by omega)), ((((Blk.new W9 64 24 (fun _ => 0)).alloc (.cells (zb 64 (fun _ => 0)) 24)).row (quoP n (drP n x m) m)).rowOther (by omega)), (((show Blk ((W9.alloc (.cells (zb 64 (fun _ => 0)) 24)).alloc (.cells (zb 64 (fun _ => 0)) 24)) (W9.heap.size + 1) 64 24 (fun _ => 0) by have := Blk.new (W9.alloc (.cells (zb 64 (fun _ => 0)) 24)) 64 24 (fun _ => 0); simpa using this).rowOther (by omega)).row (resP n (drP n x m) m)), (zr (zr ((hb.alloc (by have := hb.size; simp; omega) (.cells (zb 64 (fun _ => 0)) 24)).alloc (by have := hb.size; simp; omega) (.cells (zb 64 (fun _ => 0)) 24)) (by omega) _) (by omega) _)⟩
     rw [← hwo]
     clear hwo B0 B1 B2 B3 B4 hb
     obtain ⟨B0, B1, B2, B3, B4, B5, B6, hb⟩ := hzQ
     obtain ⟨N2, hNN⟩ : ∃ n : Nat, n = W9.heap.size := ⟨_, rfl⟩
     rw [← hNN] at lt_B0 lt_B1 lt_B2 lt_B3 lt_B4 lhb B5 B6 ⊢
     clear hNN
     have zN2_0 := lt_B0
     have zN2_1 := lt_B1
     have zN2_2 := lt_B2
     have zN2_3 := lt_B3
     have zN2_4 := lt_B4
     have zN2 := lhb
     clear lt_B0 lt_B1 lt_B2 lt_B3 lt_B4 lhb
     try simp only [Act.put, pA, pB, pC]
     have lt_B0 := B0.lt
     have lt_B1 := B1.lt
     have lt_B2 := B2.lt
     have lt_B3 := B3.lt
     have lt_B4 := B4.lt
     have lt_B5 := B5.lt
     have lt_B6 := B6.lt
     go_wp2_with (first | rw [← z64] | (refine zla (.tmp 11) B5 Try.underlying24 Try.size24 ?_) | (refine zsr (.tmp 6) (.tmp 55) (quoP n (drP n x m) m) B2 Try.size24 ?_; try simp only [Act.put]; go_wp2_with fail))
     obtain ⟨W11, hwo, hzQ⟩ : ∃ v : World, v = (W10.setRow (w.heap.size + 1 + 1) (zb 64 (quoP n (drP n x m) m))) ∧ Blk v (w.heap.size) 64 24 (x) ∧ Blk v (w.heap.size + 1) 64 24 (m) ∧ Blk v (w.heap.size + 1 + 1) 64 24 (quoP n (drP n x m) m) ∧ Row v (N1) 118 (moC (n : Int) (deg (prd n m m)) (.func (.func 205) #[.agg (caC n (prd n m m)).toArray] #[])).toArray ∧ Blk v (k9_10) 64 24 (drP n x m) ∧ Blk v (N2) 64 24 (quoP n (drP n x m) m) ∧ Blk v (N2 + 1) 64 24 (resP n (drP n x m) m) ∧ Below w.heap.size w v := ⟨_, rfl, (B0.rowOther (by omega)), (B1.rowOther (by omega)), (B2.row (quoP n (drP n x m) m)), (B3.rowOther (by omega)), (B4.rowOther (by omega)), (B5.rowOther (by omega)), (B6.rowOther (by omega)), (zr hb (by omega) _)⟩
     rw [← hwo]
     clear hwo B0 B1 B2 B3 B4 B5 B6 hb
     obtain ⟨B0, B1, B2, B3, B4, B5, B6, hb⟩ := hzQ
     try simp only [Act.put, pA, pB, pC]
     refine bodyPost_ret (results_bt rfl _ _ _ 64 24 5 _ rfl B2 Try.underlying24 Try.size24) rfl ⟨by first | (rw [HE.out, HV2.out]; rfl) | rw [HE.out, HV2.out], hb⟩
 have HV := Lib.hid (drV_1 hc)
 rw [hc]
 clear hc
 go_upto_region 3 with (fail)
 go_wp2_with (first | rw [← z64] | (refine zsr (.tmp 6) (.tmp 20) (fun _ => 0) B2 Try.size24 ?_; try simp only [Act.put]; go_wp2_with fail))
 obtain ⟨W3, hwo, hzQ⟩ : ∃ v : World, v = (W2.setRow (w.heap.size + 1 + 1) (zb 64 (fun _ => 0))) ∧ Blk v (w.heap.size) 64 24 (x) ∧ Blk v (w.heap.size + 1) 64 24 (m) ∧ Blk v (w.heap.size + 1 + 1) 64 24 (fun _ => 0) ∧ Below w.heap.size w v := ⟨_, rfl, (B0.rowOther (by omega)), (B1.rowOther (by omega)), (B2.row (fun _ => 0)), (zr hb (by omega) _)⟩
 rw [← hwo]
 clear hwo B0 B1 B2 hb
 obtain ⟨B0, B1, B2, hb⟩ := hzQ
 try simp only [Act.put, pA, pB, pC]
 refine bodyPost_ret (results_bt rfl _ _ _ 64 24 5 _ rfl B2 Try.underlying24 Try.size24) rfl ⟨by first | (rw [HV.out]; rfl) | rw [HV.out], hb⟩
end Go.Proofs.Yteloknnooebabaa
namespace Go.Proofs.Yteloknnooebabaa
open Go.RowKit
theorem FnExactDeepRest_walk (p : Int) (x : Nat → Nat) (m : Nat → Nat) (hx : byte x) (hm : byte m) (w : World) :
 Calls Try.prog 11 #[.int .i64 p, .agg (zb 64 x), .agg (zb 64 m)] w fun e w' => e = .returned (.bool true) ∧ Below w.heap.size w w' := by
 go_enter Try.func11, Try.ntmps11
 go_upto_region 1 with (fail)
 obtain ⟨wo, hwo⟩ : ∃ wo : World, wo = ((w.alloc (.cells (zb 64 x) 22)).alloc (.cells (zb 64 m) 22)) := ⟨_, rfl⟩
 have bx : Blk wo (w.heap.size) 64 22 x := by subst hwo; have := ((Blk.new w 64 22 x).alloc (.cells (zb 64 m) 22)); simpa using this
 have bm : Blk wo (w.heap.size + 1) 64 22 m := by subst hwo; have := (Blk.new (w.alloc (.cells (zb 64 x) 22)) 64 22 m); simpa using this
 have hb : Below w.heap.size w wo := by subst hwo; exact (((Below.refl _ _).alloc (Nat.le_refl _) _).alloc (by simp) _)
 rw [← hwo]
 clear hwo
 refine wp_region_steps Try.mixed (by kernel_rfl) (by kernel_rfl) (fun v => by (simp only [frL, Act.put, pA, pB, pC, Nat.reduceAdd, Nat.zero_add]; exact rfl))
  (fun L v w1 => Below wo.heap.size wo w1 ∧ (L 0 = true → v 0 = (.int .i64 p)) ∧ (L 1 = true → v 1 = (.agg (zb 64 (x)))) ∧ (L 2 = true → v 2 = (.agg (zb 64 (x)))) ∧ (L 3 = true → v 3 = (.agg (zb 64 (m)))) ∧ (L 4 = true → v 4 = (.agg (zb 64 (m)))) ∧ (L 5 = true → v 5 = (.tuple #[(.agg (zb 64 ((drV p x m).1))), (.int .i64 ((drV p x m).2))])) ∧ (L 6 = true → v 6 = (.tuple #[(.agg (zb 64 ((drV p x m).1))), (.int .i64 ((drV p x m).2))])) ∧ (L 7 = true → v 7 = (.agg (zb 64 ((drV p x m).1)))) ∧ (L 8 = true → v 8 = (.int .i64 ((drV p x m).2))) ∧ (L 9 = true → AF (v 9) w1 wo.heap.size 64 24) ∧ (L 10 = true → PF (v 9) w1 wo.heap.size 64 24 ((drV p x m).1)) ∧ (L 11 = true → v 11 = (.int .i64 ((drV p x m).2)))) ?_ ?_ ?_
 · intro v
   exact ⟨(Below.refl _ _).drew, (fun h => by cases h), (fun h => by cases h), (fun h => by cases h), (fun h => by cases h), (fun h => by cases h), (fun h => by cases h), (fun h => by cases h), (fun h => by cases h), (fun h => by cases h), (fun h => by cases h), (fun h => by cases h), (fun h => by cases h)⟩
 · refine (.cons rfl ?_ (.cons rfl ?_ (.cons rfl ?_ (.cons rfl ?_ (.cons rfl ?_ (.cons rfl ?_ (.cons rfl ?_ (.cons rfl ?_ (.cons rfl ?_ (.cons rfl ?_ (.cons rfl ?_ (.cons rfl ?_ (.nil _)))))))))))))
   all_goals intro L v w1 hd hn ⟨hS1, h0, h1, h2, h3, h4, h5, h6, h7, h8, h9, h10, h11⟩ K hK
   · go_wp2_with fail
     exact hK _ (.int .i64 p) _ (by simp only [Act.put, pA, pB, pC ]) ⟨hS1, fun _ => rfl, h1, h2, h3, h4, h5, h6, h7, h8, h9, h10, h11⟩
   · refine wp_load_blk 22 _ rfl _ rfl 64 22 _ (bx.zw hS1) _ Try.underlying22 Try.size22 ?_
     exact hK _ _ _ rfl ⟨hS1, h0, fun _ => rfl, h2, h3, h4, h5, h6, h7, h8, h9, h10, h11⟩
   · have e1 := h1 (zdq hd 1 rfl)
     go_wp2_with (go_at_call 28; refine (toPoly_any _ hx _).mono ?_; rintro e w1y ⟨rfl, hy⟩)
     exact hK _ (.agg (zb 64 (x))) _ (by simp only [Act.put, pA, pB, pC, e1]) ⟨hS1.trans (hy.mono hS1.size), h0, h1, fun _ => rfl, h3, h4, h5, h6, h7, h8, fun h => (h9 h).below hy, fun h => (h10 h).below hy, h11⟩
   · refine wp_load_blk 22 _ rfl _ rfl 64 22 _ (bm.zw hS1) _ Try.underlying22 Try.size22 ?_
     exact hK _ _ _ rfl ⟨hS1, h0, h1, h2, fun _ => rfl, h4, h5, h6, h7, h8, h9, h10, h11⟩
   · have e3 := h3 (zdq hd 3 rfl)
     go_wp2_with (go_at_call 28; refine (toPoly_any _ hm _).mono ?_; rintro e w1y ⟨rfl, hy⟩)
     exact hK _ (.agg (zb 64 (m))) _ (by simp only [Act.put, pA, pB, pC, e3]) ⟨hS1.trans (hy.mono hS1.size), h0, h1, h2, h3, fun _ => rfl, h5, h6, h7, h8, fun h => (h9 h).below hy, fun h => (h10 h).below hy, h11⟩
   · have e0 := h0 (zdq hd 0 rfl)
     have e2 := h2 (zdq hd 2 rfl)
     have e4 := h4 (zdq hd 4 rfl)
     go_wp2_with (go_at_call 50; refine (spec_DeepRest_any p x m hx hm _).mono ?_; rintro e w1y ⟨rfl, hy⟩)
     exact hK _ (.tuple #[(.agg (zb 64 ((drV p x m).1))), (.int .i64 ((drV p x m).2))]) _ (by simp only [Act.put, pA, pB, pC, e0, e2, e4]) ⟨hS1.trans (hy.mono hS1.size), h0, h1, h2, h3, h4, fun _ => rfl, h6, h7, h8, fun h => (h9 h).below hy, fun h => (h10 h).below hy, h11⟩
   · have e5 := h5 (zdq hd 5 rfl)
     go_wp2_with fail
     exact hK _ (.tuple #[(.agg (zb 64 ((drV p x m).1))), (.int .i64 ((drV p x m).2))]) _ (by simp only [Act.put, pA, pB, pC, e5]) ⟨hS1, h0, h1, h2, h3, h4, h5, fun _ => rfl, h7, h8, h9, h10, h11⟩
   · have e6 := h6 (zdq hd 6 rfl)
     go_wp2_with fail
     exact hK _ (.agg (zb 64 ((drV p x m).1))) _ (by simp only [Act.put, pA, pB, pC, e6]) ⟨hS1, h0, h1, h2, h3, h4, h5, h6, fun _ => rfl, h8, h9, h10, h11⟩
   · have e6 := h6 (zdq hd 6 rfl)
     go_wp2_with fail
     exact hK _ (.int .i64 ((drV p x m).2)) _ (by simp only [Act.put, pA, pB, pC, e6]) ⟨hS1, h0, h1, h2, h3, h4, h5, h6, h7, fun _ => rfl, h9, h10, h11⟩
   · go_wp2_with fail
     rw [← z64]
     exact hK _ (.pointer (some ⟨w1.heap.size, 0, none⟩)) _ (by simp only [Act.put, pA, pB, pC ]) ⟨hS1.alloc hS1.size _, h0, h1, h2, h3, h4, h5, h6, h7, h8, fun _ => (PF.new w1 64 24 _ hS1.size).af, fun h => absurd rfl (hn 10 _ rfl h ⟨9, .data⟩ (by simp) rfl), h11⟩
   · have e7 := h7 (zdq hd 7 rfl)
     obtain ⟨gz, b, ea, hN, hk⟩ := (h9 (zdq hd 9 rfl)).out
     refine zsb 24 _ _ rfl b 64 ((drV p x m).1) ea e7 24 gz hk Try.size24 ?_
     exact hK _ undef _ rfl ⟨zr hS1 hN _, h0, h1, h2, h3, h4, h5, h6, h7, h8, fun h => (h9 h).row hk, fun _ => by rw [show updV v 10 undef 9 = v 9 from rfl, ea]; exact PF.row hk hN _, h11⟩
   have e8 := h8 (zdq hd 8 rfl)
   go_wp2_with fail
   exact hK _ (.int .i64 ((drV p x m).2)) _ (by simp only [Act.put, pA, pB, pC, e8]) ⟨hS1, h0, h1, h2, h3, h4, h5, h6, h7, h8, h9, h10, fun _ => rfl⟩
 intro L v w1 hL ⟨hS1, h0, h1, h2, h3, h4, h5, h6, h7, h8, h9, h10, h11⟩
 have e0 := h0 (hL 0 (by decide))
 have e1 := h1 (hL 1 (by decide))
 have e2 := h2 (hL 2 (by decide))
 have e3 := h3 (hL 3 (by decide))
 have e4 := h4 (hL 4 (by decide))
 have e5 := h5 (hL 5 (by decide))
 have e6 := h6 (hL 6 (by decide))
 have e7 := h7 (hL 7 (by decide))
 have e8 := h8 (hL 8 (by decide))
 obtain ⟨b9, e9, hN9, hb9⟩ := (h10 (hL 10 (by decide))).out
 have e11 := h11 (hL 11 (by decide))
 clear hL h0 h1 h2 h3 h4 h5 h6 h7 h8 h9 h10 h11
 simp only [Exit.then, e0, e1, e2, e3, e4, e5, e6, e7, e8, e9, e11]
 clear e0 e1 e2 e3 e4 e5 e6 e7 e8 e9 e11
 go_upto_region 2 with (fail)
 replace bx := bx.zw hS1
 replace bm := bm.zw hS1
 refine wp_region_steps Try.mixed (by kernel_rfl) (by kernel_rfl) (fun v => by (simp only [frL, Act.put, pA, pB, pC, Nat.reduceAdd, Nat.zero_add]; exact rfl))
  (fun L v w2 => Below w1.heap.size w1 w2 ∧ (L 0 = true → v 0 = (.int .i64 p)) ∧ (L 1 = true → v 1 = (.agg (zb 64 (x)))) ∧ (L 2 = true → v 2 = (.agg (zb 64 (x)))) ∧ (L 3 = true → v 3 = (.agg (zb 64 (m)))) ∧ (L 4 = true → v 4 = (.agg (zb 64 (m)))) ∧ (L 5 = true → v 5 = (.tuple #[(.agg (zb 64 ((drV p x m).1))), (.int .i64 ((drV p x m).2))])) ∧ (L 6 = true → v 6 = (.tuple #[(.agg (zb 64 ((drV p x m).1))), (.int .i64 ((drV p x m).2))])) ∧ (L 7 = true → v 7 = (.agg (zb 64 ((drV p x m).1)))) ∧ (L 8 = true → v 8 = (.int .i64 ((drV p x m).2))) ∧ (L 9 = true → AF (v 9) w2 w1.heap.size 64 24) ∧ (L 10 = true → PF (v 9) w2 w1.heap.size 64 24 ((drV p x m).1)) ∧ (L 11 = true → v 11 = (.int .i64 ((drV p x m).2)))) ?_ ?_ ?_
 · intro v
   exact ⟨(Below.refl _ _).drew, (fun h => by cases h), (fun h => by cases h), (fun h => by cases h), (fun h => by cases h), (fun h => by cases h), (fun h => by cases h), (fun h => by cases h), (fun h => by cases h), (fun h => by cases h), (fun h => by cases h), (fun h => by cases h), (fun h => by cases h)⟩
 · refine (.cons rfl ?_ (.cons rfl ?_ (.cons rfl ?_ (.cons rfl ?_ (.cons rfl ?_ (.cons rfl ?_ (.cons rfl ?_ (.cons rfl ?_ (.cons rfl ?_ (.cons rfl ?_ (.cons rfl ?_ (.cons rfl ?_ (.nil _)))))))))))))
   all_goals intro L v w2 hd hn ⟨hS2, h0, h1, h2, h3, h4, h5, h6, h7, h8, h9, h10, h11⟩ K hK
   · go_wp2_with fail
     exact hK _ (.int .i64 p) _ (by simp only [Act.put, pA, pB, pC ]) ⟨hS2, fun _ => rfl, h1, h2, h3, h4, h5, h6, h7, h8, h9, h10, h11⟩
   · refine wp_load_blk 22 _ rfl _ rfl 64 22 _ (bx.zw hS2) _ Try.underlying22 Try.size22 ?_
     exact hK _ _ _ rfl ⟨hS2, h0, fun _ => rfl, h2, h3, h4, h5, h6, h7, h8, h9, h10, h11⟩
   · have e1 := h1 (zdq hd 1 rfl)
     go_wp2_with (go_at_call 28; refine (toPoly_any _ hx _).mono ?_; rintro e w2y ⟨rfl, hy⟩)
     exact hK _ (.agg (zb 64 (x))) _ (by simp only [Act.put, pA, pB, pC, e1]) ⟨hS2.trans (hy.mono hS2.size), h0, h1, fun _ => rfl, h3, h4, h5, h6, h7, h8, fun h => (h9 h).below hy, fun h => (h10 h).below hy, h11⟩
   · refine wp_load_blk 22 _ rfl _ rfl 64 22 _ (bm.zw hS2) _ Try.underlying22 Try.size22 ?_
     exact hK _ _ _ rfl ⟨hS2, h0, h1, h2, fun _ => rfl, h4, h5, h6, h7, h8, h9, h10, h11⟩
   · have e3 := h3 (zdq hd 3 rfl)
     go_wp2_with (go_at_call 28; refine (toPoly_any _ hm _).mono ?_; rintro e w2y ⟨rfl, hy⟩)
     exact hK _ (.agg (zb 64 (m))) _ (by simp only [Act.put, pA, pB, pC, e3]) ⟨hS2.trans (hy.mono hS2.size), h0, h1, h2, h3, fun _ => rfl, h5, h6, h7, h8, fun h => (h9 h).below hy, fun h => (h10 h).below hy, h11⟩
   · have e0 := h0 (zdq hd 0 rfl)
     have e2 := h2 (zdq hd 2 rfl)
     have e4 := h4 (zdq hd 4 rfl)
     go_wp2_with (go_at_call 51; refine (impl_DeepRest_any p x m hx hm _).mono ?_; rintro e w2y ⟨rfl, hy⟩)
     exact hK _ (.tuple #[(.agg (zb 64 ((drV p x m).1))), (.int .i64 ((drV p x m).2))]) _ (by simp only [Act.put, pA, pB, pC, e0, e2, e4]) ⟨hS2.trans (hy.mono hS2.size), h0, h1, h2, h3, h4, fun _ => rfl, h6, h7, h8, fun h => (h9 h).below hy, fun h => (h10 h).below hy, h11⟩
   · have e5 := h5 (zdq hd 5 rfl)
     go_wp2_with fail
     exact hK _ (.tuple #[(.agg (zb 64 ((drV p x m).1))), (.int .i64 ((drV p x m).2))]) _ (by simp only [Act.put, pA, pB, pC, e5]) ⟨hS2, h0, h1, h2, h3, h4, h5, fun _ => rfl, h7, h8, h9, h10, h11⟩
   · have e6 := h6 (zdq hd 6 rfl)
     go_wp2_with fail
     exact hK _ (.agg (zb 64 ((drV p x m).1))) _ (by simp only [Act.put, pA, pB, pC, e6]) ⟨hS2, h0, h1, h2, h3, h4, h5, h6, fun _ => rfl, h8, h9, h10, h11⟩
   · have e6 := h6 (zdq hd 6 rfl)
     go_wp2_with fail
     exact hK _ (.int .i64 ((drV p x m).2)) _ (by simp only [Act.put, pA, pB, pC, e6]) ⟨hS2, h0, h1, h2, h3, h4, h5, h6, h7, fun _ => rfl, h9, h10, h11⟩
   · go_wp2_with fail
     rw [← z64]
     exact hK _ (.pointer (some ⟨w2.heap.size, 0, none⟩)) _ (by simp only [Act.put, pA, pB, pC ]) ⟨hS2.alloc hS2.size _, h0, h1, h2, h3, h4, h5, h6, h7, h8, fun _ => (PF.new w2 64 24 _ hS2.size).af, fun h => absurd rfl (hn 10 _ rfl h ⟨9, .data⟩ (by simp) rfl), h11⟩
   · have e7 := h7 (zdq hd 7 rfl)
     obtain ⟨gz, b, ea, hN, hk⟩ := (h9 (zdq hd 9 rfl)).out
     refine zsb 24 _ _ rfl b 64 ((drV p x m).1) ea e7 24 gz hk Try.size24 ?_
     exact hK _ undef _ rfl ⟨zr hS2 hN _, h0, h1, h2, h3, h4, h5, h6, h7, h8, fun h => (h9 h).row hk, fun _ => by rw [show updV v 10 undef 9 = v 9 from rfl, ea]; exact PF.row hk hN _, h11⟩
   have e8 := h8 (zdq hd 8 rfl)
   go_wp2_with fail
   exact hK _ (.int .i64 ((drV p x m).2)) _ (by simp only [Act.put, pA, pB, pC, e8]) ⟨hS2, h0, h1, h2, h3, h4, h5, h6, h7, h8, h9, h10, fun _ => rfl⟩
 intro L v w2 hL ⟨hS2, h0, h1, h2, h3, h4, h5, h6, h7, h8, h9, h10, h11⟩
 have e0 := h0 (hL 0 (by decide))
 have e1 := h1 (hL 1 (by decide))
 have e2 := h2 (hL 2 (by decide))
 have e3 := h3 (hL 3 (by decide))
 have e4 := h4 (hL 4 (by decide))
 have e5 := h5 (hL 5 (by decide))
 have e6 := h6 (hL 6 (by decide))
 have e7 := h7 (hL 7 (by decide))
 have e8 := h8 (hL 8 (by decide))
 obtain ⟨q9, e9, hM9, hq9⟩ := (h10 (hL 10 (by decide))).out
 have e11 := h11 (hL 11 (by decide))
 clear hL h0 h1 h2 h3 h4 h5 h6 h7 h8 h9 h10 h11
 simp only [Exit.then, e0, e1, e2, e3, e4, e5, e6, e7, e8, e9, e11]
 clear e0 e1 e2 e3 e4 e5 e6 e7 e8 e9 e11
 replace hb9 := hb9.zw hS2
 have ha : Below w2.heap.size w2 w2 := Below.refl _ _
 have hne : (((drV p x m).2) != ((drV p x m).2)) = false := by simp
 go_wp2_with (first | refine zlb rfl 24 _ rfl _ rfl 64 24 _ (hq9.below (by assumption) hq9.lt) 5 Try.underlying24 Try.size24 ?_ | refine zlb rfl 24 _ rfl _ rfl 64 24 _ (hb9.below (by assumption) hb9.lt) 5 Try.underlying24 Try.size24 ?_ | (go_at_call 49; refine (acc (eqPoly_same _ _ (fun _ _ => rfl) _) (by assumption)).mono ?_; rintro e w3 ⟨rfl, h3, ha⟩))
 go_ret
 exact ⟨rfl, hb.trans ((hS1.trans ((hS2.trans (ha.mono hS2.size)).mono hS1.size)).mono hb.size)⟩
end Go.Proofs.Yteloknnooebabaa
namespace Go.Proofs.Yteloknnooebabaa
open Go.ChangeShapes Go.WideShapes Go.ChangeAt Go.RowKit
section
variable {H : Type} {enc : TypeId × Value → H} {P : Program}
theorem trod_int_to {e : TypeId} {k : IntKind} (he : P.underlying e = some (.int k)) {w : World} (w' : World) {b : Nat} (b' : Nat) {s : Nat → Bool} (s' : Nat → Bool) {h : Bool} (h' : Bool) {m : Nat} {c : List Value} {x : DataW H × List MemPlace}
 (hx : DataW.trod enc P w b s h m e c = some x) : DataW.trod enc P w' b' s' h' m e c = some x := by
 cases m with
 | zero => simp [DataW.trod] at hx
 | succ m =>
  obtain ⟨n, rfl, rfl, hw⟩ := DataW.trod_int he hx
  unfold DataW.trod
  rw [he]
  simp [hw]
theorem trod_int_same {e : TypeId} {k : IntKind} (he : P.underlying e = some (.int k)) (w w' : World) (b b' : Nat) (s s' : Nat → Bool) (h h' : Bool) (m : Nat) (c : List Value) :
 DataW.trod enc P w b s h m e c = DataW.trod enc P w' b' s' h' m e c := by
 cases h1 : DataW.trod enc P w b s h m e c with
 | some x => rw [trod_int_to he w' b' s' h' h1]
 | none =>
  cases h2 : DataW.trod enc P w' b' s' h' m e c with
  | none => rfl
  | some x => rw [trod_int_to he w b s h h2] at h1; cases h1
theorem open_barr {t e : TypeId} {n : Nat} {w : World} {r : Reach} {b0 base : Nat} {spare : Nat → Bool} {held : Bool} {v : Value} {d : DataW H} {p : List MemPlace}
 (ht : P.underlying t = some (.array n e)) (he : P.underlying e = some (.int .u8)) (hC : P.cellsOf t = n) (hCe : P.cellsOf e = 1)
 (hv : Value.okWide P w r b0 t v) (h : DataW.Trod enc P w base spare held t v d p) :
 ∃ f : Nat → Nat, byte f ∧ v = .agg (zb n f) ∧ p = [] ∧ ∀ (w' : World) (base' : Nat) (spare' : Nat → Bool) (held' : Bool), DataW.Trod enc P w' base' spare' held' t v d [] := by
 unfold Value.okWide at hv
 rw [ht] at hv
 obtain ⟨cs, rfl, hsz, _⟩ := hv
 obtain ⟨fuel, hf⟩ := h
 obtain ⟨xs, m, hm, hx, hlen, hxl, hel⟩ := DataW.trod_array ht hf
 subst hm
 have hcs : cs.size = n := by rw [hsz, hC]
 have each : ∀ i, i < n → ∃ k : Nat, k < 256 ∧ cs[i]? = some (.int .u8 (k : Int)) ∧ xs[i]? = some (.lit (.int .u8 (k : Int)), []) := by
  intro i hi
  have h1 := hel i hi
  have hxi : xs[i]? = some (xs[i]'(by omega)) := List.getElem?_eq_getElem (by omega)
  rw [hxi, hCe] at h1
  obtain ⟨z, hz1, hz2, hz3⟩ := DataW.trod_int he h1
  have hb := bounds_u8 hz3
  obtain ⟨k, rfl⟩ := Int.eq_ofNat_of_zero_le hb.1
  refine ⟨k, by omega, ?_, by rw [hxi, hz2]⟩
  have h2 : ((cs.toList.drop (i * 1)).take 1)[0]? = some (.int .u8 (k : Int)) := by
   have h3 : (Value.agg cs).cells.toList = cs.toList := rfl
   rw [← h3, hz1]; rfl
  simpa using h2
 refine ⟨fun i => match cs[i]? with | some (.int _ z) => if i < n then z.toNat else 0 | _ => 0, ?_, ?_, ?_, ?_⟩
 · intro i
   by_cases hi : i < n
   · obtain ⟨k, hk, hc, _⟩ := each i hi
     simp only [hc, hi, if_true, Int.toNat_natCast]
     exact hk
   have : cs[i]? = none := Array.getElem?_eq_none (by omega)
   simp [this]
 · congr 1
   apply Array.ext_getElem?
   intro i
   by_cases hi : i < n
   · obtain ⟨k, hk, hc, _⟩ := each i hi
     rw [bcells_get hi]
     simp only [hc, hi, if_true, Int.toNat_natCast]
   rw [Array.getElem?_eq_none (by omega), Array.getElem?_eq_none (by rw [zbs]; omega)]
 · have hp : p = xs.flatMap (·.2) := by simpa using congrArg Prod.snd hx
   rw [hp]
   rw [List.flatMap_eq_nil_iff]
   intro x hxm
   obtain ⟨i, hi⟩ := List.getElem?_of_mem hxm
   have hin : i < n := by rw [← hxl]; exact (List.getElem?_eq_some_iff.1 hi).1
   obtain ⟨k, _, _, h2⟩ := each i hin
   rw [hi] at h2
   injection h2 with h2
   rw [h2]
 intro w' base' spare' held'
 refine ⟨m + 1, ?_⟩
 have e1 : DataW.trod enc P w' base' spare' held' (m + 1) t (Value.agg cs).cells.toList = DataW.trod enc P w base spare held (m + 1) t (Value.agg cs).cells.toList := by
  unfold DataW.trod
  rw [ht]
  simp only [trod_int_same he w' w base' base spare' spare held' held m]
 rw [e1, hf]
 have hp : p = xs.flatMap (·.2) := by simpa using congrArg Prod.snd hx
 have : p = [] := by
  rw [hp, List.flatMap_eq_nil_iff]
  intro x hxm
  obtain ⟨i, hi⟩ := List.getElem?_of_mem hxm
  have hin : i < n := by rw [← hxl]; exact (List.getElem?_eq_some_iff.1 hi).1
  obtain ⟨k, _, _, h2⟩ := each i hin
  rw [hi] at h2
  injection h2 with h2
  rw [h2]
 rw [this]
theorem post_of_below0 {f : Func} {s : ChangeSpec} {apart fresh handsOn : Bool} {W W' : World} {args : Array Value} {v : Value} {ds gs : List (DataW H)} {before pa pv : List MemPlace}
 (hW : DataW.Whole enc P f.params.toList s.vars apart W args.toList ds gs before)
 (hres : ∀ (b : Nat) (sp : Nat → Bool) (hd : Bool), DataW.TrodAll enc P W' b sp hd f.resultTypes.toList (v.resultList f.resultTypes.size) (s.fn H (ds ++ gs)).results [])
 (hargs : ∀ sp : Nat → Bool, (∀ p ∈ before, sp p.block = true) → DataW.TrodAll enc P W' 0 sp true f.params.toList args.toList (s.fn H (ds ++ gs)).args pa)
 (hvars : ∀ sp : Nat → Bool, (∀ p ∈ before, sp p.block = true) → DataW.TrodVars enc P W' sp s.vars (s.fn H (ds ++ gs)).vars pv)
 (hps : before = pa ++ pv) (hb : Below W.heap.size W W') : s.post enc P f apart fresh handsOn false W args v W' := by
 have held : ∀ p ∈ before, (fun b => decide (b < W.heap.size)) p.block = true := fun p hp => by simpa using hW.lt p hp
 refine ⟨ds, gs, before, [], pa, pv, hW, hres _ _ _, hargs _ held, hvars _ held, ?_, fun h => by cases h⟩
 refine World.keptBut_mono (fun p hp => ⟨hp, .inr ?_⟩) (hb.frame (· ∈ before))
 rw [hps, List.mem_append] at hp
 exact hp
end
end Go.Proofs.Yteloknnooebabaa
namespace Go.Proofs.Yteloknnooebabaa
open Go
def cutW : List Char := [Char.ofNat 99, Char.ofNat 117, Char.ofNat 116]
theorem strip_cut (rest : List (List Char)) : stripLifts liftWords (cutW :: rest) = ([], cutW :: rest) := by
 have key : ∀ os : List String, (os.all fun o => !(cutW == o.toList)) = true → stripLifts os (cutW :: rest) = ([], cutW :: rest) := by
  intro os
  induction os with
  | nil => intro _; rfl
  | cons o os ih =>
   intro h
   simp only [List.all_cons, Bool.and_eq_true, Bool.not_eq_true'] at h
   unfold stripLifts
   rw [h.1]
   exact ih h.2
 exact key _ (by decide +kernel)
theorem make_cut {P : Program} {rest : List (List Char)} (h : behindMainWord (wordsSigns P.initOrder.toList) = cutW :: rest) : P.make = some .cut := by
 unfold Program.make
 rw [h]
 have e1 : (cutW == "gc".toList || cutW == "spec".toList) = false := by decide +kernel
 have e2 : (cutW == "cut".toList) = true := by decide +kernel
 simp only [e1, e2, Bool.true_or]
 rfl
theorem mayEnter_cut {P : Program} {rest : List (List Char)} (h : behindMainWord (wordsSigns P.initOrder.toList) = cutW :: rest) (h1 : P.laysLater = false) (h2 : P.bearsReflect = false) (h3 : P.doorFits [] = true) : P.mayEnter = true := by
 unfold Program.mayEnter
 rw [h]
 have e2 : (some cutW == some "cut".toList) = true := by decide +kernel
 simp only [strip_cut, h1, h2, h3, List.head?_cons, e2]
 simp
theorem lifts_cut {P : Program} {rest : List (List Char)} (h : behindMainWord (wordsSigns P.initOrder.toList) = cutW :: rest) : P.liftsFinal = false := by
 unfold Program.liftsFinal Program.headLifts
 rw [h]
 have e2 : (some cutW == some "cut".toList) = true := by decide +kernel
 have e3 : (some cutW == some "carried".toList) = false := by decide +kernel
 simp only [strip_cut, List.head?_cons, e2, e3]
 simp
def initRest : List (List Nat) := [[97, 116], [108, 111, 111, 112, 46, 101, 120, 97, 109, 112, 108, 101, 47, 103, 48, 49, 50, 52, 53, 47, 108, 97, 119, 115, 46, 70, 110, 69, 120, 97, 99, 116, 77, 117, 108, 116, 105, 112, 108, 121, 83, 107, 101, 119, 115], [108, 111, 111, 112, 46, 101, 120, 97, 109, 112, 108, 101, 47, 103, 48, 49, 50, 52, 53, 47, 108, 97, 119, 115, 46, 70, 110, 69, 120, 97, 99, 116, 80, 111, 119, 101, 114, 79, 102, 83, 107, 101, 119], [108, 111, 111, 112, 46, 101, 120, 97, 109, 112, 108, 101, 47, 103, 48, 49, 50, 52, 53, 47, 108, 97, 119, 115, 46, 70, 110, 69, 120, 97, 99, 116, 68, 105, 118, 105, 100, 101, 82, 105, 103, 104, 116], [108, 111, 111, 112, 46, 101, 120, 97, 109, 112, 108, 101, 47, 103, 48, 49, 50, 52, 53, 47, 108, 97, 119, 115, 46, 70, 110, 69, 120, 97, 99, 116, 68, 105, 118, 105, 100, 101, 76, 101, 102, 116], [108, 111, 111, 112, 46, 101, 120, 97, 109, 112, 108, 101, 47, 103, 48, 49, 50, 52, 53, 47, 108, 97, 119, 115, 46, 70, 110, 69, 120, 97, 99, 116, 82, 105, 103, 104, 116, 68, 105, 118, 105, 115, 111, 114], [108, 111, 111, 112, 46, 101, 120, 97, 109, 112, 108, 101, 47, 103, 48, 49, 50, 52, 53, 47, 108, 97, 119, 115, 46, 70, 110, 69, 120, 97, 99, 116, 76, 101, 102, 116, 77, 117, 108, 116, 105, 112, 108, 101], [108, 111, 111, 112, 46, 101, 120, 97, 109, 112, 108, 101, 47, 103, 48, 49, 50, 52, 53, 47, 108, 97, 119, 115, 46, 70, 110, 69, 120, 97, 99, 116, 76, 101, 97, 115, 116, 83, 107, 101, 119], [108, 111, 111, 112, 46, 101, 120, 97, 109, 112, 108, 101, 47, 103, 48, 49, 50, 52, 53, 47, 108, 97, 119, 115, 46, 70, 110, 69, 120, 97, 99, 116, 65, 99, 116, 79, 110, 82, 101, 115, 105, 100, 117, 101], [108, 111, 111, 112, 46, 101, 120, 97, 109, 112, 108, 101, 47, 103, 48, 49, 50, 52, 53, 47, 108, 97, 119, 115, 46, 70, 110, 69, 120, 97, 99, 116, 68, 101, 101, 112, 82, 101, 115, 116], [108, 111, 111, 112, 46, 101, 120, 97, 109, 112, 108, 101, 47, 103, 48, 49, 50, 52, 53, 47, 108, 97, 119, 115, 46, 70, 110, 69, 120, 97, 99, 116, 65, 100, 100, 65, 99, 116, 105, 111, 110, 115], [108, 111, 111, 112, 46, 101, 120, 97, 109, 112, 108, 101, 47, 103, 48, 49, 50, 52, 53, 47, 108, 97, 119, 115, 46, 70, 110, 69, 120, 97, 99, 116, 67, 111, 109, 112, 111, 115, 101, 65, 99, 116, 105, 111, 110, 115], [108, 111, 111, 112, 46, 101, 120, 97, 109, 112, 108, 101, 47, 103, 48, 49, 50, 52, 53, 47, 108, 97, 119, 115, 46, 70, 110, 69, 120, 97, 99, 116, 73, 115, 68, 114, 105, 110, 102, 101, 108, 100], [108, 111, 111, 112, 46, 101, 120, 97, 109, 112, 108, 101, 47, 103, 48, 49, 50, 52, 53, 47, 108, 97, 119, 115, 46, 70, 110, 69, 120, 97, 99, 116, 68, 114, 105, 110, 102, 101, 108, 100, 65, 99, 116, 105, 111, 110], [108, 111, 111, 112, 46, 101, 120, 97, 109, 112, 108, 101, 47, 103, 48, 49, 50, 52, 53, 47, 108, 97, 119, 115, 46, 70, 110, 69, 120, 97, 99, 116, 68, 114, 105, 110, 102, 101, 108, 100, 86, 97, 108, 117, 101], [108, 111, 111, 112, 46, 101, 120, 97, 109, 112, 108, 101, 47, 103, 48, 49, 50, 52, 53, 47, 108, 97, 119, 115, 46, 70, 110, 69, 120, 97, 99, 116, 73, 110, 118, 97, 114, 105, 97, 110, 116, 79, 102], [108, 111, 111, 112, 46, 101, 120, 97, 109, 112, 108, 101, 47, 103, 48, 49, 50, 52, 53, 47, 108, 97, 119, 115, 46, 70, 110, 69, 120, 97, 99, 116, 84, 119, 105, 115, 116, 79, 102], [108, 111, 111, 112, 46, 101, 120, 97, 109, 112, 108, 101, 47, 103, 48, 49, 50, 52, 53, 47, 108, 97, 119, 115, 46, 70, 110, 69, 120, 97, 99, 116, 65, 114, 101, 73, 115, 111, 109, 111, 114, 112, 104, 105, 99], [108, 111, 111, 112, 46, 101, 120, 97, 109, 112, 108, 101, 47, 103, 48, 49, 50, 52, 53, 47, 108, 97, 119, 115, 46, 70, 110, 69, 120, 97, 99, 116, 73, 115, 73, 115, 111, 103, 101, 110, 121], [108, 111, 111, 112, 46, 101, 120, 97, 109, 112, 108, 101, 47, 103, 48, 49, 50, 52, 53, 47, 108, 97, 119, 115, 46, 70, 110, 69, 120, 97, 99, 116, 78, 111, 114, 109, 79, 102], [108, 111, 111, 112, 46, 101, 120, 97, 109, 112, 108, 101, 47, 103, 48, 49, 50, 52, 53, 47, 108, 97, 119, 115, 46, 70, 110, 69, 120, 97, 99, 116, 70, 114, 111, 98, 101, 110, 105, 117, 115, 79, 102], [108, 111, 111, 112, 46, 101, 120, 97, 109, 112, 108, 101, 47, 103, 48, 49, 50, 52, 53, 47, 108, 97, 119, 115, 46, 70, 110, 69, 120, 97, 99, 116, 73, 115, 83, 117, 112, 101, 114, 115, 105, 110, 103, 117, 108, 97, 114], [108, 111, 111, 112, 46, 101, 120, 97, 109, 112, 108, 101, 47, 103, 48, 49, 50, 52, 53, 47, 108, 97, 119, 115, 46, 70, 110, 69, 120, 97, 99, 116, 79, 114, 100, 101, 114, 80, 111, 108, 121, 110, 111, 109, 105, 97, 108], [108, 111, 111, 112, 46, 101, 120, 97, 109, 112, 108, 101, 47, 103, 48, 49, 50, 52, 53, 47, 108, 97, 119, 115, 46, 70, 110, 69, 120, 97, 99, 116, 65, 108, 108, 68, 114, 105, 110, 102, 101, 108, 100], [108, 111, 111, 112, 46, 101, 120, 97, 109, 112, 108, 101, 47, 103, 48, 49, 50, 52, 53, 47, 108, 97, 119, 115, 46, 70, 110, 69, 120, 97, 99, 116, 67, 111, 117, 110, 116, 66, 121, 84, 114, 97, 99, 101]]
def initSigns : List Nat := [104, 97, 114, 110, 101, 115, 115, 32, 99, 97, 100, 55, 48, 52, 57, 53, 51, 55, 102, 57, 101, 99, 48, 100, 52, 49, 51, 57, 54, 98, 101, 48, 101, 97, 55, 102, 56, 52, 49, 101, 55, 51, 98, 99, 100, 102, 57, 50, 52, 101, 57, 54, 52, 101, 55, 99, 56, 53, 101, 99, 51, 101, 49, 49, 100, 97, 101, 55, 53, 54, 57, 52, 32, 99, 117, 116] ++ initRest.flatMap fun x => 32 :: x
theorem init_split : behindMainWord (wordsSigns (initSigns.map Char.ofNat)) = cutW :: initRest.map (fun w => w.map Char.ofNat) := by kernel_rfl
theorem init_order : Try.prog.initOrder = String.ofList (initSigns.map Char.ofNat) := by kernel_rfl
theorem init_cut : behindMainWord (wordsSigns Try.prog.initOrder.toList) = cutW :: initRest.map (fun w => w.map Char.ofNat) :=
 (congrArg (fun s : String => behindMainWord (wordsSigns s.toList)) init_order).trans ((congrArg (fun l => behindMainWord (wordsSigns l)) String.toList_ofList).trans init_split)
theorem Try.laysLater : Try.prog.laysLater = false := by kernel_rfl
theorem Try.bearsReflect : Try.prog.bearsReflect = false := by kernel_rfl
theorem Try.doorFits : Try.prog.doorFits [] = true := by kernel_rfl
theorem Try.mayEnter : Try.pinned.checked.prog.mayEnter = true := mayEnter_cut init_cut Try.laysLater Try.bearsReflect Try.doorFits
theorem Try.liftsFinal : Try.pinned.checked.prog.liftsFinal = false := lifts_cut init_cut
theorem Try.make : Try.pinned.checked.prog.make = some .cut := make_cut init_cut
end Go.Proofs.Yteloknnooebabaa
