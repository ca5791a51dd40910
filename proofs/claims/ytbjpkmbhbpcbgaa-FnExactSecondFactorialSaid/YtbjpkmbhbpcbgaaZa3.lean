/-
  What the rows of this claim rest on: arrays of bytes, walks of the functions, plain mathematics.
-/
import Derived.Test.YtbjpkmbhbpcbgaaZa2
section
namespace Go.Proofs.Ytbjpkmbhbpcbgaa
open Go Go.RowKit
set_option linter.unusedVariables false
set_option linter.unusedSimpArgs false
theorem spS_skip {q j : Nat} {x : Nat → Nat} (hq : 1 ≤ q) (h : x j = 0) (k : Nat) : spS q x j k = spS q x (j + 1) k := by
  have h1 := spS_s (q := q) (j := j) (x := x) hq k
  rw [← h1]
  by_cases hk : k = j * q
  · rw [if_pos hk, h]
    unfold spS
    by_cases h2 : k % q = 0 ∧ k / q < j
    · exfalso
      have e : k / q = j := by rw [hk]; exact Nat.mul_div_cancel j (by omega)
      have := h2.2
      omega
    · rw [if_neg h2]
  · rw [if_neg hk]
theorem deg_last {f : Nat → Nat} {n : Nat} (h : deg f = (n : Int)) : f n ≠ 0 := by
  rcases deg_spec f with ⟨a, _⟩ | ⟨d, hd, a, b, _⟩
  · omega
  · have : d = n := by omega
    subst this; exact b
attribute [local irreducible] deg strP spS rsV bkV fcR bkS prd addK TP oneP
set_option maxRecDepth 100000 in
set_option maxHeartbeats 1600000 in
theorem l04Raise_ok (p i : Nat) (a : Nat → Nat) (w : World) (p2 : 2 ≤ p) (p7 : p ≤ 7) (hi : i ≤ 20) (la : ∀ k, k < 64 → a k < p) (hd : deg a * ((p ^ i : Nat) : Int) ≤ 63) :
    Calls Try.prog 142 #[.int .i64 (p : Int), .agg (bcells 64 a), .int .i64 (i : Int)] w fun e w' => e = .returned (.tuple #[.agg (bcells 64 (strP (p ^ i) a)), .bool true]) ∧ Below w.heap.size w w' := by
  obtain ⟨gb1, gb2⟩ := deg_bounds a
  obtain ⟨NN, hNN⟩ : ∃ NN : Nat, deg a = (NN : Int) - 1 := ⟨(deg a + 1).toNat, by omega⟩
  have HD := Lib.hid hNN
  have hN6 : NN ≤ 64 := by omega
  have hQ1 : 1 ≤ p ^ i := Nat.pow_pos (by omega)
  have HPS := Lib.hid (fun s : Nat => Nat.pow_succ p s)
  have HPM := Lib.hid (fun (s t : Nat) (h : s ≤ t) => Nat.pow_le_pow_right (n := p) (by omega) h)
  have HQ := Lib.hid (show ∀ j, j < NN → ∀ s, s ≤ i → j * p ^ s ≤ 63 from fun j hj s hs => by
    rw [hNN] at hd
    have h1 : (j : Int) * ((p ^ i : Nat) : Int) ≤ ((NN : Int) - 1) * ((p ^ i : Nat) : Int) := Int.mul_le_mul_of_nonneg_right (by omega) (by omega)
    have h2 : (j : Int) * ((p ^ i : Nat) : Int) ≤ 63 := by omega
    have h3 : j * p ^ i ≤ 63 := by exact_mod_cast h2
    exact Nat.le_trans (Nat.mul_le_mul_left j (HPM.out s i hs)) h3)
  have HV := Lib.hid (bcells_congr (spS_end (q := p ^ i) (x := a) (n := NN) (by omega)))
  have HSS := Lib.hid (fun j k => spS_s (q := p ^ i) (j := j) (x := a) hQ1 k)
  have HSK := Lib.hid (fun j (h : a j = 0) k => spS_skip (q := p ^ i) (j := j) (x := a) hQ1 h k)
  have HZ := Lib.hid (spS_z (p ^ i) a)
  clear hNN hd hQ1
  go_enter Try.func142, Try.ntmps142
  go_upto_region 1 with (fail)
  rw [← zero64]
  obtain ⟨W1, hwo⟩ : ∃ v : World, v = ((w.alloc (.cells (bcells 64 (a)) 23)).alloc (.cells (bcells 64 fun _ => 0) 23)) := ⟨_, rfl⟩
  have B0 : Blk W1 (w.heap.size) 64 23 (a) := by subst hwo; have := ((Blk.new w 64 23 (a)).alloc (.cells (bcells 64 fun _ => 0) 23)); simpa using this
  have B1 : Blk W1 (w.heap.size + 1) 64 23 (fun _ => 0) := by subst hwo; have := (Blk.new (w.alloc (.cells (bcells 64 (a)) 23)) 64 23 (fun _ => 0)); simpa using this
  have hb : Below w.heap.size w W1 := by subst hwo; exact (((Below.refl _ _).alloc (Nat.le_refl _) _).alloc (by simp) _)
  rw [← hwo]
  clear hwo
  have lt_B0 := B0.lt
  have lt_B1 := B1.lt
  go_upto_region 2 with (first | rw [← zero64] | (refine wpList_load_any rfl 23 (.tmp 4) rfl _ rfl 64 23 _ (B0) _ Try.underlying23 rfl Try.size23 ?_) | (go_at_call 73; refine (l01Deg_any a _).mono ?_; rintro e W2 ⟨rfl, hW2⟩; replace B0 := B0.below hW2 B0.lt; replace B1 := B1.below hW2 B1.lt; replace hb := (hb).trans (hW2.mono (hb).size); rw [HD.out]) | (refine wpList_store_blk rfl 23 (.tmp 8) (.tmp 13) rfl _ 64 (fun _ => 0) rfl rfl 23 _ ((Blk.new W2 64 23 (fun _ => 0))) Try.size23 ?_; try simp only [Act.put]; go_upto_region 2 with (fail)))
  have lt_B0 := B0.lt
  have lt_B1 := B1.lt
  have lhb := hb.size
  have qB0 : Blk ((W2.alloc (.cells (bcells 64 fun _ => 0) 23)).setRow (W2.heap.size) (bcells 64 (fun _ => 0))) (w.heap.size) 64 23 (a) := ((B0.alloc (.cells (bcells 64 fun _ => 0) 23)).rowOther (by omega))
  have qB1 : Blk ((W2.alloc (.cells (bcells 64 fun _ => 0) 23)).setRow (W2.heap.size) (bcells 64 (fun _ => 0))) (w.heap.size + 1) 64 23 (fun _ => 0) := ((B1.alloc (.cells (bcells 64 fun _ => 0) 23)).rowOther (by omega))
  have qB2 : Blk ((W2.alloc (.cells (bcells 64 fun _ => 0) 23)).setRow (W2.heap.size) (bcells 64 (fun _ => 0))) (W2.heap.size) 64 23 (fun _ => 0) := ((Blk.new W2 64 23 (fun _ => 0)).row (fun _ => 0))
  have qhb : Below w.heap.size w ((W2.alloc (.cells (bcells 64 fun _ => 0) 23)).setRow (W2.heap.size) (bcells 64 (fun _ => 0))) := (below_row (hb.alloc (by have := hb.size; simp; omega) (.cells (bcells 64 fun _ => 0) 23)) (by omega) _)
  obtain ⟨W3, hwo⟩ : ∃ v : World, v = ((W2.alloc (.cells (bcells 64 fun _ => 0) 23)).setRow (W2.heap.size) (bcells 64 (fun _ => 0))) := ⟨_, rfl⟩
  rw [← hwo] at qB0 qB1 qB2 qhb ⊢
  clear hwo
  clear B0 B1 hb
  have B0 := qB0
  have B1 := qB1
  have B2 := qB2
  have hb := qhb
  clear qB0 qB1 qB2 qhb
  obtain ⟨N1, hNN⟩ : ∃ n : Nat, n = W2.heap.size := ⟨_, rfl⟩
  rw [← hNN] at lt_B0 lt_B1 lhb B2 ⊢
  clear hNN
  have zN1_0 := lt_B0
  have zN1_1 := lt_B1
  have zN1 := lhb
  clear lt_B0 lt_B1 lhb
  try simp only [Act.put, List.setIfInBounds_toArray, List.set_cons_zero, List.set_cons_succ]
  go_wp2_with fail
  go_loopw [10] (fun c wr => ∃ j : Nat, c = .int .i64 (j : Int) ∧ j ≤ NN ∧ Below w.heap.size w wr ∧ Blk wr (w.heap.size) 64 23 a ∧ Blk wr (w.heap.size + 1) 64 23 (fun _ => 0) ∧ Blk wr (N1) 64 23 (spS (p ^ i) a j)) (fun c _ => NN - (intOf c).toNat)
  case atStart => exact ⟨0, rfl, Nat.zero_le _, hb, B0, B1, by rw [HZ.out]; exact B2⟩
  case round =>
    clear hb B0 B1 B2
    obtain ⟨j, rfl, hjn, hb, B0, B1, B2⟩ := hrel
    by_cases hj : j < NN
    · have hji : (j : Int) ≤ (NN : Int) - 1 := by omega
      have hj6 : j < 64 := by omega
      have haj := la j hj6
      by_cases ha : a j = 0
      · have cc : wr.cell? ⟨w.heap.size, j, none⟩ = some (.int .u8 0) := by have h := B0.cell (i := j) hj6; rw [ha] at h; exact h
        have HZ2 := Lib.hid (fun k => HSK.out j ha k)
        clear ha haj
        go_wp2_with fail
        go_roundw
        case rel => exact ⟨j + 1, by go_num, by omega, hb, B0, B1, B2.congr (fun k _ => HZ2.out k)⟩
        case measure => simp [intOf] <;> omega
      · have HA := Lib.hid ha
        obtain ⟨C, hC⟩ : ∃ C, C = a j := ⟨_, rfl⟩
        have HC := Lib.hid hC
        have hC0 : ¬ (C : Int) = 0 := by omega
        have hCb : ((C : Int) == 0) = false := by simp; omega
        have hC7 : C < p := by rw [hC]; exact haj
        have cc : wr.cell? ⟨w.heap.size, j, none⟩ = some (.int .u8 (C : Int)) := by have h := B0.cell (i := j) hj6; rw [← hC] at h; exact h
        clear ha haj hC
        go_wp2_with fail
        clear cc
        go_loopw [11, 12] (fun x y wr => ∃ (s A : Nat), x = .int .i64 (A : Int) ∧ y = .int .i64 (s : Int) ∧ s ≤ i ∧ Hid (A = j * p ^ s) ∧ A ≤ 63 ∧ Below w.heap.size w wr ∧ Blk wr (w.heap.size) 64 23 a ∧ Blk wr (w.heap.size + 1) 64 23 (fun _ => 0) ∧ Blk wr (N1) 64 23 (spS (p ^ i) a j)) (fun _ y _ => i - (intOf y).toNat)
        case atStart => exact ⟨0, j, rfl, rfl, Nat.zero_le _, Lib.hid (by rw [Nat.pow_zero, Nat.mul_one]), by omega, hb, B0, B1, B2⟩
        case round =>
          clear hb B0 B1 B2
          obtain ⟨s, A, rfl, rfl, hsi, hA, hA6, hb, B0, B1, B2⟩ := hrel
          by_cases hs : s < i
          · have hsI : (s : Int) < (i : Int) := by omega
            by_cases hA0 : 0 < A
            · have hAI : (0 : Int) < (A : Int) := by omega
              have hAg : (A : Int) > 0 := by omega
              obtain ⟨A2, hA2⟩ : ∃ A2, A2 = A * p := ⟨_, rfl⟩
              have HA2 := Lib.hid (show A2 = j * p ^ (s + 1) by rw [hA2, hA.out, HPS.out, Nat.mul_assoc])
              have hAp : (A : Int) * (p : Int) = (A2 : Int) := by rw [hA2]; push_cast; rfl
              have hA2b : A2 ≤ 441 := by rw [hA2]; exact Nat.le_trans (Nat.mul_le_mul hA6 p7) (by decide)
              clear hA2
              have hA26 : A2 ≤ 63 := by have h := HQ.out j hj (s + 1) (by omega); rw [← HA2.out] at h; exact h
              go_upto_region 11 with (first | rw [hAp])
              go_wp2_with fail
              go_roundw
              case rel => exact ⟨s + 1, A2, rfl, by go_num, by omega, HA2, hA26, hb, B0, B1, B2⟩
              case measure => simp [intOf] <;> omega
            · obtain rfl : A = 0 := by omega
              have hAg : ¬ (((0 : Nat) : Int) > 0) := by omega
              have hAI : ¬ ((0 : Int) < ((0 : Nat) : Int)) := by omega
              have HAQ := Lib.hid (show 0 = j * p ^ i by (have h := hA.out; have h2 : 0 < p ^ s := Nat.pow_pos (by omega); have h3 : j = 0 := (by rcases Nat.mul_eq_zero.1 h.symm with h4 | h4 <;> omega); rw [h3, Nat.zero_mul]))
              have HSJ := Lib.hid (show ∀ k, (if k = 0 then a j else spS (p ^ i) a j k) = spS (p ^ i) a (j + 1) k from fun k => by rw [HAQ.out]; exact HSS.out j k)
              have cc : wr.cell? ⟨w.heap.size, j, none⟩ = some (.int .u8 (C : Int)) := by have h := B0.cell (i := j) hj6; rw [← HC.out] at h; exact h
              have hA64 : 0 < 64 := by omega
              have c5 := B2.cell (i := 0) hA64
              have zz := B2.frozen 0
              go_upto_region 4 with (fail)
              clear cc c5 zz
              have lt_B0 := B0.lt
              have lt_B1 := B1.lt
              have lt_B2 := B2.lt
              have qB0 : Blk (wr.setCell ⟨N1, 0, none⟩ (.int .u8 ((C : Int)))) (w.heap.size) 64 23 (a) := (B0.setOther (by show (w.heap.size) ≠ (N1); omega))
              have qB1 : Blk (wr.setCell ⟨N1, 0, none⟩ (.int .u8 ((C : Int)))) (w.heap.size + 1) 64 23 (fun _ => 0) := (B1.setOther (by show (w.heap.size + 1) ≠ (N1); omega))
              have qB2 : Blk (wr.setCell ⟨N1, 0, none⟩ (.int .u8 ((C : Int)))) (N1) 64 23 (spS (p ^ i) a (j + 1)) := ((B2.set (v := C) (rfl)).congr (fun k _ => by have h := HSJ.out k; rw [← HC.out] at h; exact h))
              have qhb : Below w.heap.size w (wr.setCell ⟨N1, 0, none⟩ (.int .u8 ((C : Int)))) := (hb.setCell (by show w.heap.size ≤ (N1); omega) _)
              obtain ⟨W4, hwo⟩ : ∃ v : World, v = (wr.setCell ⟨N1, 0, none⟩ (.int .u8 ((C : Int)))) := ⟨_, rfl⟩
              rw [← hwo] at qB0 qB1 qB2 qhb ⊢
              clear hwo
              clear B0 B1 B2 hb
              have B0 := qB0
              have B1 := qB1
              have B2 := qB2
              have hb := qhb
              clear qB0 qB1 qB2 qhb
              try simp only [Act.put, List.setIfInBounds_toArray, List.set_cons_zero, List.set_cons_succ]
              go_wp2_with fail
              go_roundw
              case rel => exact ⟨j + 1, by go_num, by omega, hb, B0, B1, B2⟩
              case measure => simp [intOf] <;> omega
          · have hsI : ¬ (s : Int) < (i : Int) := by omega
            obtain rfl : s = i := by omega
            have HAQ := Lib.hid (show A = j * p ^ s by exact hA.out)
            have HSJ := Lib.hid (show ∀ k, (if k = A then a j else spS (p ^ s) a j k) = spS (p ^ s) a (j + 1) k from fun k => by rw [HAQ.out]; exact HSS.out j k)
            have cc : wr.cell? ⟨w.heap.size, j, none⟩ = some (.int .u8 (C : Int)) := by have h := B0.cell (i := j) hj6; rw [← HC.out] at h; exact h
            have hA64 : A < 64 := by omega
            have c5 := B2.cell (i := A) hA64
            have zz := B2.frozen A
            go_upto_region 4 with (fail)
            clear cc c5 zz
            have lt_B0 := B0.lt
            have lt_B1 := B1.lt
            have lt_B2 := B2.lt
            have qB0 : Blk (wr.setCell ⟨N1, A, none⟩ (.int .u8 ((C : Int)))) (w.heap.size) 64 23 (a) := (B0.setOther (by show (w.heap.size) ≠ (N1); omega))
            have qB1 : Blk (wr.setCell ⟨N1, A, none⟩ (.int .u8 ((C : Int)))) (w.heap.size + 1) 64 23 (fun _ => 0) := (B1.setOther (by show (w.heap.size + 1) ≠ (N1); omega))
            have qB2 : Blk (wr.setCell ⟨N1, A, none⟩ (.int .u8 ((C : Int)))) (N1) 64 23 (spS (p ^ s) a (j + 1)) := ((B2.set (v := C) (rfl)).congr (fun k _ => by have h := HSJ.out k; rw [← HC.out] at h; exact h))
            have qhb : Below w.heap.size w (wr.setCell ⟨N1, A, none⟩ (.int .u8 ((C : Int)))) := (hb.setCell (by show w.heap.size ≤ (N1); omega) _)
            obtain ⟨W4, hwo⟩ : ∃ v : World, v = (wr.setCell ⟨N1, A, none⟩ (.int .u8 ((C : Int)))) := ⟨_, rfl⟩
            rw [← hwo] at qB0 qB1 qB2 qhb ⊢
            clear hwo
            clear B0 B1 B2 hb
            have B0 := qB0
            have B1 := qB1
            have B2 := qB2
            have hb := qhb
            clear qB0 qB1 qB2 qhb
            try simp only [Act.put, List.setIfInBounds_toArray, List.set_cons_zero, List.set_cons_succ]
            go_wp2_with fail
            go_roundw
            case rel => exact ⟨j + 1, by go_num, by omega, hb, B0, B1, B2⟩
            case measure => simp [intOf] <;> omega
    · have hji : ¬ (j : Int) ≤ (NN : Int) - 1 := by omega
      obtain rfl : j = NN := by omega
      go_upto_region 14 with (fail)
      have lt_B0 := B0.lt
      have lt_B1 := B1.lt
      have lt_B2 := B2.lt
      go_wp2_with (first | rw [← zero64] | (refine wpList_load_any rfl 23 (.tmp 8) rfl _ rfl 64 23 _ (B2) _ Try.underlying23 rfl Try.size23 ?_) | (refine wpList_store_blk rfl 23 (.tmp 6) (.tmp 46) rfl _ 64 (spS (p ^ i) a j) rfl rfl 23 _ (B1) Try.size23 ?_; try simp only [Act.put]; go_wp2_with fail))
      have qB0 : Blk (wr.setRow (w.heap.size + 1) (bcells 64 (spS (p ^ i) a j))) (w.heap.size) 64 23 (a) := (B0.rowOther (by omega))
      have qB1 : Blk (wr.setRow (w.heap.size + 1) (bcells 64 (spS (p ^ i) a j))) (w.heap.size + 1) 64 23 (spS (p ^ i) a j) := (B1.row (spS (p ^ i) a j))
      have qB2 : Blk (wr.setRow (w.heap.size + 1) (bcells 64 (spS (p ^ i) a j))) (N1) 64 23 (spS (p ^ i) a j) := (B2.rowOther (by omega))
      have qhb : Below w.heap.size w (wr.setRow (w.heap.size + 1) (bcells 64 (spS (p ^ i) a j))) := (below_row hb (by omega) _)
      obtain ⟨W4, hwo⟩ : ∃ v : World, v = (wr.setRow (w.heap.size + 1) (bcells 64 (spS (p ^ i) a j))) := ⟨_, rfl⟩
      rw [← hwo] at qB0 qB1 qB2 qhb ⊢
      clear hwo
      clear B0 B1 B2 hb
      have B0 := qB0
      have B1 := qB1
      have B2 := qB2
      have hb := qhb
      clear qB0 qB1 qB2 qhb
      try simp only [Act.put, List.setIfInBounds_toArray, List.set_cons_zero, List.set_cons_succ]
      refine bodyPost_ret (results_bt rfl _ _ _ 64 23 5 _ rfl B1 Try.underlying23 Try.size23) rfl ⟨by rw [HV.out]; rfl, hb⟩
set_option maxRecDepth 100000 in
set_option maxHeartbeats 1600000 in
theorem l04Raise_no (p i : Nat) (a : Nat → Nat) (w : World) (p2 : 2 ≤ p) (p7 : p ≤ 7) (hi : i ≤ 20) (la : ∀ k, k < 64 → a k < p) (hd : 63 < deg a * ((p ^ i : Nat) : Int)) :
    Calls Try.prog 142 #[.int .i64 (p : Int), .agg (bcells 64 a), .int .i64 (i : Int)] w fun e w' => e = .returned (.tuple #[.agg (bcells 64 (fun _ => 0)), .bool false]) ∧ Below w.heap.size w w' := by
  obtain ⟨gb1, gb2⟩ := deg_bounds a
  obtain ⟨NN, hNN⟩ : ∃ NN : Nat, deg a = (NN : Int) - 1 := ⟨(deg a + 1).toNat, by omega⟩
  have HD := Lib.hid hNN
  have hN6 : NN ≤ 64 := by omega
  have hQ1 : 1 ≤ p ^ i := Nat.pow_pos (by omega)
  have HPS := Lib.hid (fun s : Nat => Nat.pow_succ p s)
  have HPM := Lib.hid (fun (s t : Nat) (h : s ≤ t) => Nat.pow_le_pow_right (n := p) (by omega) h)
  have HQ := Lib.hid (show ∀ j, j < NN → ∀ s, s ≤ i → True from fun _ _ _ _ => trivial)
  have HEND := Lib.hid (show ¬ ∀ t, t < NN → a t ≠ 0 → t * p ^ i ≤ 63 from fun h => by
    by_cases h0 : NN = 0
    · subst h0; rw [hNN] at hd
      have : (((0 : Nat) : Int) - 1) * ((p ^ i : Nat) : Int) = -((p ^ i : Nat) : Int) := by simp
      omega
    · have h1 := h (NN - 1) (by omega) (deg_last (by omega))
      rw [hNN] at hd
      have h2 : ((NN : Int) - 1) * ((p ^ i : Nat) : Int) = (((NN - 1) * p ^ i : Nat) : Int) := by push_cast; congr 1; omega
      omega)
  have HSS := Lib.hid (fun j k => spS_s (q := p ^ i) (j := j) (x := a) hQ1 k)
  have HSK := Lib.hid (fun j (h : a j = 0) k => spS_skip (q := p ^ i) (j := j) (x := a) hQ1 h k)
  have HZ := Lib.hid (spS_z (p ^ i) a)
  clear hNN hd hQ1
  go_enter Try.func142, Try.ntmps142
  go_upto_region 1 with (fail)
  rw [← zero64]
  obtain ⟨W1, hwo⟩ : ∃ v : World, v = ((w.alloc (.cells (bcells 64 (a)) 23)).alloc (.cells (bcells 64 fun _ => 0) 23)) := ⟨_, rfl⟩
  have B0 : Blk W1 (w.heap.size) 64 23 (a) := by subst hwo; have := ((Blk.new w 64 23 (a)).alloc (.cells (bcells 64 fun _ => 0) 23)); simpa using this
  have B1 : Blk W1 (w.heap.size + 1) 64 23 (fun _ => 0) := by subst hwo; have := (Blk.new (w.alloc (.cells (bcells 64 (a)) 23)) 64 23 (fun _ => 0)); simpa using this
  have hb : Below w.heap.size w W1 := by subst hwo; exact (((Below.refl _ _).alloc (Nat.le_refl _) _).alloc (by simp) _)
  rw [← hwo]
  clear hwo
  have lt_B0 := B0.lt
  have lt_B1 := B1.lt
  go_upto_region 2 with (first | rw [← zero64] | (refine wpList_load_any rfl 23 (.tmp 4) rfl _ rfl 64 23 _ (B0) _ Try.underlying23 rfl Try.size23 ?_) | (go_at_call 73; refine (l01Deg_any a _).mono ?_; rintro e W2 ⟨rfl, hW2⟩; replace B0 := B0.below hW2 B0.lt; replace B1 := B1.below hW2 B1.lt; replace hb := (hb).trans (hW2.mono (hb).size); rw [HD.out]) | (refine wpList_store_blk rfl 23 (.tmp 8) (.tmp 13) rfl _ 64 (fun _ => 0) rfl rfl 23 _ ((Blk.new W2 64 23 (fun _ => 0))) Try.size23 ?_; try simp only [Act.put]; go_upto_region 2 with (fail)))
  have lt_B0 := B0.lt
  have lt_B1 := B1.lt
  have lhb := hb.size
  have qB0 : Blk ((W2.alloc (.cells (bcells 64 fun _ => 0) 23)).setRow (W2.heap.size) (bcells 64 (fun _ => 0))) (w.heap.size) 64 23 (a) := ((B0.alloc (.cells (bcells 64 fun _ => 0) 23)).rowOther (by omega))
  have qB1 : Blk ((W2.alloc (.cells (bcells 64 fun _ => 0) 23)).setRow (W2.heap.size) (bcells 64 (fun _ => 0))) (w.heap.size + 1) 64 23 (fun _ => 0) := ((B1.alloc (.cells (bcells 64 fun _ => 0) 23)).rowOther (by omega))
  have qB2 : Blk ((W2.alloc (.cells (bcells 64 fun _ => 0) 23)).setRow (W2.heap.size) (bcells 64 (fun _ => 0))) (W2.heap.size) 64 23 (fun _ => 0) := ((Blk.new W2 64 23 (fun _ => 0)).row (fun _ => 0))
  have qhb : Below w.heap.size w ((W2.alloc (.cells (bcells 64 fun _ => 0) 23)).setRow (W2.heap.size) (bcells 64 (fun _ => 0))) := (below_row (hb.alloc (by have := hb.size; simp; omega) (.cells (bcells 64 fun _ => 0) 23)) (by omega) _)
  obtain ⟨W3, hwo⟩ : ∃ v : World, v = ((W2.alloc (.cells (bcells 64 fun _ => 0) 23)).setRow (W2.heap.size) (bcells 64 (fun _ => 0))) := ⟨_, rfl⟩
  rw [← hwo] at qB0 qB1 qB2 qhb ⊢
  clear hwo
  clear B0 B1 hb
  have B0 := qB0
  have B1 := qB1
  have B2 := qB2
  have hb := qhb
  clear qB0 qB1 qB2 qhb
  obtain ⟨N1, hNN⟩ : ∃ n : Nat, n = W2.heap.size := ⟨_, rfl⟩
  rw [← hNN] at lt_B0 lt_B1 lhb B2 ⊢
  clear hNN
  have zN1_0 := lt_B0
  have zN1_1 := lt_B1
  have zN1 := lhb
  clear lt_B0 lt_B1 lhb
  try simp only [Act.put, List.setIfInBounds_toArray, List.set_cons_zero, List.set_cons_succ]
  go_wp2_with fail
  go_loopw [10] (fun c wr => ∃ j : Nat, c = .int .i64 (j : Int) ∧ j ≤ NN ∧ Hid (∀ t, t < j → a t ≠ 0 → t * p ^ i ≤ 63) ∧ Below w.heap.size w wr ∧ Blk wr (w.heap.size) 64 23 a ∧ Blk wr (w.heap.size + 1) 64 23 (fun _ => 0) ∧ Blk wr (N1) 64 23 (spS (p ^ i) a j)) (fun c _ => NN - (intOf c).toNat)
  case atStart => exact ⟨0, rfl, Nat.zero_le _, Lib.hid (fun t h => absurd h (Nat.not_lt_zero t)), hb, B0, B1, by rw [HZ.out]; exact B2⟩
  case round =>
    clear hb B0 B1 B2
    obtain ⟨j, rfl, hjn, hno, hb, B0, B1, B2⟩ := hrel
    by_cases hj : j < NN
    · have hji : (j : Int) ≤ (NN : Int) - 1 := by omega
      have hj6 : j < 64 := by omega
      have haj := la j hj6
      by_cases ha : a j = 0
      · have cc : wr.cell? ⟨w.heap.size, j, none⟩ = some (.int .u8 0) := by have h := B0.cell (i := j) hj6; rw [ha] at h; exact h
        have HZ2 := Lib.hid (fun k => HSK.out j ha k)
        have HNO := Lib.hid (show ∀ t, t < j + 1 → a t ≠ 0 → t * p ^ i ≤ 63 from fun t h1 h2 => by
          by_cases e : t = j
          · subst e; exact absurd ha h2
          · exact hno.out t (by omega) h2)
        clear ha haj
        go_wp2_with fail
        go_roundw
        case rel => exact ⟨j + 1, by go_num, by omega, HNO, hb, B0, B1, B2.congr (fun k _ => HZ2.out k)⟩
        case measure => simp [intOf] <;> omega
      · have HA := Lib.hid ha
        obtain ⟨C, hC⟩ : ∃ C, C = a j := ⟨_, rfl⟩
        have HC := Lib.hid hC
        have hC0 : ¬ (C : Int) = 0 := by omega
        have hCb : ((C : Int) == 0) = false := by simp; omega
        have hC7 : C < p := by rw [hC]; exact haj
        have cc : wr.cell? ⟨w.heap.size, j, none⟩ = some (.int .u8 (C : Int)) := by have h := B0.cell (i := j) hj6; rw [← hC] at h; exact h
        clear ha haj hC
        go_wp2_with fail
        clear cc
        go_loopw [11, 12] (fun x y wr => ∃ (s A : Nat), x = .int .i64 (A : Int) ∧ y = .int .i64 (s : Int) ∧ s ≤ i ∧ Hid (A = j * p ^ s) ∧ A ≤ 63 ∧ Below w.heap.size w wr ∧ Blk wr (w.heap.size) 64 23 a ∧ Blk wr (w.heap.size + 1) 64 23 (fun _ => 0) ∧ Blk wr (N1) 64 23 (spS (p ^ i) a j)) (fun _ y _ => i - (intOf y).toNat)
        case atStart => exact ⟨0, j, rfl, rfl, Nat.zero_le _, Lib.hid (by rw [Nat.pow_zero, Nat.mul_one]), by omega, hb, B0, B1, B2⟩
        case round =>
          clear hb B0 B1 B2
          obtain ⟨s, A, rfl, rfl, hsi, hA, hA6, hb, B0, B1, B2⟩ := hrel
          by_cases hs : s < i
          · have hsI : (s : Int) < (i : Int) := by omega
            by_cases hA0 : 0 < A
            · have hAI : (0 : Int) < (A : Int) := by omega
              have hAg : (A : Int) > 0 := by omega
              obtain ⟨A2, hA2⟩ : ∃ A2, A2 = A * p := ⟨_, rfl⟩
              have HA2 := Lib.hid (show A2 = j * p ^ (s + 1) by rw [hA2, hA.out, HPS.out, Nat.mul_assoc])
              have hAp : (A : Int) * (p : Int) = (A2 : Int) := by rw [hA2]; push_cast; rfl
              have hA2b : A2 ≤ 441 := by rw [hA2]; exact Nat.le_trans (Nat.mul_le_mul hA6 p7) (by decide)
              clear hA2
              by_cases hA26 : A2 ≤ 63
              · skip
                go_upto_region 11 with (first | rw [hAp])
                go_wp2_with fail
                go_roundw
                case rel => exact ⟨s + 1, A2, rfl, by go_num, by omega, HA2, hA26, hb, B0, B1, B2⟩
                case measure => simp [intOf] <;> omega
              · have hA27 : (A2 : Int) > 63 := by omega
                go_upto_region 11 with (first | rw [hAp])
                go_upto_region 12 with (fail)
                have lt_B0 := B0.lt
                have lt_B1 := B1.lt
                have lt_B2 := B2.lt
                go_wp2_with (first | rw [← zero64] | (refine wpList_store_blk rfl 23 (.tmp 6) (.tmp 40) rfl _ 64 (fun _ => 0) rfl rfl 23 _ (B1) Try.size23 ?_; try simp only [Act.put]; go_wp2_with fail))
                have qB0 : Blk (wr.setRow (w.heap.size + 1) (bcells 64 (fun _ => 0))) (w.heap.size) 64 23 (a) := (B0.rowOther (by omega))
                have qB1 : Blk (wr.setRow (w.heap.size + 1) (bcells 64 (fun _ => 0))) (w.heap.size + 1) 64 23 (fun _ => 0) := (B1.row (fun _ => 0))
                have qB2 : Blk (wr.setRow (w.heap.size + 1) (bcells 64 (fun _ => 0))) (N1) 64 23 (spS (p ^ i) a j) := (B2.rowOther (by omega))
                have qhb : Below w.heap.size w (wr.setRow (w.heap.size + 1) (bcells 64 (fun _ => 0))) := (below_row hb (by omega) _)
                obtain ⟨W4, hwo⟩ : ∃ v : World, v = (wr.setRow (w.heap.size + 1) (bcells 64 (fun _ => 0))) := ⟨_, rfl⟩
                rw [← hwo] at qB0 qB1 qB2 qhb ⊢
                clear hwo
                clear B0 B1 B2 hb
                have B0 := qB0
                have B1 := qB1
                have B2 := qB2
                have hb := qhb
                clear qB0 qB1 qB2 qhb
                try simp only [Act.put, List.setIfInBounds_toArray, List.set_cons_zero, List.set_cons_succ]
                refine bodyPost_ret (results_bt rfl _ _ _ 64 23 5 _ rfl B1 Try.underlying23 Try.size23) rfl ⟨rfl, hb⟩
            · obtain rfl : A = 0 := by omega
              have hAg : ¬ (((0 : Nat) : Int) > 0) := by omega
              have hAI : ¬ ((0 : Int) < ((0 : Nat) : Int)) := by omega
              have HAQ := Lib.hid (show 0 = j * p ^ i by (have h := hA.out; have h2 : 0 < p ^ s := Nat.pow_pos (by omega); have h3 : j = 0 := (by rcases Nat.mul_eq_zero.1 h.symm with h4 | h4 <;> omega); rw [h3, Nat.zero_mul]))
              have HSJ := Lib.hid (show ∀ k, (if k = 0 then a j else spS (p ^ i) a j k) = spS (p ^ i) a (j + 1) k from fun k => by rw [HAQ.out]; exact HSS.out j k)
              have cc : wr.cell? ⟨w.heap.size, j, none⟩ = some (.int .u8 (C : Int)) := by have h := B0.cell (i := j) hj6; rw [← HC.out] at h; exact h
              have hA64 : 0 < 64 := by omega
              have c5 := B2.cell (i := 0) hA64
              have zz := B2.frozen 0
              have HNO := Lib.hid (show ∀ t, t < j + 1 → a t ≠ 0 → t * p ^ i ≤ 63 from fun t h1 h2 => by
                by_cases e : t = j
                · subst e; have := HAQ.out; omega
                · exact hno.out t (by omega) h2)
              go_upto_region 4 with (fail)
              clear cc c5 zz
              have lt_B0 := B0.lt
              have lt_B1 := B1.lt
              have lt_B2 := B2.lt
              have qB0 : Blk (wr.setCell ⟨N1, 0, none⟩ (.int .u8 ((C : Int)))) (w.heap.size) 64 23 (a) := (B0.setOther (by show (w.heap.size) ≠ (N1); omega))
              have qB1 : Blk (wr.setCell ⟨N1, 0, none⟩ (.int .u8 ((C : Int)))) (w.heap.size + 1) 64 23 (fun _ => 0) := (B1.setOther (by show (w.heap.size + 1) ≠ (N1); omega))
              have qB2 : Blk (wr.setCell ⟨N1, 0, none⟩ (.int .u8 ((C : Int)))) (N1) 64 23 (spS (p ^ i) a (j + 1)) := ((B2.set (v := C) (rfl)).congr (fun k _ => by have h := HSJ.out k; rw [← HC.out] at h; exact h))
              have qhb : Below w.heap.size w (wr.setCell ⟨N1, 0, none⟩ (.int .u8 ((C : Int)))) := (hb.setCell (by show w.heap.size ≤ (N1); omega) _)
              obtain ⟨W4, hwo⟩ : ∃ v : World, v = (wr.setCell ⟨N1, 0, none⟩ (.int .u8 ((C : Int)))) := ⟨_, rfl⟩
              rw [← hwo] at qB0 qB1 qB2 qhb ⊢
              clear hwo
              clear B0 B1 B2 hb
              have B0 := qB0
              have B1 := qB1
              have B2 := qB2
              have hb := qhb
              clear qB0 qB1 qB2 qhb
              try simp only [Act.put, List.setIfInBounds_toArray, List.set_cons_zero, List.set_cons_succ]
              go_wp2_with fail
              go_roundw
              case rel => exact ⟨j + 1, by go_num, by omega, HNO, hb, B0, B1, B2⟩
              case measure => simp [intOf] <;> omega
          · have hsI : ¬ (s : Int) < (i : Int) := by omega
            obtain rfl : s = i := by omega
            have HAQ := Lib.hid (show A = j * p ^ s by exact hA.out)
            have HSJ := Lib.hid (show ∀ k, (if k = A then a j else spS (p ^ s) a j k) = spS (p ^ s) a (j + 1) k from fun k => by rw [HAQ.out]; exact HSS.out j k)
            have cc : wr.cell? ⟨w.heap.size, j, none⟩ = some (.int .u8 (C : Int)) := by have h := B0.cell (i := j) hj6; rw [← HC.out] at h; exact h
            have hA64 : A < 64 := by omega
            have c5 := B2.cell (i := A) hA64
            have zz := B2.frozen A
            have HNO := Lib.hid (show ∀ t, t < j + 1 → a t ≠ 0 → t * p ^ s ≤ 63 from fun t h1 h2 => by
              by_cases e : t = j
              · subst e; have := HAQ.out; omega
              · exact hno.out t (by omega) h2)
            go_upto_region 4 with (fail)
            clear cc c5 zz
            have lt_B0 := B0.lt
            have lt_B1 := B1.lt
            have lt_B2 := B2.lt
            have qB0 : Blk (wr.setCell ⟨N1, A, none⟩ (.int .u8 ((C : Int)))) (w.heap.size) 64 23 (a) := (B0.setOther (by show (w.heap.size) ≠ (N1); omega))
            have qB1 : Blk (wr.setCell ⟨N1, A, none⟩ (.int .u8 ((C : Int)))) (w.heap.size + 1) 64 23 (fun _ => 0) := (B1.setOther (by show (w.heap.size + 1) ≠ (N1); omega))
            have qB2 : Blk (wr.setCell ⟨N1, A, none⟩ (.int .u8 ((C : Int)))) (N1) 64 23 (spS (p ^ s) a (j + 1)) := ((B2.set (v := C) (rfl)).congr (fun k _ => by have h := HSJ.out k; rw [← HC.out] at h; exact h))
            have qhb : Below w.heap.size w (wr.setCell ⟨N1, A, none⟩ (.int .u8 ((C : Int)))) := (hb.setCell (by show w.heap.size ≤ (N1); omega) _)
            obtain ⟨W4, hwo⟩ : ∃ v : World, v = (wr.setCell ⟨N1, A, none⟩ (.int .u8 ((C : Int)))) := ⟨_, rfl⟩
            rw [← hwo] at qB0 qB1 qB2 qhb ⊢
            clear hwo
            clear B0 B1 B2 hb
            have B0 := qB0
            have B1 := qB1
            have B2 := qB2
            have hb := qhb
            clear qB0 qB1 qB2 qhb
            try simp only [Act.put, List.setIfInBounds_toArray, List.set_cons_zero, List.set_cons_succ]
            go_wp2_with fail
            go_roundw
            case rel => exact ⟨j + 1, by go_num, by omega, HNO, hb, B0, B1, B2⟩
            case measure => simp [intOf] <;> omega
    · have hji : ¬ (j : Int) ≤ (NN : Int) - 1 := by omega
      obtain rfl : j = NN := by omega
      exact absurd hno.out HEND.out
theorem l04Raise_any (p i : Nat) (a : Nat → Nat) (w : World) (p2 : 2 ≤ p) (p7 : p ≤ 7) (hi : i ≤ 20) (la : ∀ k, k < 64 → a k < p) :
    Calls Try.prog 142 #[.int .i64 (p : Int), .agg (bcells 64 a), .int .i64 (i : Int)] w fun e w' => e = .returned (.tuple #[.agg (bcells 64 (rsV p a i).1), .bool (rsV p a i).2]) ∧ Below w.heap.size w w' := by
  by_cases h : deg a * ((p ^ i : Nat) : Int) ≤ 63
  · rw [rsV_ok h]; exact l04Raise_ok p i a w p2 p7 hi la h
  · rw [rsV_no (by omega)]; exact l04Raise_no p i a w p2 p7 hi la (by omega)
set_option maxRecDepth 100000 in
set_option maxHeartbeats 1600000 in
theorem l04Bracket_any (p i j : Nat) (w : World) (p2 : 2 ≤ p) (p7 : p ≤ 7) (hi : i ≤ 20) (hj : j ≤ 20) :
    Calls Try.prog 127 #[.int .i64 (p : Int), .int .i64 (i : Int), .int .i64 (j : Int)] w fun e w' => e = .returned (.tuple #[.agg (bcells 64 (bkV p i j).1), .bool (bkV p i j).2]) ∧ Below w.heap.size w w' := by
  have lT : ∀ k, k < 64 → TP k < p := fun k _ => TP_lt p2 k
  have HR1 := Lib.hid (fun W => l04Raise_any p i TP W p2 p7 hi lT)
  have HR2 := Lib.hid (fun W => l04Raise_any p j TP W p2 p7 hj lT)
  have l1 := rsV_lt (i := i) p2 lT
  have l2 := rsV_lt (i := j) p2 lT
  have HAD := Lib.hid (fun W => l01Add_any p (rsV p TP i).1 (rsV p TP j).1 (-1) W p2 p7 (by omega) (by omega) l1 l2)
  have HV := Lib.hid (show addK p (rsV p TP i).1 (rsV p TP j).1 (-1) = (bkV p i j).1 by unfold bkV; rfl)
  have HV2 := Lib.hid (show ((rsV p TP i).2 && (rsV p TP j).2) = (bkV p i j).2 by unfold bkV; rfl)
  obtain ⟨u1, hu1⟩ : ∃ u, u = (rsV p TP i).2 := ⟨_, rfl⟩
  obtain ⟨u2, hu2⟩ : ∃ u, u = (rsV p TP j).2 := ⟨_, rfl⟩
  rw [← hu1] at HR1 HV2
  rw [← hu2] at HR2 HV2
  clear hu1 hu2 l1 l2
  go_enter Try.func127, Try.ntmps127
  go_upto_region 1 with (fail)
  rw [← zero64]
  obtain ⟨W1, hwo⟩ : ∃ v : World, v = (w.alloc (.cells (bcells 64 fun _ => 0) 23)) := ⟨_, rfl⟩
  have B0 : Blk W1 (w.heap.size) 64 23 (fun _ => 0) := by subst hwo; have := (Blk.new w 64 23 (fun _ => 0)); simpa using this
  have hb : Below w.heap.size w W1 := by subst hwo; exact ((Below.refl _ _).alloc (Nat.le_refl _) _)
  rw [← hwo]
  clear hwo
  have lt_B0 := B0.lt
  go_upto_region 2 with (first | rw [← zero64] | (go_at_call 152; refine (l01T_any _).mono ?_; rintro e W2 ⟨rfl, hW2⟩; replace B0 := B0.below hW2 B0.lt; replace hb := (hb).trans (hW2.mono (hb).size)) | (go_at_call 142; refine (HR1.out _).mono ?_; rintro e W3 ⟨rfl, hW3⟩; replace B0 := B0.below hW3 B0.lt; replace hb := (hb).trans (hW3.mono (hb).size)) | (refine wpList_store_blk rfl 23 (.tmp 8) (.tmp 17) rfl _ 64 ((rsV p TP i).1) rfl rfl 23 _ ((Blk.new W3 64 23 (fun _ => 0))) Try.size23 ?_; try simp only [Act.put]; go_upto_region 2 with (fail)))
  have lt_B0 := B0.lt
  have lhb := hb.size
  have qB0 : Blk ((W3.alloc (.cells (bcells 64 fun _ => 0) 23)).setRow (W3.heap.size) (bcells 64 ((rsV p TP i).1))) (w.heap.size) 64 23 (fun _ => 0) := ((B0.alloc (.cells (bcells 64 fun _ => 0) 23)).rowOther (by omega))
  have qB1 : Blk ((W3.alloc (.cells (bcells 64 fun _ => 0) 23)).setRow (W3.heap.size) (bcells 64 ((rsV p TP i).1))) (W3.heap.size) 64 23 ((rsV p TP i).1) := ((Blk.new W3 64 23 (fun _ => 0)).row ((rsV p TP i).1))
  have qhb : Below w.heap.size w ((W3.alloc (.cells (bcells 64 fun _ => 0) 23)).setRow (W3.heap.size) (bcells 64 ((rsV p TP i).1))) := (below_row (hb.alloc (by have := hb.size; simp; omega) (.cells (bcells 64 fun _ => 0) 23)) (by omega) _)
  obtain ⟨W4, hwo⟩ : ∃ v : World, v = ((W3.alloc (.cells (bcells 64 fun _ => 0) 23)).setRow (W3.heap.size) (bcells 64 ((rsV p TP i).1))) := ⟨_, rfl⟩
  rw [← hwo] at qB0 qB1 qhb ⊢
  clear hwo
  clear B0 hb
  have B0 := qB0
  have B1 := qB1
  have hb := qhb
  clear qB0 qB1 qhb
  obtain ⟨N1, hNN⟩ : ∃ n : Nat, n = W3.heap.size := ⟨_, rfl⟩
  rw [← hNN] at lt_B0 lhb B1 ⊢
  clear hNN
  have zN1_0 := lt_B0
  have zN1 := lhb
  clear lt_B0 lhb
  try simp only [Act.put, List.setIfInBounds_toArray, List.set_cons_zero, List.set_cons_succ]
  have lt_B0 := B0.lt
  have lt_B1 := B1.lt
  go_upto_region 3 with (first | rw [← zero64] | (go_at_call 152; refine (l01T_any _).mono ?_; rintro e W5 ⟨rfl, hW5⟩; replace B0 := B0.below hW5 B0.lt; replace B1 := B1.below hW5 B1.lt; replace hb := (hb).trans (hW5.mono (hb).size)) | (go_at_call 142; refine (HR2.out _).mono ?_; rintro e W6 ⟨rfl, hW6⟩; replace B0 := B0.below hW6 B0.lt; replace B1 := B1.below hW6 B1.lt; replace hb := (hb).trans (hW6.mono (hb).size)) | (refine wpList_store_blk rfl 23 (.tmp 10) (.tmp 24) rfl _ 64 ((rsV p TP j).1) rfl rfl 23 _ ((Blk.new W6 64 23 (fun _ => 0))) Try.size23 ?_; try simp only [Act.put]; go_upto_region 3 with (fail)))
  have lt_B0 := B0.lt
  have lt_B1 := B1.lt
  have lhb := hb.size
  have qB0 : Blk ((W6.alloc (.cells (bcells 64 fun _ => 0) 23)).setRow (W6.heap.size) (bcells 64 ((rsV p TP j).1))) (w.heap.size) 64 23 (fun _ => 0) := ((B0.alloc (.cells (bcells 64 fun _ => 0) 23)).rowOther (by omega))
  have qB1 : Blk ((W6.alloc (.cells (bcells 64 fun _ => 0) 23)).setRow (W6.heap.size) (bcells 64 ((rsV p TP j).1))) (N1) 64 23 ((rsV p TP i).1) := ((B1.alloc (.cells (bcells 64 fun _ => 0) 23)).rowOther (by omega))
  have qB2 : Blk ((W6.alloc (.cells (bcells 64 fun _ => 0) 23)).setRow (W6.heap.size) (bcells 64 ((rsV p TP j).1))) (W6.heap.size) 64 23 ((rsV p TP j).1) := ((Blk.new W6 64 23 (fun _ => 0)).row ((rsV p TP j).1))
  have qhb : Below w.heap.size w ((W6.alloc (.cells (bcells 64 fun _ => 0) 23)).setRow (W6.heap.size) (bcells 64 ((rsV p TP j).1))) := (below_row (hb.alloc (by have := hb.size; simp; omega) (.cells (bcells 64 fun _ => 0) 23)) (by omega) _)
  obtain ⟨W7, hwo⟩ : ∃ v : World, v = ((W6.alloc (.cells (bcells 64 fun _ => 0) 23)).setRow (W6.heap.size) (bcells 64 ((rsV p TP j).1))) := ⟨_, rfl⟩
  rw [← hwo] at qB0 qB1 qB2 qhb ⊢
  clear hwo
  clear B0 B1 hb
  have B0 := qB0
  have B1 := qB1
  have B2 := qB2
  have hb := qhb
  clear qB0 qB1 qB2 qhb
  obtain ⟨N2, hNN⟩ : ∃ n : Nat, n = W6.heap.size := ⟨_, rfl⟩
  rw [← hNN] at lt_B0 lt_B1 lhb B2 ⊢
  clear hNN
  have zN2_0 := lt_B0
  have zN2_1 := lt_B1
  have zN2 := lhb
  clear lt_B0 lt_B1 lhb
  try simp only [Act.put, List.setIfInBounds_toArray, List.set_cons_zero, List.set_cons_succ]
  cases u1 with
  | false =>
    have lt_B0 := B0.lt
    have lt_B1 := B1.lt
    have lt_B2 := B2.lt
    go_wp2_with (first | rw [← zero64] | (refine wpList_load_any rfl 23 (.tmp 8) rfl _ rfl 64 23 _ (B1) _ Try.underlying23 rfl Try.size23 ?_) | (refine wpList_load_any rfl 23 (.tmp 10) rfl _ rfl 64 23 _ (B2) _ Try.underlying23 rfl Try.size23 ?_) | (go_at_call 107; refine (HAD.out _).mono ?_; rintro e W8 ⟨rfl, hW8⟩; replace B0 := B0.below hW8 B0.lt; replace B1 := B1.below hW8 B1.lt; replace B2 := B2.below hW8 B2.lt; replace hb := (hb).trans (hW8.mono (hb).size)) | (refine wpList_store_blk rfl 23 (.tmp 6) (.tmp 29) rfl _ 64 (addK p (rsV p TP i).1 (rsV p TP j).1 (-1)) rfl rfl 23 _ (B0) Try.size23 ?_; try simp only [Act.put]; go_wp2_with fail))
    have qB0 : Blk (W8.setRow (w.heap.size) (bcells 64 (addK p (rsV p TP i).1 (rsV p TP j).1 (-1)))) (w.heap.size) 64 23 (addK p (rsV p TP i).1 (rsV p TP j).1 (-1)) := (B0.row (addK p (rsV p TP i).1 (rsV p TP j).1 (-1)))
    have qB1 : Blk (W8.setRow (w.heap.size) (bcells 64 (addK p (rsV p TP i).1 (rsV p TP j).1 (-1)))) (N1) 64 23 ((rsV p TP i).1) := (B1.rowOther (by omega))
    have qB2 : Blk (W8.setRow (w.heap.size) (bcells 64 (addK p (rsV p TP i).1 (rsV p TP j).1 (-1)))) (N2) 64 23 ((rsV p TP j).1) := (B2.rowOther (by omega))
    have qhb : Below w.heap.size w (W8.setRow (w.heap.size) (bcells 64 (addK p (rsV p TP i).1 (rsV p TP j).1 (-1)))) := (below_row hb (by omega) _)
    obtain ⟨W9, hwo⟩ : ∃ v : World, v = (W8.setRow (w.heap.size) (bcells 64 (addK p (rsV p TP i).1 (rsV p TP j).1 (-1)))) := ⟨_, rfl⟩
    rw [← hwo] at qB0 qB1 qB2 qhb ⊢
    clear hwo
    clear B0 B1 B2 hb
    have B0 := qB0
    have B1 := qB1
    have B2 := qB2
    have hb := qhb
    clear qB0 qB1 qB2 qhb
    try simp only [Act.put, List.setIfInBounds_toArray, List.set_cons_zero, List.set_cons_succ]
    refine bodyPost_ret (results_bt rfl _ _ _ 64 23 5 _ rfl B0 Try.underlying23 Try.size23) rfl ⟨by rw [← HV.out, ← HV2.out]; rfl, hb⟩
  | true =>
    cases u2 with
    | false =>
      have lt_B0 := B0.lt
      have lt_B1 := B1.lt
      have lt_B2 := B2.lt
      go_wp2_with (first | rw [← zero64] | (refine wpList_load_any rfl 23 (.tmp 8) rfl _ rfl 64 23 _ (B1) _ Try.underlying23 rfl Try.size23 ?_) | (refine wpList_load_any rfl 23 (.tmp 10) rfl _ rfl 64 23 _ (B2) _ Try.underlying23 rfl Try.size23 ?_) | (go_at_call 107; refine (HAD.out _).mono ?_; rintro e W8 ⟨rfl, hW8⟩; replace B0 := B0.below hW8 B0.lt; replace B1 := B1.below hW8 B1.lt; replace B2 := B2.below hW8 B2.lt; replace hb := (hb).trans (hW8.mono (hb).size)) | (refine wpList_store_blk rfl 23 (.tmp 6) (.tmp 29) rfl _ 64 (addK p (rsV p TP i).1 (rsV p TP j).1 (-1)) rfl rfl 23 _ (B0) Try.size23 ?_; try simp only [Act.put]; go_wp2_with fail))
      have qB0 : Blk (W8.setRow (w.heap.size) (bcells 64 (addK p (rsV p TP i).1 (rsV p TP j).1 (-1)))) (w.heap.size) 64 23 (addK p (rsV p TP i).1 (rsV p TP j).1 (-1)) := (B0.row (addK p (rsV p TP i).1 (rsV p TP j).1 (-1)))
      have qB1 : Blk (W8.setRow (w.heap.size) (bcells 64 (addK p (rsV p TP i).1 (rsV p TP j).1 (-1)))) (N1) 64 23 ((rsV p TP i).1) := (B1.rowOther (by omega))
      have qB2 : Blk (W8.setRow (w.heap.size) (bcells 64 (addK p (rsV p TP i).1 (rsV p TP j).1 (-1)))) (N2) 64 23 ((rsV p TP j).1) := (B2.rowOther (by omega))
      have qhb : Below w.heap.size w (W8.setRow (w.heap.size) (bcells 64 (addK p (rsV p TP i).1 (rsV p TP j).1 (-1)))) := (below_row hb (by omega) _)
      obtain ⟨W9, hwo⟩ : ∃ v : World, v = (W8.setRow (w.heap.size) (bcells 64 (addK p (rsV p TP i).1 (rsV p TP j).1 (-1)))) := ⟨_, rfl⟩
      rw [← hwo] at qB0 qB1 qB2 qhb ⊢
      clear hwo
      clear B0 B1 B2 hb
      have B0 := qB0
      have B1 := qB1
      have B2 := qB2
      have hb := qhb
      clear qB0 qB1 qB2 qhb
      try simp only [Act.put, List.setIfInBounds_toArray, List.set_cons_zero, List.set_cons_succ]
      refine bodyPost_ret (results_bt rfl _ _ _ 64 23 5 _ rfl B0 Try.underlying23 Try.size23) rfl ⟨by rw [← HV.out, ← HV2.out]; rfl, hb⟩
    | true =>
      have lt_B0 := B0.lt
      have lt_B1 := B1.lt
      have lt_B2 := B2.lt
      go_wp2_with (first | rw [← zero64] | (refine wpList_load_any rfl 23 (.tmp 8) rfl _ rfl 64 23 _ (B1) _ Try.underlying23 rfl Try.size23 ?_) | (refine wpList_load_any rfl 23 (.tmp 10) rfl _ rfl 64 23 _ (B2) _ Try.underlying23 rfl Try.size23 ?_) | (go_at_call 107; refine (HAD.out _).mono ?_; rintro e W8 ⟨rfl, hW8⟩; replace B0 := B0.below hW8 B0.lt; replace B1 := B1.below hW8 B1.lt; replace B2 := B2.below hW8 B2.lt; replace hb := (hb).trans (hW8.mono (hb).size)) | (refine wpList_store_blk rfl 23 (.tmp 6) (.tmp 29) rfl _ 64 (addK p (rsV p TP i).1 (rsV p TP j).1 (-1)) rfl rfl 23 _ (B0) Try.size23 ?_; try simp only [Act.put]; go_wp2_with fail))
      have qB0 : Blk (W8.setRow (w.heap.size) (bcells 64 (addK p (rsV p TP i).1 (rsV p TP j).1 (-1)))) (w.heap.size) 64 23 (addK p (rsV p TP i).1 (rsV p TP j).1 (-1)) := (B0.row (addK p (rsV p TP i).1 (rsV p TP j).1 (-1)))
      have qB1 : Blk (W8.setRow (w.heap.size) (bcells 64 (addK p (rsV p TP i).1 (rsV p TP j).1 (-1)))) (N1) 64 23 ((rsV p TP i).1) := (B1.rowOther (by omega))
      have qB2 : Blk (W8.setRow (w.heap.size) (bcells 64 (addK p (rsV p TP i).1 (rsV p TP j).1 (-1)))) (N2) 64 23 ((rsV p TP j).1) := (B2.rowOther (by omega))
      have qhb : Below w.heap.size w (W8.setRow (w.heap.size) (bcells 64 (addK p (rsV p TP i).1 (rsV p TP j).1 (-1)))) := (below_row hb (by omega) _)
      obtain ⟨W9, hwo⟩ : ∃ v : World, v = (W8.setRow (w.heap.size) (bcells 64 (addK p (rsV p TP i).1 (rsV p TP j).1 (-1)))) := ⟨_, rfl⟩
      rw [← hwo] at qB0 qB1 qB2 qhb ⊢
      clear hwo
      clear B0 B1 B2 hb
      have B0 := qB0
      have B1 := qB1
      have B2 := qB2
      have hb := qhb
      clear qB0 qB1 qB2 qhb
      try simp only [Act.put, List.setIfInBounds_toArray, List.set_cons_zero, List.set_cons_succ]
      refine bodyPost_ret (results_bt rfl _ _ _ 64 23 5 _ rfl B0 Try.underlying23 Try.size23) rfl ⟨by rw [← HV.out, ← HV2.out]; rfl, hb⟩
set_option maxRecDepth 100000 in
set_option maxHeartbeats 1600000 in
theorem l04FactF_ok (p i : Nat) (w : World) (p2 : 2 ≤ p) (p7 : p ≤ 7) (hi20 : i ≤ 20) (F : Nat → Nat) (hF : fcR p i false i = some F) :
    Calls Try.prog 132 #[.int .i64 (p : Int), .int .i64 (i : Int), .bool false] w fun e w' => e = .returned (.tuple #[.agg (bcells 64 (F)), .bool true]) ∧ Below w.heap.size w w' := by
  have HF := Lib.hid hF
  have HZ := Lib.hid (fcR_z p i false)
  have HLT := Lib.hid (fun j f => fcR_lt (p := p) (i := i) (s := false) p2 j f)
  have HBL := Lib.hid (fun j k => bkS_lt (p := p) (i := i) (s := false) (j := j) p2 k)
  have HBK := Lib.hid (fun i j W (h1 : i ≤ 20) (h2 : j ≤ 20) => l04Bracket_any p i j W p2 p7 h1 h2)
  have HBE := Lib.hid (show ∀ j, (bkS p i false j) = (bkV p i j) from fun j => by unfold bkS; rfl)
  clear hF
  go_enter Try.func132, Try.ntmps132
  go_upto_region 1 with (fail)
  rw [← zero64]
  obtain ⟨W1, hwo⟩ : ∃ v : World, v = (w.alloc (.cells (bcells 64 fun _ => 0) 23)) := ⟨_, rfl⟩
  have B0 : Blk W1 (w.heap.size) 64 23 (fun _ => 0) := by subst hwo; have := (Blk.new w 64 23 (fun _ => 0)); simpa using this
  have hb : Below w.heap.size w W1 := by subst hwo; exact ((Below.refl _ _).alloc (Nat.le_refl _) _)
  rw [← hwo]
  clear hwo
  have lt_B0 := B0.lt
  go_upto_region 2 with (first | rw [← zero64] | (go_at_call 75; refine (l01One_any _).mono ?_; rintro e W2 ⟨rfl, hW2⟩; replace B0 := B0.below hW2 B0.lt; replace hb := (hb).trans (hW2.mono (hb).size)) | (refine wpList_store_blk rfl 23 (.tmp 8) (.tmp 14) rfl _ 64 (oneP) rfl rfl 23 _ ((Blk.new W2 64 23 (fun _ => 0))) Try.size23 ?_; try simp only [Act.put]))
  have lt_B0 := B0.lt
  have lhb := hb.size
  have qB0 : Blk ((W2.alloc (.cells (bcells 64 fun _ => 0) 23)).setRow (W2.heap.size) (bcells 64 (oneP))) (w.heap.size) 64 23 (fun _ => 0) := ((B0.alloc (.cells (bcells 64 fun _ => 0) 23)).rowOther (by omega))
  have qB1 : Blk ((W2.alloc (.cells (bcells 64 fun _ => 0) 23)).setRow (W2.heap.size) (bcells 64 (oneP))) (W2.heap.size) 64 23 (oneP) := ((Blk.new W2 64 23 (fun _ => 0)).row (oneP))
  have qhb : Below w.heap.size w ((W2.alloc (.cells (bcells 64 fun _ => 0) 23)).setRow (W2.heap.size) (bcells 64 (oneP))) := (below_row (hb.alloc (by have := hb.size; simp; omega) (.cells (bcells 64 fun _ => 0) 23)) (by omega) _)
  obtain ⟨W3, hwo⟩ : ∃ v : World, v = ((W2.alloc (.cells (bcells 64 fun _ => 0) 23)).setRow (W2.heap.size) (bcells 64 (oneP))) := ⟨_, rfl⟩
  rw [← hwo] at qB0 qB1 qhb ⊢
  clear hwo
  clear B0 hb
  have B0 := qB0
  have B1 := qB1
  have hb := qhb
  clear qB0 qB1 qhb
  obtain ⟨N1, hNN⟩ : ∃ n : Nat, n = W2.heap.size := ⟨_, rfl⟩
  rw [← hNN] at lt_B0 lhb B1 ⊢
  clear hNN
  have zN1_0 := lt_B0
  have zN1 := lhb
  clear lt_B0 lhb
  try simp only [Act.put, List.setIfInBounds_toArray, List.set_cons_zero, List.set_cons_succ]
  go_wp2_with fail
  go_loopw [9] (fun x wr => ∃ (j : Nat) (f : Nat → Nat), Hid (fcR p i false j = some f) ∧ x = .int .i64 (j : Int) ∧ j ≤ i ∧ Below w.heap.size w wr ∧ Blk wr (w.heap.size) 64 23 (fun _ => 0) ∧ Blk wr (N1) 64 23 f) (fun x _ => i - (intOf x).toNat)
  case atStart => exact ⟨0, _, HZ, rfl, Nat.zero_le _, hb, B0, B1⟩
  case round =>
    clear hb B0 B1
    obtain ⟨j, f, hf, rfl, hji, hb, B0, B1⟩ := hrel
    by_cases hj : j < i
    · have hjI : (j : Int) < (i : Int) := by omega
      have lf := HLT.out j f hf.out
      have lb : ∀ k, k < 64 → (bkV p i j).1 k < p := fun k _ => by have h := HBL.out j k; rw [HBE.out] at h; exact h
      have HB1 := Lib.hid (fun W => HBK.out i j W hi20 (by omega))
      have HTM := Lib.hid (fun W => l01Times_any p f (bkV p i j).1 W p2 p7 lf lb)
      clear lf lb
      cases hbb : (bkV p i j).2 with
      | false =>
        exfalso
        have h0 := fcR_no (p := p) (i := i) (s := false) (j := j) hf.out (fun h => by rw [HBE.out, hbb] at h; exact absurd h.1 (by simp))
        have h1 := fcR_none h0 (i - (j + 1))
        rw [show j + 1 + (i - (j + 1)) = i by omega, HF.out] at h1
        cases h1
      | true =>
        by_cases hd : deg f + deg (bkV p i j).1 ≤ 63
        · have HN := Lib.hid (show fcR p i false (j + 1) = some (prd p f (bkV p i j).1) by
            have h := fcR_yes (p := p) (i := i) (s := false) (j := j) hf.out (by rw [HBE.out]; exact hbb) (by rw [HBE.out]; exact hd)
            rw [h, HBE.out])
          have HTV := Lib.hid (show tmV p f (bkV p i j).1 = (prd p f (bkV p i j).1, true) from if_pos hd)
          have lt_B0 := B0.lt
          have lt_B1 := B1.lt
          go_upto_region 10 with (first | rw [← zero64] | (go_at_call 127; refine (HB1.out _).mono ?_; rintro e W4 ⟨rfl, hW4⟩; replace B0 := B0.below hW4 B0.lt; replace B1 := B1.below hW4 B1.lt; replace hb := (hb).trans (hW4.mono (hb).size); rw [hbb]) | (refine wpList_store_blk rfl 23 (.tmp 10) (.tmp 25) rfl _ 64 ((bkV p i j).1) rfl rfl 23 _ ((Blk.new W4 64 23 (fun _ => 0))) Try.size23 ?_; try simp only [Act.put]; go_upto_region 10 with (fail)))
          have lt_B0 := B0.lt
          have lt_B1 := B1.lt
          have lhb := hb.size
          have qB0 : Blk ((W4.alloc (.cells (bcells 64 fun _ => 0) 23)).setRow (W4.heap.size) (bcells 64 ((bkV p i j).1))) (w.heap.size) 64 23 (fun _ => 0) := ((B0.alloc (.cells (bcells 64 fun _ => 0) 23)).rowOther (by omega))
          have qB1 : Blk ((W4.alloc (.cells (bcells 64 fun _ => 0) 23)).setRow (W4.heap.size) (bcells 64 ((bkV p i j).1))) (N1) 64 23 (f) := ((B1.alloc (.cells (bcells 64 fun _ => 0) 23)).rowOther (by omega))
          have qB2 : Blk ((W4.alloc (.cells (bcells 64 fun _ => 0) 23)).setRow (W4.heap.size) (bcells 64 ((bkV p i j).1))) (W4.heap.size) 64 23 ((bkV p i j).1) := ((Blk.new W4 64 23 (fun _ => 0)).row ((bkV p i j).1))
          have qhb : Below w.heap.size w ((W4.alloc (.cells (bcells 64 fun _ => 0) 23)).setRow (W4.heap.size) (bcells 64 ((bkV p i j).1))) := (below_row (hb.alloc (by have := hb.size; simp; omega) (.cells (bcells 64 fun _ => 0) 23)) (by omega) _)
          obtain ⟨W5, hwo⟩ : ∃ v : World, v = ((W4.alloc (.cells (bcells 64 fun _ => 0) 23)).setRow (W4.heap.size) (bcells 64 ((bkV p i j).1))) := ⟨_, rfl⟩
          rw [← hwo] at qB0 qB1 qB2 qhb ⊢
          clear hwo
          clear B0 B1 hb
          have B0 := qB0
          have B1 := qB1
          have B2 := qB2
          have hb := qhb
          clear qB0 qB1 qB2 qhb
          obtain ⟨N2, hNN⟩ : ∃ n : Nat, n = W4.heap.size := ⟨_, rfl⟩
          rw [← hNN] at lt_B0 lt_B1 lhb B2 ⊢
          clear hNN
          have zN2_0 := lt_B0
          have zN2_1 := lt_B1
          have zN2 := lhb
          clear lt_B0 lt_B1 lhb
          try simp only [Act.put, List.setIfInBounds_toArray, List.set_cons_zero, List.set_cons_succ]
          clear hbb hd HB1
          have lt_B0 := B0.lt
          have lt_B1 := B1.lt
          have lt_B2 := B2.lt
          go_upto_region 13 with (first | rw [← zero64] | (refine wpList_load_any rfl 23 (.tmp 8) rfl _ rfl 64 23 _ (B1) _ Try.underlying23 rfl Try.size23 ?_) | (refine wpList_load_any rfl 23 (.tmp 10) rfl _ rfl 64 23 _ (B2) _ Try.underlying23 rfl Try.size23 ?_) | (go_at_call 76; refine (HTM.out _).mono ?_; rintro e W6 ⟨rfl, hW6⟩; replace B0 := B0.below hW6 B0.lt; replace B1 := B1.below hW6 B1.lt; replace B2 := B2.below hW6 B2.lt; replace hb := (hb).trans (hW6.mono (hb).size); rw [HTV.out]) | (refine wpList_store_blk rfl 23 (.tmp 12) (.tmp 43) rfl _ 64 (prd p f (bkV p i j).1) rfl rfl 23 _ ((Blk.new W6 64 23 (fun _ => 0))) Try.size23 ?_; try simp only [Act.put]; go_upto_region 13 with (fail)))
          have lt_B0 := B0.lt
          have lt_B1 := B1.lt
          have lt_B2 := B2.lt
          have lhb := hb.size
          have qB0 : Blk ((W6.alloc (.cells (bcells 64 fun _ => 0) 23)).setRow (W6.heap.size) (bcells 64 (prd p f (bkV p i j).1))) (w.heap.size) 64 23 (fun _ => 0) := ((B0.alloc (.cells (bcells 64 fun _ => 0) 23)).rowOther (by omega))
          have qB1 : Blk ((W6.alloc (.cells (bcells 64 fun _ => 0) 23)).setRow (W6.heap.size) (bcells 64 (prd p f (bkV p i j).1))) (N1) 64 23 (f) := ((B1.alloc (.cells (bcells 64 fun _ => 0) 23)).rowOther (by omega))
          have qB2 : Blk ((W6.alloc (.cells (bcells 64 fun _ => 0) 23)).setRow (W6.heap.size) (bcells 64 (prd p f (bkV p i j).1))) (N2) 64 23 ((bkV p i j).1) := ((B2.alloc (.cells (bcells 64 fun _ => 0) 23)).rowOther (by omega))
          have qB3 : Blk ((W6.alloc (.cells (bcells 64 fun _ => 0) 23)).setRow (W6.heap.size) (bcells 64 (prd p f (bkV p i j).1))) (W6.heap.size) 64 23 (prd p f (bkV p i j).1) := ((Blk.new W6 64 23 (fun _ => 0)).row (prd p f (bkV p i j).1))
          have qhb : Below w.heap.size w ((W6.alloc (.cells (bcells 64 fun _ => 0) 23)).setRow (W6.heap.size) (bcells 64 (prd p f (bkV p i j).1))) := (below_row (hb.alloc (by have := hb.size; simp; omega) (.cells (bcells 64 fun _ => 0) 23)) (by omega) _)
          obtain ⟨W7, hwo⟩ : ∃ v : World, v = ((W6.alloc (.cells (bcells 64 fun _ => 0) 23)).setRow (W6.heap.size) (bcells 64 (prd p f (bkV p i j).1))) := ⟨_, rfl⟩
          rw [← hwo] at qB0 qB1 qB2 qB3 qhb ⊢
          clear hwo
          clear B0 B1 B2 hb
          have B0 := qB0
          have B1 := qB1
          have B2 := qB2
          have B3 := qB3
          have hb := qhb
          clear qB0 qB1 qB2 qB3 qhb
          obtain ⟨N3, hNN⟩ : ∃ n : Nat, n = W6.heap.size := ⟨_, rfl⟩
          rw [← hNN] at lt_B0 lt_B1 lt_B2 lhb B3 ⊢
          clear hNN
          have zN3_0 := lt_B0
          have zN3_1 := lt_B1
          have zN3_2 := lt_B2
          have zN3 := lhb
          clear lt_B0 lt_B1 lt_B2 lhb
          try simp only [Act.put, List.setIfInBounds_toArray, List.set_cons_zero, List.set_cons_succ]
          have lt_B0 := B0.lt
          have lt_B1 := B1.lt
          have lt_B2 := B2.lt
          have lt_B3 := B3.lt
          go_upto_region 4 with (first | rw [← zero64] | (refine wpList_load_any rfl 23 (.tmp 12) rfl _ rfl 64 23 _ (B3) _ Try.underlying23 rfl Try.size23 ?_) | (refine wpList_store_blk rfl 23 (.tmp 8) (.tmp 48) rfl _ 64 (prd p f (bkV p i j).1) rfl rfl 23 _ (B1) Try.size23 ?_; try simp only [Act.put]))
          have qB0 : Blk (W7.setRow (N1) (bcells 64 (prd p f (bkV p i j).1))) (w.heap.size) 64 23 (fun _ => 0) := (B0.rowOther (by omega))
          have qB1 : Blk (W7.setRow (N1) (bcells 64 (prd p f (bkV p i j).1))) (N1) 64 23 (prd p f (bkV p i j).1) := (B1.row (prd p f (bkV p i j).1))
          have qB2 : Blk (W7.setRow (N1) (bcells 64 (prd p f (bkV p i j).1))) (N2) 64 23 ((bkV p i j).1) := (B2.rowOther (by omega))
          have qB3 : Blk (W7.setRow (N1) (bcells 64 (prd p f (bkV p i j).1))) (N3) 64 23 (prd p f (bkV p i j).1) := (B3.rowOther (by omega))
          have qhb : Below w.heap.size w (W7.setRow (N1) (bcells 64 (prd p f (bkV p i j).1))) := (below_row hb (by omega) _)
          obtain ⟨W8, hwo⟩ : ∃ v : World, v = (W7.setRow (N1) (bcells 64 (prd p f (bkV p i j).1))) := ⟨_, rfl⟩
          rw [← hwo] at qB0 qB1 qB2 qB3 qhb ⊢
          clear hwo
          clear B0 B1 B2 B3 hb
          have B0 := qB0
          have B1 := qB1
          have B2 := qB2
          have B3 := qB3
          have hb := qhb
          clear qB0 qB1 qB2 qB3 qhb
          try simp only [Act.put, List.setIfInBounds_toArray, List.set_cons_zero, List.set_cons_succ]
          go_wp2_with fail
          go_roundw
          case rel => exact ⟨j + 1, _, HN, by go_num, by omega, hb, B0, B1⟩
          case measure => simp [intOf] <;> omega
        · exfalso
          have h0 := fcR_no (p := p) (i := i) (s := false) (j := j) hf.out (fun h => by rw [HBE.out] at h; exact hd h.2)
          have h1 := fcR_none h0 (i - (j + 1))
          rw [show j + 1 + (i - (j + 1)) = i by omega, HF.out] at h1
          cases h1
    · have hjI : ¬ (j : Int) < (i : Int) := by omega
      obtain rfl : j = i := by omega
      have hfF : f = F := by have h1 := hf.out; rw [HF.out] at h1; injection h1 with h1; exact h1.symm
      rw [hfF] at B1
      clear hfF
      go_upto_region 14 with (fail)
      have lt_B0 := B0.lt
      have lt_B1 := B1.lt
      go_wp2_with (first | rw [← zero64] | (refine wpList_load_any rfl 23 (.tmp 8) rfl _ rfl 64 23 _ (B1) _ Try.underlying23 rfl Try.size23 ?_) | (refine wpList_store_blk rfl 23 (.tmp 6) (.tmp 49) rfl _ 64 (F) rfl rfl 23 _ (B0) Try.size23 ?_; try simp only [Act.put]; go_wp2_with fail))
      have qB0 : Blk (wr.setRow (w.heap.size) (bcells 64 (F))) (w.heap.size) 64 23 (F) := (B0.row (F))
      have qB1 : Blk (wr.setRow (w.heap.size) (bcells 64 (F))) (N1) 64 23 (F) := (B1.rowOther (by omega))
      have qhb : Below w.heap.size w (wr.setRow (w.heap.size) (bcells 64 (F))) := (below_row hb (by omega) _)
      obtain ⟨W4, hwo⟩ : ∃ v : World, v = (wr.setRow (w.heap.size) (bcells 64 (F))) := ⟨_, rfl⟩
      rw [← hwo] at qB0 qB1 qhb ⊢
      clear hwo
      clear B0 B1 hb
      have B0 := qB0
      have B1 := qB1
      have hb := qhb
      clear qB0 qB1 qhb
      try simp only [Act.put, List.setIfInBounds_toArray, List.set_cons_zero, List.set_cons_succ]
      refine bodyPost_ret (results_bt rfl _ _ _ 64 23 5 _ rfl B0 Try.underlying23 Try.size23) rfl ⟨rfl, hb⟩
set_option maxRecDepth 100000 in
set_option maxHeartbeats 1600000 in
theorem l04FactF_no (p i : Nat) (w : World) (p2 : 2 ≤ p) (p7 : p ≤ 7) (hi20 : i ≤ 20) (hF : fcR p i false i = none) :
    Calls Try.prog 132 #[.int .i64 (p : Int), .int .i64 (i : Int), .bool false] w fun e w' => e = .returned (.tuple #[.agg (bcells 64 (fun _ => 0)), .bool false]) ∧ Below w.heap.size w w' := by
  have HF := Lib.hid hF
  have HZ := Lib.hid (fcR_z p i false)
  have HLT := Lib.hid (fun j f => fcR_lt (p := p) (i := i) (s := false) p2 j f)
  have HBL := Lib.hid (fun j k => bkS_lt (p := p) (i := i) (s := false) (j := j) p2 k)
  have HBK := Lib.hid (fun i j W (h1 : i ≤ 20) (h2 : j ≤ 20) => l04Bracket_any p i j W p2 p7 h1 h2)
  have HBE := Lib.hid (show ∀ j, (bkS p i false j) = (bkV p i j) from fun j => by unfold bkS; rfl)
  clear hF
  go_enter Try.func132, Try.ntmps132
  go_upto_region 1 with (fail)
  rw [← zero64]
  obtain ⟨W1, hwo⟩ : ∃ v : World, v = (w.alloc (.cells (bcells 64 fun _ => 0) 23)) := ⟨_, rfl⟩
  have B0 : Blk W1 (w.heap.size) 64 23 (fun _ => 0) := by subst hwo; have := (Blk.new w 64 23 (fun _ => 0)); simpa using this
  have hb : Below w.heap.size w W1 := by subst hwo; exact ((Below.refl _ _).alloc (Nat.le_refl _) _)
  rw [← hwo]
  clear hwo
  have lt_B0 := B0.lt
  go_upto_region 2 with (first | rw [← zero64] | (go_at_call 75; refine (l01One_any _).mono ?_; rintro e W2 ⟨rfl, hW2⟩; replace B0 := B0.below hW2 B0.lt; replace hb := (hb).trans (hW2.mono (hb).size)) | (refine wpList_store_blk rfl 23 (.tmp 8) (.tmp 14) rfl _ 64 (oneP) rfl rfl 23 _ ((Blk.new W2 64 23 (fun _ => 0))) Try.size23 ?_; try simp only [Act.put]))
  have lt_B0 := B0.lt
  have lhb := hb.size
  have qB0 : Blk ((W2.alloc (.cells (bcells 64 fun _ => 0) 23)).setRow (W2.heap.size) (bcells 64 (oneP))) (w.heap.size) 64 23 (fun _ => 0) := ((B0.alloc (.cells (bcells 64 fun _ => 0) 23)).rowOther (by omega))
  have qB1 : Blk ((W2.alloc (.cells (bcells 64 fun _ => 0) 23)).setRow (W2.heap.size) (bcells 64 (oneP))) (W2.heap.size) 64 23 (oneP) := ((Blk.new W2 64 23 (fun _ => 0)).row (oneP))
  have qhb : Below w.heap.size w ((W2.alloc (.cells (bcells 64 fun _ => 0) 23)).setRow (W2.heap.size) (bcells 64 (oneP))) := (below_row (hb.alloc (by have := hb.size; simp; omega) (.cells (bcells 64 fun _ => 0) 23)) (by omega) _)
  obtain ⟨W3, hwo⟩ : ∃ v : World, v = ((W2.alloc (.cells (bcells 64 fun _ => 0) 23)).setRow (W2.heap.size) (bcells 64 (oneP))) := ⟨_, rfl⟩
  rw [← hwo] at qB0 qB1 qhb ⊢
  clear hwo
  clear B0 hb
  have B0 := qB0
  have B1 := qB1
  have hb := qhb
  clear qB0 qB1 qhb
  obtain ⟨N1, hNN⟩ : ∃ n : Nat, n = W2.heap.size := ⟨_, rfl⟩
  rw [← hNN] at lt_B0 lhb B1 ⊢
  clear hNN
  have zN1_0 := lt_B0
  have zN1 := lhb
  clear lt_B0 lhb
  try simp only [Act.put, List.setIfInBounds_toArray, List.set_cons_zero, List.set_cons_succ]
  go_wp2_with fail
  go_loopw [9] (fun x wr => ∃ (j : Nat) (f : Nat → Nat), Hid (fcR p i false j = some f) ∧ x = .int .i64 (j : Int) ∧ j ≤ i ∧ Below w.heap.size w wr ∧ Blk wr (w.heap.size) 64 23 (fun _ => 0) ∧ Blk wr (N1) 64 23 f) (fun x _ => i - (intOf x).toNat)
  case atStart => exact ⟨0, _, HZ, rfl, Nat.zero_le _, hb, B0, B1⟩
  case round =>
    clear hb B0 B1
    obtain ⟨j, f, hf, rfl, hji, hb, B0, B1⟩ := hrel
    by_cases hj : j < i
    · have hjI : (j : Int) < (i : Int) := by omega
      have lf := HLT.out j f hf.out
      have lb : ∀ k, k < 64 → (bkV p i j).1 k < p := fun k _ => by have h := HBL.out j k; rw [HBE.out] at h; exact h
      have HB1 := Lib.hid (fun W => HBK.out i j W hi20 (by omega))
      have HTM := Lib.hid (fun W => l01Times_any p f (bkV p i j).1 W p2 p7 lf lb)
      clear lf lb
      cases hbb : (bkV p i j).2 with
      | false =>
        have lt_B0 := B0.lt
        have lt_B1 := B1.lt
        go_upto_region 9 with (first | rw [← zero64] | (go_at_call 127; refine (HB1.out _).mono ?_; rintro e W4 ⟨rfl, hW4⟩; replace B0 := B0.below hW4 B0.lt; replace B1 := B1.below hW4 B1.lt; replace hb := (hb).trans (hW4.mono (hb).size); rw [hbb]) | (refine wpList_store_blk rfl 23 (.tmp 10) (.tmp 25) rfl _ 64 ((bkV p i j).1) rfl rfl 23 _ ((Blk.new W4 64 23 (fun _ => 0))) Try.size23 ?_; try simp only [Act.put]; go_upto_region 9 with (fail)))
        have lt_B0 := B0.lt
        have lt_B1 := B1.lt
        have lhb := hb.size
        have qB0 : Blk ((W4.alloc (.cells (bcells 64 fun _ => 0) 23)).setRow (W4.heap.size) (bcells 64 ((bkV p i j).1))) (w.heap.size) 64 23 (fun _ => 0) := ((B0.alloc (.cells (bcells 64 fun _ => 0) 23)).rowOther (by omega))
        have qB1 : Blk ((W4.alloc (.cells (bcells 64 fun _ => 0) 23)).setRow (W4.heap.size) (bcells 64 ((bkV p i j).1))) (N1) 64 23 (f) := ((B1.alloc (.cells (bcells 64 fun _ => 0) 23)).rowOther (by omega))
        have qB2 : Blk ((W4.alloc (.cells (bcells 64 fun _ => 0) 23)).setRow (W4.heap.size) (bcells 64 ((bkV p i j).1))) (W4.heap.size) 64 23 ((bkV p i j).1) := ((Blk.new W4 64 23 (fun _ => 0)).row ((bkV p i j).1))
        have qhb : Below w.heap.size w ((W4.alloc (.cells (bcells 64 fun _ => 0) 23)).setRow (W4.heap.size) (bcells 64 ((bkV p i j).1))) := (below_row (hb.alloc (by have := hb.size; simp; omega) (.cells (bcells 64 fun _ => 0) 23)) (by omega) _)
        obtain ⟨W5, hwo⟩ : ∃ v : World, v = ((W4.alloc (.cells (bcells 64 fun _ => 0) 23)).setRow (W4.heap.size) (bcells 64 ((bkV p i j).1))) := ⟨_, rfl⟩
        rw [← hwo] at qB0 qB1 qB2 qhb ⊢
        clear hwo
        clear B0 B1 hb
        have B0 := qB0
        have B1 := qB1
        have B2 := qB2
        have hb := qhb
        clear qB0 qB1 qB2 qhb
        obtain ⟨N2, hNN⟩ : ∃ n : Nat, n = W4.heap.size := ⟨_, rfl⟩
        rw [← hNN] at lt_B0 lt_B1 lhb B2 ⊢
        clear hNN
        have zN2_0 := lt_B0
        have zN2_1 := lt_B1
        have zN2 := lhb
        clear lt_B0 lt_B1 lhb
        try simp only [Act.put, List.setIfInBounds_toArray, List.set_cons_zero, List.set_cons_succ]
        have lt_B0 := B0.lt
        have lt_B1 := B1.lt
        have lt_B2 := B2.lt
        go_wp2_with (first | rw [← zero64] | (refine wpList_store_blk rfl 23 (.tmp 6) (.tmp 37) rfl _ 64 (fun _ => 0) rfl rfl 23 _ (B0) Try.size23 ?_; try simp only [Act.put]; go_wp2_with fail))
        have qB0 : Blk (W5.setRow (w.heap.size) (bcells 64 (fun _ => 0))) (w.heap.size) 64 23 (fun _ => 0) := (B0.row (fun _ => 0))
        have qB1 : Blk (W5.setRow (w.heap.size) (bcells 64 (fun _ => 0))) (N1) 64 23 (f) := (B1.rowOther (by omega))
        have qB2 : Blk (W5.setRow (w.heap.size) (bcells 64 (fun _ => 0))) (N2) 64 23 ((bkV p i j).1) := (B2.rowOther (by omega))
        have qhb : Below w.heap.size w (W5.setRow (w.heap.size) (bcells 64 (fun _ => 0))) := (below_row hb (by omega) _)
        obtain ⟨W6, hwo⟩ : ∃ v : World, v = (W5.setRow (w.heap.size) (bcells 64 (fun _ => 0))) := ⟨_, rfl⟩
        rw [← hwo] at qB0 qB1 qB2 qhb ⊢
        clear hwo
        clear B0 B1 B2 hb
        have B0 := qB0
        have B1 := qB1
        have B2 := qB2
        have hb := qhb
        clear qB0 qB1 qB2 qhb
        try simp only [Act.put, List.setIfInBounds_toArray, List.set_cons_zero, List.set_cons_succ]
        refine bodyPost_ret (results_bt rfl _ _ _ 64 23 5 _ rfl B0 Try.underlying23 Try.size23) rfl ⟨rfl, hb⟩
      | true =>
        by_cases hd : deg f + deg (bkV p i j).1 ≤ 63
        · have HN := Lib.hid (show fcR p i false (j + 1) = some (prd p f (bkV p i j).1) by
            have h := fcR_yes (p := p) (i := i) (s := false) (j := j) hf.out (by rw [HBE.out]; exact hbb) (by rw [HBE.out]; exact hd)
            rw [h, HBE.out])
          have HTV := Lib.hid (show tmV p f (bkV p i j).1 = (prd p f (bkV p i j).1, true) from if_pos hd)
          have lt_B0 := B0.lt
          have lt_B1 := B1.lt
          go_upto_region 10 with (first | rw [← zero64] | (go_at_call 127; refine (HB1.out _).mono ?_; rintro e W4 ⟨rfl, hW4⟩; replace B0 := B0.below hW4 B0.lt; replace B1 := B1.below hW4 B1.lt; replace hb := (hb).trans (hW4.mono (hb).size); rw [hbb]) | (refine wpList_store_blk rfl 23 (.tmp 10) (.tmp 25) rfl _ 64 ((bkV p i j).1) rfl rfl 23 _ ((Blk.new W4 64 23 (fun _ => 0))) Try.size23 ?_; try simp only [Act.put]; go_upto_region 10 with (fail)))
          have lt_B0 := B0.lt
          have lt_B1 := B1.lt
          have lhb := hb.size
          have qB0 : Blk ((W4.alloc (.cells (bcells 64 fun _ => 0) 23)).setRow (W4.heap.size) (bcells 64 ((bkV p i j).1))) (w.heap.size) 64 23 (fun _ => 0) := ((B0.alloc (.cells (bcells 64 fun _ => 0) 23)).rowOther (by omega))
          have qB1 : Blk ((W4.alloc (.cells (bcells 64 fun _ => 0) 23)).setRow (W4.heap.size) (bcells 64 ((bkV p i j).1))) (N1) 64 23 (f) := ((B1.alloc (.cells (bcells 64 fun _ => 0) 23)).rowOther (by omega))
          have qB2 : Blk ((W4.alloc (.cells (bcells 64 fun _ => 0) 23)).setRow (W4.heap.size) (bcells 64 ((bkV p i j).1))) (W4.heap.size) 64 23 ((bkV p i j).1) := ((Blk.new W4 64 23 (fun _ => 0)).row ((bkV p i j).1))
          have qhb : Below w.heap.size w ((W4.alloc (.cells (bcells 64 fun _ => 0) 23)).setRow (W4.heap.size) (bcells 64 ((bkV p i j).1))) := (below_row (hb.alloc (by have := hb.size; simp; omega) (.cells (bcells 64 fun _ => 0) 23)) (by omega) _)
          obtain ⟨W5, hwo⟩ : ∃ v : World, v = ((W4.alloc (.cells (bcells 64 fun _ => 0) 23)).setRow (W4.heap.size) (bcells 64 ((bkV p i j).1))) := ⟨_, rfl⟩
          rw [← hwo] at qB0 qB1 qB2 qhb ⊢
          clear hwo
          clear B0 B1 hb
          have B0 := qB0
          have B1 := qB1
          have B2 := qB2
          have hb := qhb
          clear qB0 qB1 qB2 qhb
          obtain ⟨N2, hNN⟩ : ∃ n : Nat, n = W4.heap.size := ⟨_, rfl⟩
          rw [← hNN] at lt_B0 lt_B1 lhb B2 ⊢
          clear hNN
          have zN2_0 := lt_B0
          have zN2_1 := lt_B1
          have zN2 := lhb
          clear lt_B0 lt_B1 lhb
          try simp only [Act.put, List.setIfInBounds_toArray, List.set_cons_zero, List.set_cons_succ]
          clear hbb hd HB1
          have lt_B0 := B0.lt
          have lt_B1 := B1.lt
          have lt_B2 := B2.lt
          go_upto_region 13 with (first | rw [← zero64] | (refine wpList_load_any rfl 23 (.tmp 8) rfl _ rfl 64 23 _ (B1) _ Try.underlying23 rfl Try.size23 ?_) | (refine wpList_load_any rfl 23 (.tmp 10) rfl _ rfl 64 23 _ (B2) _ Try.underlying23 rfl Try.size23 ?_) | (go_at_call 76; refine (HTM.out _).mono ?_; rintro e W6 ⟨rfl, hW6⟩; replace B0 := B0.below hW6 B0.lt; replace B1 := B1.below hW6 B1.lt; replace B2 := B2.below hW6 B2.lt; replace hb := (hb).trans (hW6.mono (hb).size); rw [HTV.out]) | (refine wpList_store_blk rfl 23 (.tmp 12) (.tmp 43) rfl _ 64 (prd p f (bkV p i j).1) rfl rfl 23 _ ((Blk.new W6 64 23 (fun _ => 0))) Try.size23 ?_; try simp only [Act.put]; go_upto_region 13 with (fail)))
          have lt_B0 := B0.lt
          have lt_B1 := B1.lt
          have lt_B2 := B2.lt
          have lhb := hb.size
          have qB0 : Blk ((W6.alloc (.cells (bcells 64 fun _ => 0) 23)).setRow (W6.heap.size) (bcells 64 (prd p f (bkV p i j).1))) (w.heap.size) 64 23 (fun _ => 0) := ((B0.alloc (.cells (bcells 64 fun _ => 0) 23)).rowOther (by omega))
          have qB1 : Blk ((W6.alloc (.cells (bcells 64 fun _ => 0) 23)).setRow (W6.heap.size) (bcells 64 (prd p f (bkV p i j).1))) (N1) 64 23 (f) := ((B1.alloc (.cells (bcells 64 fun _ => 0) 23)).rowOther (by omega))
          have qB2 : Blk ((W6.alloc (.cells (bcells 64 fun _ => 0) 23)).setRow (W6.heap.size) (bcells 64 (prd p f (bkV p i j).1))) (N2) 64 23 ((bkV p i j).1) := ((B2.alloc (.cells (bcells 64 fun _ => 0) 23)).rowOther (by omega))
          have qB3 : Blk ((W6.alloc (.cells (bcells 64 fun _ => 0) 23)).setRow (W6.heap.size) (bcells 64 (prd p f (bkV p i j).1))) (W6.heap.size) 64 23 (prd p f (bkV p i j).1) := ((Blk.new W6 64 23 (fun _ => 0)).row (prd p f (bkV p i j).1))
          have qhb : Below w.heap.size w ((W6.alloc (.cells (bcells 64 fun _ => 0) 23)).setRow (W6.heap.size) (bcells 64 (prd p f (bkV p i j).1))) := (below_row (hb.alloc (by have := hb.size; simp; omega) (.cells (bcells 64 fun _ => 0) 23)) (by omega) _)
          obtain ⟨W7, hwo⟩ : ∃ v : World, v = ((W6.alloc (.cells (bcells 64 fun _ => 0) 23)).setRow (W6.heap.size) (bcells 64 (prd p f (bkV p i j).1))) := ⟨_, rfl⟩
          rw [← hwo] at qB0 qB1 qB2 qB3 qhb ⊢
          clear hwo
          clear B0 B1 B2 hb
          have B0 := qB0
          have B1 := qB1
          have B2 := qB2
          have B3 := qB3
          have hb := qhb
          clear qB0 qB1 qB2 qB3 qhb
          obtain ⟨N3, hNN⟩ : ∃ n : Nat, n = W6.heap.size := ⟨_, rfl⟩
          rw [← hNN] at lt_B0 lt_B1 lt_B2 lhb B3 ⊢
          clear hNN
          have zN3_0 := lt_B0
          have zN3_1 := lt_B1
          have zN3_2 := lt_B2
          have zN3 := lhb
          clear lt_B0 lt_B1 lt_B2 lhb
          try simp only [Act.put, List.setIfInBounds_toArray, List.set_cons_zero, List.set_cons_succ]
          have lt_B0 := B0.lt
          have lt_B1 := B1.lt
          have lt_B2 := B2.lt
          have lt_B3 := B3.lt
          go_upto_region 4 with (first | rw [← zero64] | (refine wpList_load_any rfl 23 (.tmp 12) rfl _ rfl 64 23 _ (B3) _ Try.underlying23 rfl Try.size23 ?_) | (refine wpList_store_blk rfl 23 (.tmp 8) (.tmp 48) rfl _ 64 (prd p f (bkV p i j).1) rfl rfl 23 _ (B1) Try.size23 ?_; try simp only [Act.put]))
          have qB0 : Blk (W7.setRow (N1) (bcells 64 (prd p f (bkV p i j).1))) (w.heap.size) 64 23 (fun _ => 0) := (B0.rowOther (by omega))
          have qB1 : Blk (W7.setRow (N1) (bcells 64 (prd p f (bkV p i j).1))) (N1) 64 23 (prd p f (bkV p i j).1) := (B1.row (prd p f (bkV p i j).1))
          have qB2 : Blk (W7.setRow (N1) (bcells 64 (prd p f (bkV p i j).1))) (N2) 64 23 ((bkV p i j).1) := (B2.rowOther (by omega))
          have qB3 : Blk (W7.setRow (N1) (bcells 64 (prd p f (bkV p i j).1))) (N3) 64 23 (prd p f (bkV p i j).1) := (B3.rowOther (by omega))
          have qhb : Below w.heap.size w (W7.setRow (N1) (bcells 64 (prd p f (bkV p i j).1))) := (below_row hb (by omega) _)
          obtain ⟨W8, hwo⟩ : ∃ v : World, v = (W7.setRow (N1) (bcells 64 (prd p f (bkV p i j).1))) := ⟨_, rfl⟩
          rw [← hwo] at qB0 qB1 qB2 qB3 qhb ⊢
          clear hwo
          clear B0 B1 B2 B3 hb
          have B0 := qB0
          have B1 := qB1
          have B2 := qB2
          have B3 := qB3
          have hb := qhb
          clear qB0 qB1 qB2 qB3 qhb
          try simp only [Act.put, List.setIfInBounds_toArray, List.set_cons_zero, List.set_cons_succ]
          go_wp2_with fail
          go_roundw
          case rel => exact ⟨j + 1, _, HN, by go_num, by omega, hb, B0, B1⟩
          case measure => simp [intOf] <;> omega
        · have HTV := Lib.hid (show tmV p f (bkV p i j).1 = (fun _ => 0, false) from if_neg hd)
          have lt_B0 := B0.lt
          have lt_B1 := B1.lt
          go_upto_region 10 with (first | rw [← zero64] | (go_at_call 127; refine (HB1.out _).mono ?_; rintro e W4 ⟨rfl, hW4⟩; replace B0 := B0.below hW4 B0.lt; replace B1 := B1.below hW4 B1.lt; replace hb := (hb).trans (hW4.mono (hb).size); rw [hbb]) | (refine wpList_store_blk rfl 23 (.tmp 10) (.tmp 25) rfl _ 64 ((bkV p i j).1) rfl rfl 23 _ ((Blk.new W4 64 23 (fun _ => 0))) Try.size23 ?_; try simp only [Act.put]; go_upto_region 10 with (fail)))
          have lt_B0 := B0.lt
          have lt_B1 := B1.lt
          have lhb := hb.size
          have qB0 : Blk ((W4.alloc (.cells (bcells 64 fun _ => 0) 23)).setRow (W4.heap.size) (bcells 64 ((bkV p i j).1))) (w.heap.size) 64 23 (fun _ => 0) := ((B0.alloc (.cells (bcells 64 fun _ => 0) 23)).rowOther (by omega))
          have qB1 : Blk ((W4.alloc (.cells (bcells 64 fun _ => 0) 23)).setRow (W4.heap.size) (bcells 64 ((bkV p i j).1))) (N1) 64 23 (f) := ((B1.alloc (.cells (bcells 64 fun _ => 0) 23)).rowOther (by omega))
          have qB2 : Blk ((W4.alloc (.cells (bcells 64 fun _ => 0) 23)).setRow (W4.heap.size) (bcells 64 ((bkV p i j).1))) (W4.heap.size) 64 23 ((bkV p i j).1) := ((Blk.new W4 64 23 (fun _ => 0)).row ((bkV p i j).1))
          have qhb : Below w.heap.size w ((W4.alloc (.cells (bcells 64 fun _ => 0) 23)).setRow (W4.heap.size) (bcells 64 ((bkV p i j).1))) := (below_row (hb.alloc (by have := hb.size; simp; omega) (.cells (bcells 64 fun _ => 0) 23)) (by omega) _)
          obtain ⟨W5, hwo⟩ : ∃ v : World, v = ((W4.alloc (.cells (bcells 64 fun _ => 0) 23)).setRow (W4.heap.size) (bcells 64 ((bkV p i j).1))) := ⟨_, rfl⟩
          rw [← hwo] at qB0 qB1 qB2 qhb ⊢
          clear hwo
          clear B0 B1 hb
          have B0 := qB0
          have B1 := qB1
          have B2 := qB2
          have hb := qhb
          clear qB0 qB1 qB2 qhb
          obtain ⟨N2, hNN⟩ : ∃ n : Nat, n = W4.heap.size := ⟨_, rfl⟩
          rw [← hNN] at lt_B0 lt_B1 lhb B2 ⊢
          clear hNN
          have zN2_0 := lt_B0
          have zN2_1 := lt_B1
          have zN2 := lhb
          clear lt_B0 lt_B1 lhb
          try simp only [Act.put, List.setIfInBounds_toArray, List.set_cons_zero, List.set_cons_succ]
          clear hbb hd HB1
          have lt_B0 := B0.lt
          have lt_B1 := B1.lt
          have lt_B2 := B2.lt
          go_upto_region 12 with (first | rw [← zero64] | (refine wpList_load_any rfl 23 (.tmp 8) rfl _ rfl 64 23 _ (B1) _ Try.underlying23 rfl Try.size23 ?_) | (refine wpList_load_any rfl 23 (.tmp 10) rfl _ rfl 64 23 _ (B2) _ Try.underlying23 rfl Try.size23 ?_) | (go_at_call 76; refine (HTM.out _).mono ?_; rintro e W6 ⟨rfl, hW6⟩; replace B0 := B0.below hW6 B0.lt; replace B1 := B1.below hW6 B1.lt; replace B2 := B2.below hW6 B2.lt; replace hb := (hb).trans (hW6.mono (hb).size); rw [HTV.out]) | (refine wpList_store_blk rfl 23 (.tmp 12) (.tmp 43) rfl _ 64 (fun _ => 0) rfl rfl 23 _ ((Blk.new W6 64 23 (fun _ => 0))) Try.size23 ?_; try simp only [Act.put]; go_upto_region 12 with (fail)))
          have lt_B0 := B0.lt
          have lt_B1 := B1.lt
          have lt_B2 := B2.lt
          have lhb := hb.size
          have qB0 : Blk ((W6.alloc (.cells (bcells 64 fun _ => 0) 23)).setRow (W6.heap.size) (bcells 64 (fun _ => 0))) (w.heap.size) 64 23 (fun _ => 0) := ((B0.alloc (.cells (bcells 64 fun _ => 0) 23)).rowOther (by omega))
          have qB1 : Blk ((W6.alloc (.cells (bcells 64 fun _ => 0) 23)).setRow (W6.heap.size) (bcells 64 (fun _ => 0))) (N1) 64 23 (f) := ((B1.alloc (.cells (bcells 64 fun _ => 0) 23)).rowOther (by omega))
          have qB2 : Blk ((W6.alloc (.cells (bcells 64 fun _ => 0) 23)).setRow (W6.heap.size) (bcells 64 (fun _ => 0))) (N2) 64 23 ((bkV p i j).1) := ((B2.alloc (.cells (bcells 64 fun _ => 0) 23)).rowOther (by omega))
          have qB3 : Blk ((W6.alloc (.cells (bcells 64 fun _ => 0) 23)).setRow (W6.heap.size) (bcells 64 (fun _ => 0))) (W6.heap.size) 64 23 (fun _ => 0) := ((Blk.new W6 64 23 (fun _ => 0)).row (fun _ => 0))
          have qhb : Below w.heap.size w ((W6.alloc (.cells (bcells 64 fun _ => 0) 23)).setRow (W6.heap.size) (bcells 64 (fun _ => 0))) := (below_row (hb.alloc (by have := hb.size; simp; omega) (.cells (bcells 64 fun _ => 0) 23)) (by omega) _)
          obtain ⟨W7, hwo⟩ : ∃ v : World, v = ((W6.alloc (.cells (bcells 64 fun _ => 0) 23)).setRow (W6.heap.size) (bcells 64 (fun _ => 0))) := ⟨_, rfl⟩
          rw [← hwo] at qB0 qB1 qB2 qB3 qhb ⊢
          clear hwo
          clear B0 B1 B2 hb
          have B0 := qB0
          have B1 := qB1
          have B2 := qB2
          have B3 := qB3
          have hb := qhb
          clear qB0 qB1 qB2 qB3 qhb
          obtain ⟨N3, hNN⟩ : ∃ n : Nat, n = W6.heap.size := ⟨_, rfl⟩
          rw [← hNN] at lt_B0 lt_B1 lt_B2 lhb B3 ⊢
          clear hNN
          have zN3_0 := lt_B0
          have zN3_1 := lt_B1
          have zN3_2 := lt_B2
          have zN3 := lhb
          clear lt_B0 lt_B1 lt_B2 lhb
          try simp only [Act.put, List.setIfInBounds_toArray, List.set_cons_zero, List.set_cons_succ]
          have lt_B0 := B0.lt
          have lt_B1 := B1.lt
          have lt_B2 := B2.lt
          have lt_B3 := B3.lt
          go_wp2_with (first | rw [← zero64] | (refine wpList_store_blk rfl 23 (.tmp 6) (.tmp 47) rfl _ 64 (fun _ => 0) rfl rfl 23 _ (B0) Try.size23 ?_; try simp only [Act.put]; go_wp2_with fail))
          have qB0 : Blk (W7.setRow (w.heap.size) (bcells 64 (fun _ => 0))) (w.heap.size) 64 23 (fun _ => 0) := (B0.row (fun _ => 0))
          have qB1 : Blk (W7.setRow (w.heap.size) (bcells 64 (fun _ => 0))) (N1) 64 23 (f) := (B1.rowOther (by omega))
          have qB2 : Blk (W7.setRow (w.heap.size) (bcells 64 (fun _ => 0))) (N2) 64 23 ((bkV p i j).1) := (B2.rowOther (by omega))
          have qB3 : Blk (W7.setRow (w.heap.size) (bcells 64 (fun _ => 0))) (N3) 64 23 (fun _ => 0) := (B3.rowOther (by omega))
          have qhb : Below w.heap.size w (W7.setRow (w.heap.size) (bcells 64 (fun _ => 0))) := (below_row hb (by omega) _)
          obtain ⟨W8, hwo⟩ : ∃ v : World, v = (W7.setRow (w.heap.size) (bcells 64 (fun _ => 0))) := ⟨_, rfl⟩
          rw [← hwo] at qB0 qB1 qB2 qB3 qhb ⊢
          clear hwo
          clear B0 B1 B2 B3 hb
          have B0 := qB0
          have B1 := qB1
          have B2 := qB2
          have B3 := qB3
          have hb := qhb
          clear qB0 qB1 qB2 qB3 qhb
          try simp only [Act.put, List.setIfInBounds_toArray, List.set_cons_zero, List.set_cons_succ]
          refine bodyPost_ret (results_bt rfl _ _ _ 64 23 5 _ rfl B0 Try.underlying23 Try.size23) rfl ⟨rfl, hb⟩
    · have hjI : ¬ (j : Int) < (i : Int) := by omega
      obtain rfl : j = i := by omega
      exfalso
      have h1 := hf.out
      rw [HF.out] at h1
      cases h1
set_option maxRecDepth 100000 in
set_option maxHeartbeats 1600000 in
theorem l04FactS_ok (p i : Nat) (w : World) (p2 : 2 ≤ p) (p7 : p ≤ 7) (hi20 : i ≤ 20) (F : Nat → Nat) (hF : fcR p i true i = some F) :
    Calls Try.prog 132 #[.int .i64 (p : Int), .int .i64 (i : Int), .bool true] w fun e w' => e = .returned (.tuple #[.agg (bcells 64 (F)), .bool true]) ∧ Below w.heap.size w w' := by
  have HF := Lib.hid hF
  have HZ := Lib.hid (fcR_z p i true)
  have HLT := Lib.hid (fun j f => fcR_lt (p := p) (i := i) (s := true) p2 j f)
  have HBL := Lib.hid (fun j k => bkS_lt (p := p) (i := i) (s := true) (j := j) p2 k)
  have HBK := Lib.hid (fun i j W (h1 : i ≤ 20) (h2 : j ≤ 20) => l04Bracket_any p i j W p2 p7 h1 h2)
  have HBE := Lib.hid (show ∀ j, (bkS p i true j) = (bkV p (j + 1) 0) from fun j => by unfold bkS; rfl)
  clear hF
  go_enter Try.func132, Try.ntmps132
  go_upto_region 1 with (fail)
  rw [← zero64]
  obtain ⟨W1, hwo⟩ : ∃ v : World, v = (w.alloc (.cells (bcells 64 fun _ => 0) 23)) := ⟨_, rfl⟩
  have B0 : Blk W1 (w.heap.size) 64 23 (fun _ => 0) := by subst hwo; have := (Blk.new w 64 23 (fun _ => 0)); simpa using this
  have hb : Below w.heap.size w W1 := by subst hwo; exact ((Below.refl _ _).alloc (Nat.le_refl _) _)
  rw [← hwo]
  clear hwo
  have lt_B0 := B0.lt
  go_upto_region 2 with (first | rw [← zero64] | (go_at_call 75; refine (l01One_any _).mono ?_; rintro e W2 ⟨rfl, hW2⟩; replace B0 := B0.below hW2 B0.lt; replace hb := (hb).trans (hW2.mono (hb).size)) | (refine wpList_store_blk rfl 23 (.tmp 8) (.tmp 14) rfl _ 64 (oneP) rfl rfl 23 _ ((Blk.new W2 64 23 (fun _ => 0))) Try.size23 ?_; try simp only [Act.put]))
  have lt_B0 := B0.lt
  have lhb := hb.size
  have qB0 : Blk ((W2.alloc (.cells (bcells 64 fun _ => 0) 23)).setRow (W2.heap.size) (bcells 64 (oneP))) (w.heap.size) 64 23 (fun _ => 0) := ((B0.alloc (.cells (bcells 64 fun _ => 0) 23)).rowOther (by omega))
  have qB1 : Blk ((W2.alloc (.cells (bcells 64 fun _ => 0) 23)).setRow (W2.heap.size) (bcells 64 (oneP))) (W2.heap.size) 64 23 (oneP) := ((Blk.new W2 64 23 (fun _ => 0)).row (oneP))
  have qhb : Below w.heap.size w ((W2.alloc (.cells (bcells 64 fun _ => 0) 23)).setRow (W2.heap.size) (bcells 64 (oneP))) := (below_row (hb.alloc (by have := hb.size; simp; omega) (.cells (bcells 64 fun _ => 0) 23)) (by omega) _)
  obtain ⟨W3, hwo⟩ : ∃ v : World, v = ((W2.alloc (.cells (bcells 64 fun _ => 0) 23)).setRow (W2.heap.size) (bcells 64 (oneP))) := ⟨_, rfl⟩
  rw [← hwo] at qB0 qB1 qhb ⊢
  clear hwo
  clear B0 hb
  have B0 := qB0
  have B1 := qB1
  have hb := qhb
  clear qB0 qB1 qhb
  obtain ⟨N1, hNN⟩ : ∃ n : Nat, n = W2.heap.size := ⟨_, rfl⟩
  rw [← hNN] at lt_B0 lhb B1 ⊢
  clear hNN
  have zN1_0 := lt_B0
  have zN1 := lhb
  clear lt_B0 lhb
  try simp only [Act.put, List.setIfInBounds_toArray, List.set_cons_zero, List.set_cons_succ]
  go_wp2_with fail
  go_loopw [9] (fun x wr => ∃ (j : Nat) (f : Nat → Nat), Hid (fcR p i true j = some f) ∧ x = .int .i64 (j : Int) ∧ j ≤ i ∧ Below w.heap.size w wr ∧ Blk wr (w.heap.size) 64 23 (fun _ => 0) ∧ Blk wr (N1) 64 23 f) (fun x _ => i - (intOf x).toNat)
  case atStart => exact ⟨0, _, HZ, rfl, Nat.zero_le _, hb, B0, B1⟩
  case round =>
    clear hb B0 B1
    obtain ⟨j, f, hf, rfl, hji, hb, B0, B1⟩ := hrel
    by_cases hj : j < i
    · have hjI : (j : Int) < (i : Int) := by omega
      have lf := HLT.out j f hf.out
      have lb : ∀ k, k < 64 → (bkV p (j + 1) 0).1 k < p := fun k _ => by have h := HBL.out j k; rw [HBE.out] at h; exact h
      have HB1 := Lib.hid (fun W => HBK.out i j W hi20 (by omega))
      have HTM := Lib.hid (fun W => l01Times_any p f (bkV p (j + 1) 0).1 W p2 p7 lf lb)
      clear lf lb
      have HB2 := Lib.hid (fun W => HBK.out (j + 1) 0 W (by omega) (by omega))
      cases hbb : (bkV p (j + 1) 0).2 with
      | false =>
        exfalso
        have h0 := fcR_no (p := p) (i := i) (s := true) (j := j) hf.out (fun h => by rw [HBE.out, hbb] at h; exact absurd h.1 (by simp))
        have h1 := fcR_none h0 (i - (j + 1))
        rw [show j + 1 + (i - (j + 1)) = i by omega, HF.out] at h1
        cases h1
      | true =>
        by_cases hd : deg f + deg (bkV p (j + 1) 0).1 ≤ 63
        · have HN := Lib.hid (show fcR p i true (j + 1) = some (prd p f (bkV p (j + 1) 0).1) by
            have h := fcR_yes (p := p) (i := i) (s := true) (j := j) hf.out (by rw [HBE.out]; exact hbb) (by rw [HBE.out]; exact hd)
            rw [h, HBE.out])
          have HTV := Lib.hid (show tmV p f (bkV p (j + 1) 0).1 = (prd p f (bkV p (j + 1) 0).1, true) from if_pos hd)
          have lt_B0 := B0.lt
          have lt_B1 := B1.lt
          go_upto_region 7 with (first | rw [← zero64] | (go_at_call 127; refine (HB1.out _).mono ?_; rintro e W4 ⟨rfl, hW4⟩; replace B0 := B0.below hW4 B0.lt; replace B1 := B1.below hW4 B1.lt; replace hb := (hb).trans (hW4.mono (hb).size); skip) | (refine wpList_store_blk rfl 23 (.tmp 10) (.tmp 25) rfl _ 64 ((bkV p i j).1) rfl rfl 23 _ ((Blk.new W4 64 23 (fun _ => 0))) Try.size23 ?_; try simp only [Act.put]; go_upto_region 7 with (fail)))
          have lt_B0 := B0.lt
          have lt_B1 := B1.lt
          have lhb := hb.size
          have qB0 : Blk ((W4.alloc (.cells (bcells 64 fun _ => 0) 23)).setRow (W4.heap.size) (bcells 64 ((bkV p i j).1))) (w.heap.size) 64 23 (fun _ => 0) := ((B0.alloc (.cells (bcells 64 fun _ => 0) 23)).rowOther (by omega))
          have qB1 : Blk ((W4.alloc (.cells (bcells 64 fun _ => 0) 23)).setRow (W4.heap.size) (bcells 64 ((bkV p i j).1))) (N1) 64 23 (f) := ((B1.alloc (.cells (bcells 64 fun _ => 0) 23)).rowOther (by omega))
          have qB2 : Blk ((W4.alloc (.cells (bcells 64 fun _ => 0) 23)).setRow (W4.heap.size) (bcells 64 ((bkV p i j).1))) (W4.heap.size) 64 23 ((bkV p i j).1) := ((Blk.new W4 64 23 (fun _ => 0)).row ((bkV p i j).1))
          have qhb : Below w.heap.size w ((W4.alloc (.cells (bcells 64 fun _ => 0) 23)).setRow (W4.heap.size) (bcells 64 ((bkV p i j).1))) := (below_row (hb.alloc (by have := hb.size; simp; omega) (.cells (bcells 64 fun _ => 0) 23)) (by omega) _)
          obtain ⟨W5, hwo⟩ : ∃ v : World, v = ((W4.alloc (.cells (bcells 64 fun _ => 0) 23)).setRow (W4.heap.size) (bcells 64 ((bkV p i j).1))) := ⟨_, rfl⟩
          rw [← hwo] at qB0 qB1 qB2 qhb ⊢
          clear hwo
          clear B0 B1 hb
          have B0 := qB0
          have B1 := qB1
          have B2 := qB2
          have hb := qhb
          clear qB0 qB1 qB2 qhb
          obtain ⟨N2, hNN⟩ : ∃ n : Nat, n = W4.heap.size := ⟨_, rfl⟩
          rw [← hNN] at lt_B0 lt_B1 lhb B2 ⊢
          clear hNN
          have zN2_0 := lt_B0
          have zN2_1 := lt_B1
          have zN2 := lhb
          clear lt_B0 lt_B1 lhb
          try simp only [Act.put, List.setIfInBounds_toArray, List.set_cons_zero, List.set_cons_succ]
          have lt_B0 := B0.lt
          have lt_B1 := B1.lt
          have lt_B2 := B2.lt
          go_upto_region 10 with (first | rw [← zero64] | (go_at_call 127; refine (HB2.out _).mono ?_; rintro e W6 ⟨rfl, hW6⟩; replace B0 := B0.below hW6 B0.lt; replace B1 := B1.below hW6 B1.lt; replace B2 := B2.below hW6 B2.lt; replace hb := (hb).trans (hW6.mono (hb).size); rw [hbb]) | (refine wpList_store_blk rfl 23 (.tmp 10) (.tmp 33) rfl _ 64 ((bkV p (j + 1) 0).1) rfl rfl 23 _ (B2) Try.size23 ?_; try simp only [Act.put]; go_upto_region 10 with (fail)))
          have qB0 : Blk (W6.setRow (N2) (bcells 64 ((bkV p (j + 1) 0).1))) (w.heap.size) 64 23 (fun _ => 0) := (B0.rowOther (by omega))
          have qB1 : Blk (W6.setRow (N2) (bcells 64 ((bkV p (j + 1) 0).1))) (N1) 64 23 (f) := (B1.rowOther (by omega))
          have qB2 : Blk (W6.setRow (N2) (bcells 64 ((bkV p (j + 1) 0).1))) (N2) 64 23 ((bkV p (j + 1) 0).1) := (B2.row ((bkV p (j + 1) 0).1))
          have qhb : Below w.heap.size w (W6.setRow (N2) (bcells 64 ((bkV p (j + 1) 0).1))) := (below_row hb (by omega) _)
          obtain ⟨W7, hwo⟩ : ∃ v : World, v = (W6.setRow (N2) (bcells 64 ((bkV p (j + 1) 0).1))) := ⟨_, rfl⟩
          rw [← hwo] at qB0 qB1 qB2 qhb ⊢
          clear hwo
          clear B0 B1 B2 hb
          have B0 := qB0
          have B1 := qB1
          have B2 := qB2
          have hb := qhb
          clear qB0 qB1 qB2 qhb
          try simp only [Act.put, List.setIfInBounds_toArray, List.set_cons_zero, List.set_cons_succ]
          clear hbb hd HB1 HB2
          have lt_B0 := B0.lt
          have lt_B1 := B1.lt
          have lt_B2 := B2.lt
          go_upto_region 13 with (first | rw [← zero64] | (refine wpList_load_any rfl 23 (.tmp 8) rfl _ rfl 64 23 _ (B1) _ Try.underlying23 rfl Try.size23 ?_) | (refine wpList_load_any rfl 23 (.tmp 10) rfl _ rfl 64 23 _ (B2) _ Try.underlying23 rfl Try.size23 ?_) | (go_at_call 76; refine (HTM.out _).mono ?_; rintro e W8 ⟨rfl, hW8⟩; replace B0 := B0.below hW8 B0.lt; replace B1 := B1.below hW8 B1.lt; replace B2 := B2.below hW8 B2.lt; replace hb := (hb).trans (hW8.mono (hb).size); rw [HTV.out]) | (refine wpList_store_blk rfl 23 (.tmp 12) (.tmp 43) rfl _ 64 (prd p f (bkV p (j + 1) 0).1) rfl rfl 23 _ ((Blk.new W8 64 23 (fun _ => 0))) Try.size23 ?_; try simp only [Act.put]; go_upto_region 13 with (fail)))
          have lt_B0 := B0.lt
          have lt_B1 := B1.lt
          have lt_B2 := B2.lt
          have lhb := hb.size
          have qB0 : Blk ((W8.alloc (.cells (bcells 64 fun _ => 0) 23)).setRow (W8.heap.size) (bcells 64 (prd p f (bkV p (j + 1) 0).1))) (w.heap.size) 64 23 (fun _ => 0) := ((B0.alloc (.cells (bcells 64 fun _ => 0) 23)).rowOther (by omega))
          have qB1 : Blk ((W8.alloc (.cells (bcells 64 fun _ => 0) 23)).setRow (W8.heap.size) (bcells 64 (prd p f (bkV p (j + 1) 0).1))) (N1) 64 23 (f) := ((B1.alloc (.cells (bcells 64 fun _ => 0) 23)).rowOther (by omega))
          have qB2 : Blk ((W8.alloc (.cells (bcells 64 fun _ => 0) 23)).setRow (W8.heap.size) (bcells 64 (prd p f (bkV p (j + 1) 0).1))) (N2) 64 23 ((bkV p (j + 1) 0).1) := ((B2.alloc (.cells (bcells 64 fun _ => 0) 23)).rowOther (by omega))
          have qB3 : Blk ((W8.alloc (.cells (bcells 64 fun _ => 0) 23)).setRow (W8.heap.size) (bcells 64 (prd p f (bkV p (j + 1) 0).1))) (W8.heap.size) 64 23 (prd p f (bkV p (j + 1) 0).1) := ((Blk.new W8 64 23 (fun _ => 0)).row (prd p f (bkV p (j + 1) 0).1))
          have qhb : Below w.heap.size w ((W8.alloc (.cells (bcells 64 fun _ => 0) 23)).setRow (W8.heap.size) (bcells 64 (prd p f (bkV p (j + 1) 0).1))) := (below_row (hb.alloc (by have := hb.size; simp; omega) (.cells (bcells 64 fun _ => 0) 23)) (by omega) _)
          obtain ⟨W9, hwo⟩ : ∃ v : World, v = ((W8.alloc (.cells (bcells 64 fun _ => 0) 23)).setRow (W8.heap.size) (bcells 64 (prd p f (bkV p (j + 1) 0).1))) := ⟨_, rfl⟩
          rw [← hwo] at qB0 qB1 qB2 qB3 qhb ⊢
          clear hwo
          clear B0 B1 B2 hb
          have B0 := qB0
          have B1 := qB1
          have B2 := qB2
          have B3 := qB3
          have hb := qhb
          clear qB0 qB1 qB2 qB3 qhb
          obtain ⟨N3, hNN⟩ : ∃ n : Nat, n = W8.heap.size := ⟨_, rfl⟩
          rw [← hNN] at lt_B0 lt_B1 lt_B2 lhb B3 ⊢
          clear hNN
          have zN3_0 := lt_B0
          have zN3_1 := lt_B1
          have zN3_2 := lt_B2
          have zN3 := lhb
          clear lt_B0 lt_B1 lt_B2 lhb
          try simp only [Act.put, List.setIfInBounds_toArray, List.set_cons_zero, List.set_cons_succ]
          have lt_B0 := B0.lt
          have lt_B1 := B1.lt
          have lt_B2 := B2.lt
          have lt_B3 := B3.lt
          go_upto_region 4 with (first | rw [← zero64] | (refine wpList_load_any rfl 23 (.tmp 12) rfl _ rfl 64 23 _ (B3) _ Try.underlying23 rfl Try.size23 ?_) | (refine wpList_store_blk rfl 23 (.tmp 8) (.tmp 48) rfl _ 64 (prd p f (bkV p (j + 1) 0).1) rfl rfl 23 _ (B1) Try.size23 ?_; try simp only [Act.put]))
          have qB0 : Blk (W9.setRow (N1) (bcells 64 (prd p f (bkV p (j + 1) 0).1))) (w.heap.size) 64 23 (fun _ => 0) := (B0.rowOther (by omega))
          have qB1 : Blk (W9.setRow (N1) (bcells 64 (prd p f (bkV p (j + 1) 0).1))) (N1) 64 23 (prd p f (bkV p (j + 1) 0).1) := (B1.row (prd p f (bkV p (j + 1) 0).1))
          have qB2 : Blk (W9.setRow (N1) (bcells 64 (prd p f (bkV p (j + 1) 0).1))) (N2) 64 23 ((bkV p (j + 1) 0).1) := (B2.rowOther (by omega))
          have qB3 : Blk (W9.setRow (N1) (bcells 64 (prd p f (bkV p (j + 1) 0).1))) (N3) 64 23 (prd p f (bkV p (j + 1) 0).1) := (B3.rowOther (by omega))
          have qhb : Below w.heap.size w (W9.setRow (N1) (bcells 64 (prd p f (bkV p (j + 1) 0).1))) := (below_row hb (by omega) _)
          obtain ⟨W10, hwo⟩ : ∃ v : World, v = (W9.setRow (N1) (bcells 64 (prd p f (bkV p (j + 1) 0).1))) := ⟨_, rfl⟩
          rw [← hwo] at qB0 qB1 qB2 qB3 qhb ⊢
          clear hwo
          clear B0 B1 B2 B3 hb
          have B0 := qB0
          have B1 := qB1
          have B2 := qB2
          have B3 := qB3
          have hb := qhb
          clear qB0 qB1 qB2 qB3 qhb
          try simp only [Act.put, List.setIfInBounds_toArray, List.set_cons_zero, List.set_cons_succ]
          go_wp2_with fail
          go_roundw
          case rel => exact ⟨j + 1, _, HN, by go_num, by omega, hb, B0, B1⟩
          case measure => simp [intOf] <;> omega
        · exfalso
          have h0 := fcR_no (p := p) (i := i) (s := true) (j := j) hf.out (fun h => by rw [HBE.out] at h; exact hd h.2)
          have h1 := fcR_none h0 (i - (j + 1))
          rw [show j + 1 + (i - (j + 1)) = i by omega, HF.out] at h1
          cases h1
    · have hjI : ¬ (j : Int) < (i : Int) := by omega
      obtain rfl : j = i := by omega
      have hfF : f = F := by have h1 := hf.out; rw [HF.out] at h1; injection h1 with h1; exact h1.symm
      rw [hfF] at B1
      clear hfF
      go_upto_region 14 with (fail)
      have lt_B0 := B0.lt
      have lt_B1 := B1.lt
      go_wp2_with (first | rw [← zero64] | (refine wpList_load_any rfl 23 (.tmp 8) rfl _ rfl 64 23 _ (B1) _ Try.underlying23 rfl Try.size23 ?_) | (refine wpList_store_blk rfl 23 (.tmp 6) (.tmp 49) rfl _ 64 (F) rfl rfl 23 _ (B0) Try.size23 ?_; try simp only [Act.put]; go_wp2_with fail))
      have qB0 : Blk (wr.setRow (w.heap.size) (bcells 64 (F))) (w.heap.size) 64 23 (F) := (B0.row (F))
      have qB1 : Blk (wr.setRow (w.heap.size) (bcells 64 (F))) (N1) 64 23 (F) := (B1.rowOther (by omega))
      have qhb : Below w.heap.size w (wr.setRow (w.heap.size) (bcells 64 (F))) := (below_row hb (by omega) _)
      obtain ⟨W4, hwo⟩ : ∃ v : World, v = (wr.setRow (w.heap.size) (bcells 64 (F))) := ⟨_, rfl⟩
      rw [← hwo] at qB0 qB1 qhb ⊢
      clear hwo
      clear B0 B1 hb
      have B0 := qB0
      have B1 := qB1
      have hb := qhb
      clear qB0 qB1 qhb
      try simp only [Act.put, List.setIfInBounds_toArray, List.set_cons_zero, List.set_cons_succ]
      refine bodyPost_ret (results_bt rfl _ _ _ 64 23 5 _ rfl B0 Try.underlying23 Try.size23) rfl ⟨rfl, hb⟩
set_option maxRecDepth 100000 in
set_option maxHeartbeats 1600000 in
theorem l04FactS_no (p i : Nat) (w : World) (p2 : 2 ≤ p) (p7 : p ≤ 7) (hi20 : i ≤ 20) (hF : fcR p i true i = none) :
    Calls Try.prog 132 #[.int .i64 (p : Int), .int .i64 (i : Int), .bool true] w fun e w' => e = .returned (.tuple #[.agg (bcells 64 (fun _ => 0)), .bool false]) ∧ Below w.heap.size w w' := by
  have HF := Lib.hid hF
  have HZ := Lib.hid (fcR_z p i true)
  have HLT := Lib.hid (fun j f => fcR_lt (p := p) (i := i) (s := true) p2 j f)
  have HBL := Lib.hid (fun j k => bkS_lt (p := p) (i := i) (s := true) (j := j) p2 k)
  have HBK := Lib.hid (fun i j W (h1 : i ≤ 20) (h2 : j ≤ 20) => l04Bracket_any p i j W p2 p7 h1 h2)
  have HBE := Lib.hid (show ∀ j, (bkS p i true j) = (bkV p (j + 1) 0) from fun j => by unfold bkS; rfl)
  clear hF
  go_enter Try.func132, Try.ntmps132
  go_upto_region 1 with (fail)
  rw [← zero64]
  obtain ⟨W1, hwo⟩ : ∃ v : World, v = (w.alloc (.cells (bcells 64 fun _ => 0) 23)) := ⟨_, rfl⟩
  have B0 : Blk W1 (w.heap.size) 64 23 (fun _ => 0) := by subst hwo; have := (Blk.new w 64 23 (fun _ => 0)); simpa using this
  have hb : Below w.heap.size w W1 := by subst hwo; exact ((Below.refl _ _).alloc (Nat.le_refl _) _)
  rw [← hwo]
  clear hwo
  have lt_B0 := B0.lt
  go_upto_region 2 with (first | rw [← zero64] | (go_at_call 75; refine (l01One_any _).mono ?_; rintro e W2 ⟨rfl, hW2⟩; replace B0 := B0.below hW2 B0.lt; replace hb := (hb).trans (hW2.mono (hb).size)) | (refine wpList_store_blk rfl 23 (.tmp 8) (.tmp 14) rfl _ 64 (oneP) rfl rfl 23 _ ((Blk.new W2 64 23 (fun _ => 0))) Try.size23 ?_; try simp only [Act.put]))
  have lt_B0 := B0.lt
  have lhb := hb.size
  have qB0 : Blk ((W2.alloc (.cells (bcells 64 fun _ => 0) 23)).setRow (W2.heap.size) (bcells 64 (oneP))) (w.heap.size) 64 23 (fun _ => 0) := ((B0.alloc (.cells (bcells 64 fun _ => 0) 23)).rowOther (by omega))
  have qB1 : Blk ((W2.alloc (.cells (bcells 64 fun _ => 0) 23)).setRow (W2.heap.size) (bcells 64 (oneP))) (W2.heap.size) 64 23 (oneP) := ((Blk.new W2 64 23 (fun _ => 0)).row (oneP))
  have qhb : Below w.heap.size w ((W2.alloc (.cells (bcells 64 fun _ => 0) 23)).setRow (W2.heap.size) (bcells 64 (oneP))) := (below_row (hb.alloc (by have := hb.size; simp; omega) (.cells (bcells 64 fun _ => 0) 23)) (by omega) _)
  obtain ⟨W3, hwo⟩ : ∃ v : World, v = ((W2.alloc (.cells (bcells 64 fun _ => 0) 23)).setRow (W2.heap.size) (bcells 64 (oneP))) := ⟨_, rfl⟩
  rw [← hwo] at qB0 qB1 qhb ⊢
  clear hwo
  clear B0 hb
  have B0 := qB0
  have B1 := qB1
  have hb := qhb
  clear qB0 qB1 qhb
  obtain ⟨N1, hNN⟩ : ∃ n : Nat, n = W2.heap.size := ⟨_, rfl⟩
  rw [← hNN] at lt_B0 lhb B1 ⊢
  clear hNN
  have zN1_0 := lt_B0
  have zN1 := lhb
  clear lt_B0 lhb
  try simp only [Act.put, List.setIfInBounds_toArray, List.set_cons_zero, List.set_cons_succ]
  go_wp2_with fail
  go_loopw [9] (fun x wr => ∃ (j : Nat) (f : Nat → Nat), Hid (fcR p i true j = some f) ∧ x = .int .i64 (j : Int) ∧ j ≤ i ∧ Below w.heap.size w wr ∧ Blk wr (w.heap.size) 64 23 (fun _ => 0) ∧ Blk wr (N1) 64 23 f) (fun x _ => i - (intOf x).toNat)
  case atStart => exact ⟨0, _, HZ, rfl, Nat.zero_le _, hb, B0, B1⟩
  case round =>
    clear hb B0 B1
    obtain ⟨j, f, hf, rfl, hji, hb, B0, B1⟩ := hrel
    by_cases hj : j < i
    · have hjI : (j : Int) < (i : Int) := by omega
      have lf := HLT.out j f hf.out
      have lb : ∀ k, k < 64 → (bkV p (j + 1) 0).1 k < p := fun k _ => by have h := HBL.out j k; rw [HBE.out] at h; exact h
      have HB1 := Lib.hid (fun W => HBK.out i j W hi20 (by omega))
      have HTM := Lib.hid (fun W => l01Times_any p f (bkV p (j + 1) 0).1 W p2 p7 lf lb)
      clear lf lb
      have HB2 := Lib.hid (fun W => HBK.out (j + 1) 0 W (by omega) (by omega))
      cases hbb : (bkV p (j + 1) 0).2 with
      | false =>
        have lt_B0 := B0.lt
        have lt_B1 := B1.lt
        go_upto_region 7 with (first | rw [← zero64] | (go_at_call 127; refine (HB1.out _).mono ?_; rintro e W4 ⟨rfl, hW4⟩; replace B0 := B0.below hW4 B0.lt; replace B1 := B1.below hW4 B1.lt; replace hb := (hb).trans (hW4.mono (hb).size); skip) | (refine wpList_store_blk rfl 23 (.tmp 10) (.tmp 25) rfl _ 64 ((bkV p i j).1) rfl rfl 23 _ ((Blk.new W4 64 23 (fun _ => 0))) Try.size23 ?_; try simp only [Act.put]; go_upto_region 7 with (fail)))
        have lt_B0 := B0.lt
        have lt_B1 := B1.lt
        have lhb := hb.size
        have qB0 : Blk ((W4.alloc (.cells (bcells 64 fun _ => 0) 23)).setRow (W4.heap.size) (bcells 64 ((bkV p i j).1))) (w.heap.size) 64 23 (fun _ => 0) := ((B0.alloc (.cells (bcells 64 fun _ => 0) 23)).rowOther (by omega))
        have qB1 : Blk ((W4.alloc (.cells (bcells 64 fun _ => 0) 23)).setRow (W4.heap.size) (bcells 64 ((bkV p i j).1))) (N1) 64 23 (f) := ((B1.alloc (.cells (bcells 64 fun _ => 0) 23)).rowOther (by omega))
        have qB2 : Blk ((W4.alloc (.cells (bcells 64 fun _ => 0) 23)).setRow (W4.heap.size) (bcells 64 ((bkV p i j).1))) (W4.heap.size) 64 23 ((bkV p i j).1) := ((Blk.new W4 64 23 (fun _ => 0)).row ((bkV p i j).1))
        have qhb : Below w.heap.size w ((W4.alloc (.cells (bcells 64 fun _ => 0) 23)).setRow (W4.heap.size) (bcells 64 ((bkV p i j).1))) := (below_row (hb.alloc (by have := hb.size; simp; omega) (.cells (bcells 64 fun _ => 0) 23)) (by omega) _)
        obtain ⟨W5, hwo⟩ : ∃ v : World, v = ((W4.alloc (.cells (bcells 64 fun _ => 0) 23)).setRow (W4.heap.size) (bcells 64 ((bkV p i j).1))) := ⟨_, rfl⟩
        rw [← hwo] at qB0 qB1 qB2 qhb ⊢
        clear hwo
        clear B0 B1 hb
        have B0 := qB0
        have B1 := qB1
        have B2 := qB2
        have hb := qhb
        clear qB0 qB1 qB2 qhb
        obtain ⟨N2, hNN⟩ : ∃ n : Nat, n = W4.heap.size := ⟨_, rfl⟩
        rw [← hNN] at lt_B0 lt_B1 lhb B2 ⊢
        clear hNN
        have zN2_0 := lt_B0
        have zN2_1 := lt_B1
        have zN2 := lhb
        clear lt_B0 lt_B1 lhb
        try simp only [Act.put, List.setIfInBounds_toArray, List.set_cons_zero, List.set_cons_succ]
        have lt_B0 := B0.lt
        have lt_B1 := B1.lt
        have lt_B2 := B2.lt
        go_upto_region 9 with (first | rw [← zero64] | (go_at_call 127; refine (HB2.out _).mono ?_; rintro e W6 ⟨rfl, hW6⟩; replace B0 := B0.below hW6 B0.lt; replace B1 := B1.below hW6 B1.lt; replace B2 := B2.below hW6 B2.lt; replace hb := (hb).trans (hW6.mono (hb).size); rw [hbb]) | (refine wpList_store_blk rfl 23 (.tmp 10) (.tmp 33) rfl _ 64 ((bkV p (j + 1) 0).1) rfl rfl 23 _ (B2) Try.size23 ?_; try simp only [Act.put]; go_upto_region 9 with (fail)))
        have qB0 : Blk (W6.setRow (N2) (bcells 64 ((bkV p (j + 1) 0).1))) (w.heap.size) 64 23 (fun _ => 0) := (B0.rowOther (by omega))
        have qB1 : Blk (W6.setRow (N2) (bcells 64 ((bkV p (j + 1) 0).1))) (N1) 64 23 (f) := (B1.rowOther (by omega))
        have qB2 : Blk (W6.setRow (N2) (bcells 64 ((bkV p (j + 1) 0).1))) (N2) 64 23 ((bkV p (j + 1) 0).1) := (B2.row ((bkV p (j + 1) 0).1))
        have qhb : Below w.heap.size w (W6.setRow (N2) (bcells 64 ((bkV p (j + 1) 0).1))) := (below_row hb (by omega) _)
        obtain ⟨W7, hwo⟩ : ∃ v : World, v = (W6.setRow (N2) (bcells 64 ((bkV p (j + 1) 0).1))) := ⟨_, rfl⟩
        rw [← hwo] at qB0 qB1 qB2 qhb ⊢
        clear hwo
        clear B0 B1 B2 hb
        have B0 := qB0
        have B1 := qB1
        have B2 := qB2
        have hb := qhb
        clear qB0 qB1 qB2 qhb
        try simp only [Act.put, List.setIfInBounds_toArray, List.set_cons_zero, List.set_cons_succ]
        have lt_B0 := B0.lt
        have lt_B1 := B1.lt
        have lt_B2 := B2.lt
        go_wp2_with (first | rw [← zero64] | (refine wpList_store_blk rfl 23 (.tmp 6) (.tmp 37) rfl _ 64 (fun _ => 0) rfl rfl 23 _ (B0) Try.size23 ?_; try simp only [Act.put]; go_wp2_with fail))
        have qB0 : Blk (W7.setRow (w.heap.size) (bcells 64 (fun _ => 0))) (w.heap.size) 64 23 (fun _ => 0) := (B0.row (fun _ => 0))
        have qB1 : Blk (W7.setRow (w.heap.size) (bcells 64 (fun _ => 0))) (N1) 64 23 (f) := (B1.rowOther (by omega))
        have qB2 : Blk (W7.setRow (w.heap.size) (bcells 64 (fun _ => 0))) (N2) 64 23 ((bkV p (j + 1) 0).1) := (B2.rowOther (by omega))
        have qhb : Below w.heap.size w (W7.setRow (w.heap.size) (bcells 64 (fun _ => 0))) := (below_row hb (by omega) _)
        obtain ⟨W8, hwo⟩ : ∃ v : World, v = (W7.setRow (w.heap.size) (bcells 64 (fun _ => 0))) := ⟨_, rfl⟩
        rw [← hwo] at qB0 qB1 qB2 qhb ⊢
        clear hwo
        clear B0 B1 B2 hb
        have B0 := qB0
        have B1 := qB1
        have B2 := qB2
        have hb := qhb
        clear qB0 qB1 qB2 qhb
        try simp only [Act.put, List.setIfInBounds_toArray, List.set_cons_zero, List.set_cons_succ]
        refine bodyPost_ret (results_bt rfl _ _ _ 64 23 5 _ rfl B0 Try.underlying23 Try.size23) rfl ⟨rfl, hb⟩
      | true =>
        by_cases hd : deg f + deg (bkV p (j + 1) 0).1 ≤ 63
        · have HN := Lib.hid (show fcR p i true (j + 1) = some (prd p f (bkV p (j + 1) 0).1) by
            have h := fcR_yes (p := p) (i := i) (s := true) (j := j) hf.out (by rw [HBE.out]; exact hbb) (by rw [HBE.out]; exact hd)
            rw [h, HBE.out])
          have HTV := Lib.hid (show tmV p f (bkV p (j + 1) 0).1 = (prd p f (bkV p (j + 1) 0).1, true) from if_pos hd)
          have lt_B0 := B0.lt
          have lt_B1 := B1.lt
          go_upto_region 7 with (first | rw [← zero64] | (go_at_call 127; refine (HB1.out _).mono ?_; rintro e W4 ⟨rfl, hW4⟩; replace B0 := B0.below hW4 B0.lt; replace B1 := B1.below hW4 B1.lt; replace hb := (hb).trans (hW4.mono (hb).size); skip) | (refine wpList_store_blk rfl 23 (.tmp 10) (.tmp 25) rfl _ 64 ((bkV p i j).1) rfl rfl 23 _ ((Blk.new W4 64 23 (fun _ => 0))) Try.size23 ?_; try simp only [Act.put]; go_upto_region 7 with (fail)))
          have lt_B0 := B0.lt
          have lt_B1 := B1.lt
          have lhb := hb.size
          have qB0 : Blk ((W4.alloc (.cells (bcells 64 fun _ => 0) 23)).setRow (W4.heap.size) (bcells 64 ((bkV p i j).1))) (w.heap.size) 64 23 (fun _ => 0) := ((B0.alloc (.cells (bcells 64 fun _ => 0) 23)).rowOther (by omega))
          have qB1 : Blk ((W4.alloc (.cells (bcells 64 fun _ => 0) 23)).setRow (W4.heap.size) (bcells 64 ((bkV p i j).1))) (N1) 64 23 (f) := ((B1.alloc (.cells (bcells 64 fun _ => 0) 23)).rowOther (by omega))
          have qB2 : Blk ((W4.alloc (.cells (bcells 64 fun _ => 0) 23)).setRow (W4.heap.size) (bcells 64 ((bkV p i j).1))) (W4.heap.size) 64 23 ((bkV p i j).1) := ((Blk.new W4 64 23 (fun _ => 0)).row ((bkV p i j).1))
          have qhb : Below w.heap.size w ((W4.alloc (.cells (bcells 64 fun _ => 0) 23)).setRow (W4.heap.size) (bcells 64 ((bkV p i j).1))) := (below_row (hb.alloc (by have := hb.size; simp; omega) (.cells (bcells 64 fun _ => 0) 23)) (by omega) _)
          obtain ⟨W5, hwo⟩ : ∃ v : World, v = ((W4.alloc (.cells (bcells 64 fun _ => 0) 23)).setRow (W4.heap.size) (bcells 64 ((bkV p i j).1))) := ⟨_, rfl⟩
          rw [← hwo] at qB0 qB1 qB2 qhb ⊢
          clear hwo
          clear B0 B1 hb
          have B0 := qB0
          have B1 := qB1
          have B2 := qB2
          have hb := qhb
          clear qB0 qB1 qB2 qhb
          obtain ⟨N2, hNN⟩ : ∃ n : Nat, n = W4.heap.size := ⟨_, rfl⟩
          rw [← hNN] at lt_B0 lt_B1 lhb B2 ⊢
          clear hNN
          have zN2_0 := lt_B0
          have zN2_1 := lt_B1
          have zN2 := lhb
          clear lt_B0 lt_B1 lhb
          try simp only [Act.put, List.setIfInBounds_toArray, List.set_cons_zero, List.set_cons_succ]
          have lt_B0 := B0.lt
          have lt_B1 := B1.lt
          have lt_B2 := B2.lt
          go_upto_region 10 with (first | rw [← zero64] | (go_at_call 127; refine (HB2.out _).mono ?_; rintro e W6 ⟨rfl, hW6⟩; replace B0 := B0.below hW6 B0.lt; replace B1 := B1.below hW6 B1.lt; replace B2 := B2.below hW6 B2.lt; replace hb := (hb).trans (hW6.mono (hb).size); rw [hbb]) | (refine wpList_store_blk rfl 23 (.tmp 10) (.tmp 33) rfl _ 64 ((bkV p (j + 1) 0).1) rfl rfl 23 _ (B2) Try.size23 ?_; try simp only [Act.put]; go_upto_region 10 with (fail)))
          have qB0 : Blk (W6.setRow (N2) (bcells 64 ((bkV p (j + 1) 0).1))) (w.heap.size) 64 23 (fun _ => 0) := (B0.rowOther (by omega))
          have qB1 : Blk (W6.setRow (N2) (bcells 64 ((bkV p (j + 1) 0).1))) (N1) 64 23 (f) := (B1.rowOther (by omega))
          have qB2 : Blk (W6.setRow (N2) (bcells 64 ((bkV p (j + 1) 0).1))) (N2) 64 23 ((bkV p (j + 1) 0).1) := (B2.row ((bkV p (j + 1) 0).1))
          have qhb : Below w.heap.size w (W6.setRow (N2) (bcells 64 ((bkV p (j + 1) 0).1))) := (below_row hb (by omega) _)
          obtain ⟨W7, hwo⟩ : ∃ v : World, v = (W6.setRow (N2) (bcells 64 ((bkV p (j + 1) 0).1))) := ⟨_, rfl⟩
          rw [← hwo] at qB0 qB1 qB2 qhb ⊢
          clear hwo
          clear B0 B1 B2 hb
          have B0 := qB0
          have B1 := qB1
          have B2 := qB2
          have hb := qhb
          clear qB0 qB1 qB2 qhb
          try simp only [Act.put, List.setIfInBounds_toArray, List.set_cons_zero, List.set_cons_succ]
          clear hbb hd HB1 HB2
          have lt_B0 := B0.lt
          have lt_B1 := B1.lt
          have lt_B2 := B2.lt
          go_upto_region 13 with (first | rw [← zero64] | (refine wpList_load_any rfl 23 (.tmp 8) rfl _ rfl 64 23 _ (B1) _ Try.underlying23 rfl Try.size23 ?_) | (refine wpList_load_any rfl 23 (.tmp 10) rfl _ rfl 64 23 _ (B2) _ Try.underlying23 rfl Try.size23 ?_) | (go_at_call 76; refine (HTM.out _).mono ?_; rintro e W8 ⟨rfl, hW8⟩; replace B0 := B0.below hW8 B0.lt; replace B1 := B1.below hW8 B1.lt; replace B2 := B2.below hW8 B2.lt; replace hb := (hb).trans (hW8.mono (hb).size); rw [HTV.out]) | (refine wpList_store_blk rfl 23 (.tmp 12) (.tmp 43) rfl _ 64 (prd p f (bkV p (j + 1) 0).1) rfl rfl 23 _ ((Blk.new W8 64 23 (fun _ => 0))) Try.size23 ?_; try simp only [Act.put]; go_upto_region 13 with (fail)))
          have lt_B0 := B0.lt
          have lt_B1 := B1.lt
          have lt_B2 := B2.lt
          have lhb := hb.size
          have qB0 : Blk ((W8.alloc (.cells (bcells 64 fun _ => 0) 23)).setRow (W8.heap.size) (bcells 64 (prd p f (bkV p (j + 1) 0).1))) (w.heap.size) 64 23 (fun _ => 0) := ((B0.alloc (.cells (bcells 64 fun _ => 0) 23)).rowOther (by omega))
          have qB1 : Blk ((W8.alloc (.cells (bcells 64 fun _ => 0) 23)).setRow (W8.heap.size) (bcells 64 (prd p f (bkV p (j + 1) 0).1))) (N1) 64 23 (f) := ((B1.alloc (.cells (bcells 64 fun _ => 0) 23)).rowOther (by omega))
          have qB2 : Blk ((W8.alloc (.cells (bcells 64 fun _ => 0) 23)).setRow (W8.heap.size) (bcells 64 (prd p f (bkV p (j + 1) 0).1))) (N2) 64 23 ((bkV p (j + 1) 0).1) := ((B2.alloc (.cells (bcells 64 fun _ => 0) 23)).rowOther (by omega))
          have qB3 : Blk ((W8.alloc (.cells (bcells 64 fun _ => 0) 23)).setRow (W8.heap.size) (bcells 64 (prd p f (bkV p (j + 1) 0).1))) (W8.heap.size) 64 23 (prd p f (bkV p (j + 1) 0).1) := ((Blk.new W8 64 23 (fun _ => 0)).row (prd p f (bkV p (j + 1) 0).1))
          have qhb : Below w.heap.size w ((W8.alloc (.cells (bcells 64 fun _ => 0) 23)).setRow (W8.heap.size) (bcells 64 (prd p f (bkV p (j + 1) 0).1))) := (below_row (hb.alloc (by have := hb.size; simp; omega) (.cells (bcells 64 fun _ => 0) 23)) (by omega) _)
          obtain ⟨W9, hwo⟩ : ∃ v : World, v = ((W8.alloc (.cells (bcells 64 fun _ => 0) 23)).setRow (W8.heap.size) (bcells 64 (prd p f (bkV p (j + 1) 0).1))) := ⟨_, rfl⟩
          rw [← hwo] at qB0 qB1 qB2 qB3 qhb ⊢
          clear hwo
          clear B0 B1 B2 hb
          have B0 := qB0
          have B1 := qB1
          have B2 := qB2
          have B3 := qB3
          have hb := qhb
          clear qB0 qB1 qB2 qB3 qhb
          obtain ⟨N3, hNN⟩ : ∃ n : Nat, n = W8.heap.size := ⟨_, rfl⟩
          rw [← hNN] at lt_B0 lt_B1 lt_B2 lhb B3 ⊢
          clear hNN
          have zN3_0 := lt_B0
          have zN3_1 := lt_B1
          have zN3_2 := lt_B2
          have zN3 := lhb
          clear lt_B0 lt_B1 lt_B2 lhb
          try simp only [Act.put, List.setIfInBounds_toArray, List.set_cons_zero, List.set_cons_succ]
          have lt_B0 := B0.lt
          have lt_B1 := B1.lt
          have lt_B2 := B2.lt
          have lt_B3 := B3.lt
          go_upto_region 4 with (first | rw [← zero64] | (refine wpList_load_any rfl 23 (.tmp 12) rfl _ rfl 64 23 _ (B3) _ Try.underlying23 rfl Try.size23 ?_) | (refine wpList_store_blk rfl 23 (.tmp 8) (.tmp 48) rfl _ 64 (prd p f (bkV p (j + 1) 0).1) rfl rfl 23 _ (B1) Try.size23 ?_; try simp only [Act.put]))
          have qB0 : Blk (W9.setRow (N1) (bcells 64 (prd p f (bkV p (j + 1) 0).1))) (w.heap.size) 64 23 (fun _ => 0) := (B0.rowOther (by omega))
          have qB1 : Blk (W9.setRow (N1) (bcells 64 (prd p f (bkV p (j + 1) 0).1))) (N1) 64 23 (prd p f (bkV p (j + 1) 0).1) := (B1.row (prd p f (bkV p (j + 1) 0).1))
          have qB2 : Blk (W9.setRow (N1) (bcells 64 (prd p f (bkV p (j + 1) 0).1))) (N2) 64 23 ((bkV p (j + 1) 0).1) := (B2.rowOther (by omega))
          have qB3 : Blk (W9.setRow (N1) (bcells 64 (prd p f (bkV p (j + 1) 0).1))) (N3) 64 23 (prd p f (bkV p (j + 1) 0).1) := (B3.rowOther (by omega))
          have qhb : Below w.heap.size w (W9.setRow (N1) (bcells 64 (prd p f (bkV p (j + 1) 0).1))) := (below_row hb (by omega) _)
          obtain ⟨W10, hwo⟩ : ∃ v : World, v = (W9.setRow (N1) (bcells 64 (prd p f (bkV p (j + 1) 0).1))) := ⟨_, rfl⟩
          rw [← hwo] at qB0 qB1 qB2 qB3 qhb ⊢
          clear hwo
          clear B0 B1 B2 B3 hb
          have B0 := qB0
          have B1 := qB1
          have B2 := qB2
          have B3 := qB3
          have hb := qhb
          clear qB0 qB1 qB2 qB3 qhb
          try simp only [Act.put, List.setIfInBounds_toArray, List.set_cons_zero, List.set_cons_succ]
          go_wp2_with fail
          go_roundw
          case rel => exact ⟨j + 1, _, HN, by go_num, by omega, hb, B0, B1⟩
          case measure => simp [intOf] <;> omega
        · have HTV := Lib.hid (show tmV p f (bkV p (j + 1) 0).1 = (fun _ => 0, false) from if_neg hd)
          have lt_B0 := B0.lt
          have lt_B1 := B1.lt
          go_upto_region 7 with (first | rw [← zero64] | (go_at_call 127; refine (HB1.out _).mono ?_; rintro e W4 ⟨rfl, hW4⟩; replace B0 := B0.below hW4 B0.lt; replace B1 := B1.below hW4 B1.lt; replace hb := (hb).trans (hW4.mono (hb).size); skip) | (refine wpList_store_blk rfl 23 (.tmp 10) (.tmp 25) rfl _ 64 ((bkV p i j).1) rfl rfl 23 _ ((Blk.new W4 64 23 (fun _ => 0))) Try.size23 ?_; try simp only [Act.put]; go_upto_region 7 with (fail)))
          have lt_B0 := B0.lt
          have lt_B1 := B1.lt
          have lhb := hb.size
          have qB0 : Blk ((W4.alloc (.cells (bcells 64 fun _ => 0) 23)).setRow (W4.heap.size) (bcells 64 ((bkV p i j).1))) (w.heap.size) 64 23 (fun _ => 0) := ((B0.alloc (.cells (bcells 64 fun _ => 0) 23)).rowOther (by omega))
          have qB1 : Blk ((W4.alloc (.cells (bcells 64 fun _ => 0) 23)).setRow (W4.heap.size) (bcells 64 ((bkV p i j).1))) (N1) 64 23 (f) := ((B1.alloc (.cells (bcells 64 fun _ => 0) 23)).rowOther (by omega))
          have qB2 : Blk ((W4.alloc (.cells (bcells 64 fun _ => 0) 23)).setRow (W4.heap.size) (bcells 64 ((bkV p i j).1))) (W4.heap.size) 64 23 ((bkV p i j).1) := ((Blk.new W4 64 23 (fun _ => 0)).row ((bkV p i j).1))
          have qhb : Below w.heap.size w ((W4.alloc (.cells (bcells 64 fun _ => 0) 23)).setRow (W4.heap.size) (bcells 64 ((bkV p i j).1))) := (below_row (hb.alloc (by have := hb.size; simp; omega) (.cells (bcells 64 fun _ => 0) 23)) (by omega) _)
          obtain ⟨W5, hwo⟩ : ∃ v : World, v = ((W4.alloc (.cells (bcells 64 fun _ => 0) 23)).setRow (W4.heap.size) (bcells 64 ((bkV p i j).1))) := ⟨_, rfl⟩
          rw [← hwo] at qB0 qB1 qB2 qhb ⊢
          clear hwo
          clear B0 B1 hb
          have B0 := qB0
          have B1 := qB1
          have B2 := qB2
          have hb := qhb
          clear qB0 qB1 qB2 qhb
          obtain ⟨N2, hNN⟩ : ∃ n : Nat, n = W4.heap.size := ⟨_, rfl⟩
          rw [← hNN] at lt_B0 lt_B1 lhb B2 ⊢
          clear hNN
          have zN2_0 := lt_B0
          have zN2_1 := lt_B1
          have zN2 := lhb
          clear lt_B0 lt_B1 lhb
          try simp only [Act.put, List.setIfInBounds_toArray, List.set_cons_zero, List.set_cons_succ]
          have lt_B0 := B0.lt
          have lt_B1 := B1.lt
          have lt_B2 := B2.lt
          go_upto_region 10 with (first | rw [← zero64] | (go_at_call 127; refine (HB2.out _).mono ?_; rintro e W6 ⟨rfl, hW6⟩; replace B0 := B0.below hW6 B0.lt; replace B1 := B1.below hW6 B1.lt; replace B2 := B2.below hW6 B2.lt; replace hb := (hb).trans (hW6.mono (hb).size); rw [hbb]) | (refine wpList_store_blk rfl 23 (.tmp 10) (.tmp 33) rfl _ 64 ((bkV p (j + 1) 0).1) rfl rfl 23 _ (B2) Try.size23 ?_; try simp only [Act.put]; go_upto_region 10 with (fail)))
          have qB0 : Blk (W6.setRow (N2) (bcells 64 ((bkV p (j + 1) 0).1))) (w.heap.size) 64 23 (fun _ => 0) := (B0.rowOther (by omega))
          have qB1 : Blk (W6.setRow (N2) (bcells 64 ((bkV p (j + 1) 0).1))) (N1) 64 23 (f) := (B1.rowOther (by omega))
          have qB2 : Blk (W6.setRow (N2) (bcells 64 ((bkV p (j + 1) 0).1))) (N2) 64 23 ((bkV p (j + 1) 0).1) := (B2.row ((bkV p (j + 1) 0).1))
          have qhb : Below w.heap.size w (W6.setRow (N2) (bcells 64 ((bkV p (j + 1) 0).1))) := (below_row hb (by omega) _)
          obtain ⟨W7, hwo⟩ : ∃ v : World, v = (W6.setRow (N2) (bcells 64 ((bkV p (j + 1) 0).1))) := ⟨_, rfl⟩
          rw [← hwo] at qB0 qB1 qB2 qhb ⊢
          clear hwo
          clear B0 B1 B2 hb
          have B0 := qB0
          have B1 := qB1
          have B2 := qB2
          have hb := qhb
          clear qB0 qB1 qB2 qhb
          try simp only [Act.put, List.setIfInBounds_toArray, List.set_cons_zero, List.set_cons_succ]
          clear hbb hd HB1 HB2
          have lt_B0 := B0.lt
          have lt_B1 := B1.lt
          have lt_B2 := B2.lt
          go_upto_region 12 with (first | rw [← zero64] | (refine wpList_load_any rfl 23 (.tmp 8) rfl _ rfl 64 23 _ (B1) _ Try.underlying23 rfl Try.size23 ?_) | (refine wpList_load_any rfl 23 (.tmp 10) rfl _ rfl 64 23 _ (B2) _ Try.underlying23 rfl Try.size23 ?_) | (go_at_call 76; refine (HTM.out _).mono ?_; rintro e W8 ⟨rfl, hW8⟩; replace B0 := B0.below hW8 B0.lt; replace B1 := B1.below hW8 B1.lt; replace B2 := B2.below hW8 B2.lt; replace hb := (hb).trans (hW8.mono (hb).size); rw [HTV.out]) | (refine wpList_store_blk rfl 23 (.tmp 12) (.tmp 43) rfl _ 64 (fun _ => 0) rfl rfl 23 _ ((Blk.new W8 64 23 (fun _ => 0))) Try.size23 ?_; try simp only [Act.put]; go_upto_region 12 with (fail)))
          have lt_B0 := B0.lt
          have lt_B1 := B1.lt
          have lt_B2 := B2.lt
          have lhb := hb.size
          have qB0 : Blk ((W8.alloc (.cells (bcells 64 fun _ => 0) 23)).setRow (W8.heap.size) (bcells 64 (fun _ => 0))) (w.heap.size) 64 23 (fun _ => 0) := ((B0.alloc (.cells (bcells 64 fun _ => 0) 23)).rowOther (by omega))
          have qB1 : Blk ((W8.alloc (.cells (bcells 64 fun _ => 0) 23)).setRow (W8.heap.size) (bcells 64 (fun _ => 0))) (N1) 64 23 (f) := ((B1.alloc (.cells (bcells 64 fun _ => 0) 23)).rowOther (by omega))
          have qB2 : Blk ((W8.alloc (.cells (bcells 64 fun _ => 0) 23)).setRow (W8.heap.size) (bcells 64 (fun _ => 0))) (N2) 64 23 ((bkV p (j + 1) 0).1) := ((B2.alloc (.cells (bcells 64 fun _ => 0) 23)).rowOther (by omega))
          have qB3 : Blk ((W8.alloc (.cells (bcells 64 fun _ => 0) 23)).setRow (W8.heap.size) (bcells 64 (fun _ => 0))) (W8.heap.size) 64 23 (fun _ => 0) := ((Blk.new W8 64 23 (fun _ => 0)).row (fun _ => 0))
          have qhb : Below w.heap.size w ((W8.alloc (.cells (bcells 64 fun _ => 0) 23)).setRow (W8.heap.size) (bcells 64 (fun _ => 0))) := (below_row (hb.alloc (by have := hb.size; simp; omega) (.cells (bcells 64 fun _ => 0) 23)) (by omega) _)
          obtain ⟨W9, hwo⟩ : ∃ v : World, v = ((W8.alloc (.cells (bcells 64 fun _ => 0) 23)).setRow (W8.heap.size) (bcells 64 (fun _ => 0))) := ⟨_, rfl⟩
          rw [← hwo] at qB0 qB1 qB2 qB3 qhb ⊢
          clear hwo
          clear B0 B1 B2 hb
          have B0 := qB0
          have B1 := qB1
          have B2 := qB2
          have B3 := qB3
          have hb := qhb
          clear qB0 qB1 qB2 qB3 qhb
          obtain ⟨N3, hNN⟩ : ∃ n : Nat, n = W8.heap.size := ⟨_, rfl⟩
          rw [← hNN] at lt_B0 lt_B1 lt_B2 lhb B3 ⊢
          clear hNN
          have zN3_0 := lt_B0
          have zN3_1 := lt_B1
          have zN3_2 := lt_B2
          have zN3 := lhb
          clear lt_B0 lt_B1 lt_B2 lhb
          try simp only [Act.put, List.setIfInBounds_toArray, List.set_cons_zero, List.set_cons_succ]
          have lt_B0 := B0.lt
          have lt_B1 := B1.lt
          have lt_B2 := B2.lt
          have lt_B3 := B3.lt
          go_wp2_with (first | rw [← zero64] | (refine wpList_store_blk rfl 23 (.tmp 6) (.tmp 47) rfl _ 64 (fun _ => 0) rfl rfl 23 _ (B0) Try.size23 ?_; try simp only [Act.put]; go_wp2_with fail))
          have qB0 : Blk (W9.setRow (w.heap.size) (bcells 64 (fun _ => 0))) (w.heap.size) 64 23 (fun _ => 0) := (B0.row (fun _ => 0))
          have qB1 : Blk (W9.setRow (w.heap.size) (bcells 64 (fun _ => 0))) (N1) 64 23 (f) := (B1.rowOther (by omega))
          have qB2 : Blk (W9.setRow (w.heap.size) (bcells 64 (fun _ => 0))) (N2) 64 23 ((bkV p (j + 1) 0).1) := (B2.rowOther (by omega))
          have qB3 : Blk (W9.setRow (w.heap.size) (bcells 64 (fun _ => 0))) (N3) 64 23 (fun _ => 0) := (B3.rowOther (by omega))
          have qhb : Below w.heap.size w (W9.setRow (w.heap.size) (bcells 64 (fun _ => 0))) := (below_row hb (by omega) _)
          obtain ⟨W10, hwo⟩ : ∃ v : World, v = (W9.setRow (w.heap.size) (bcells 64 (fun _ => 0))) := ⟨_, rfl⟩
          rw [← hwo] at qB0 qB1 qB2 qB3 qhb ⊢
          clear hwo
          clear B0 B1 B2 B3 hb
          have B0 := qB0
          have B1 := qB1
          have B2 := qB2
          have B3 := qB3
          have hb := qhb
          clear qB0 qB1 qB2 qB3 qhb
          try simp only [Act.put, List.setIfInBounds_toArray, List.set_cons_zero, List.set_cons_succ]
          refine bodyPost_ret (results_bt rfl _ _ _ 64 23 5 _ rfl B0 Try.underlying23 Try.size23) rfl ⟨rfl, hb⟩
    · have hjI : ¬ (j : Int) < (i : Int) := by omega
      obtain rfl : j = i := by omega
      exfalso
      have h1 := hf.out
      rw [HF.out] at h1
      cases h1
end Go.Proofs.Ytbjpkmbhbpcbgaa
end
section
namespace Go.Proofs.Ytbjpkmbhbpcbgaa
open Go Go.RowKit
set_option linter.unusedVariables false
set_option linter.unusedSimpArgs false
set_option maxRecDepth 100000 in
set_option maxHeartbeats 1600000 in
theorem door_caught (b : Nat) (x : Int) (w : World) (hb : One w b 2 (.int .i64 x)) :
    CallsD Try.prog 175 #[.pointer (some ⟨b, 0, none⟩)] (.panicking ({ v := Value.iface 138 (.int .i64 3), recovered := false } :: [])) w fun e u' w' =>
      e = .returned (.tuple #[]) ∧ u' = .panicking ({ v := Value.iface 138 (.int .i64 3), recovered := true } :: []) ∧ w' = w.setCell ⟨b, 0, none⟩ (.int .i64 3) := by
  have hta : ∀ w : World, (Instr.typeAssert (.iface 138 (.int .i64 3)) 20 138 false).run Try.prog w = .ok (.int .i64 3) w := fun _ => by kernel_rfl
  have hc := hb.cell
  have hz := hb.frozen 0
  refine callsD_of_wpS Try.func175 rfl fun c₀ cs hu => ?_
  apply wpS_seq
  apply wpS_region
  simp [wpOpsS, go_sem, recoverD, hu, Try.ntmps175, Exit.thenS]
  refine wpS_of_wp ?_
  show Code.wp _ _ _ { tmps := #[.pointer (some ⟨b, 0, none⟩), Value.iface 138 (.int .i64 3), Value.iface 138 (.int .i64 3), undef, undef, undef, undef], defers := [] } _
  go_wp2_with fail
  cases c₀
  simp_all [bodyPostS, results, Try.results175]
set_option maxRecDepth 100000 in
set_option maxHeartbeats 1600000 in
theorem door_idle (b : Nat) (w : World) :
    CallsD Try.prog 175 #[.pointer (some ⟨b, 0, none⟩)] .returning w fun e u' w' => e = .returned (.tuple #[]) ∧ u' = .returning ∧ w' = w := by
  refine callsD_of_wpS Try.func175 rfl fun c₀ cs hu => ?_
  apply wpS_seq
  apply wpS_region
  simp [wpOpsS, go_sem, recoverD, hu, Try.ntmps175, Exit.thenS]
  refine wpS_of_wp ?_
  show Code.wp _ _ _ { tmps := #[.pointer (some ⟨b, 0, none⟩), .nilIface, .nilIface, undef, undef, undef, undef], defers := [] } _
  go_wp2_with fail
  cases c₀
  simp_all [bodyPostS, results, Try.results175]
theorem results_bc {P : Program} {fn : Func} {p q : Tmp} {ty ty2 : TypeId} (h : fn.results = #[.cell p ty, .cell q ty2]) (tmps : Array Value) (w : World) (b n : Nat) (t e : TypeId) (f : Nat → Nat) (b2 : Nat) (t2 : TypeId) (v : Value)
    (hp : tmps.getD p undef = .pointer (some ⟨b, 0, none⟩)) (hb : Blk w b n t f) (hu : P.underlying ty = some (.array n e)) (hi : (P.info? ty).map (·.size) = some n)
    (hq : tmps.getD q undef = .pointer (some ⟨b2, 0, none⟩)) (hb2 : One w b2 t2 v) (k : IntKind) (hu2 : P.underlying ty2 = some (.int k)) :
    (results fn tmps).run P w = .ok (.tuple #[.agg (bcells n f), v]) w := by
  have hp' : tmps[p]?.getD undef = .pointer (some ⟨b, 0, none⟩) := by simpa using hp
  have hq' : tmps[q]?.getD undef = .pointer (some ⟨b2, 0, none⟩) := by simpa using hq
  have hc := hb2.cell
  have hagg : (isAgg ty2).run P w = .ok false w := by
    unfold isAgg
    rw [Sem.run_bind, run_underlying hu2 w]
    rfl
  have hl : (loadVar ty2 ⟨b2, 0, none⟩).run P w = .ok v w := by
    simp [loadVar, Sem.run_bind, hagg, go_sem, hc]
  simp [results, h, hp', hq', asAddr, run_loadVar_blk w b n t ty e f hb hu hi, hl]
theorem One.setc {w : World} {b : Nat} {t : TypeId} {v x : Value} (h : One w b t v) : One (w.setCell ⟨b, 0, none⟩ x) b t x := by
  unfold One at *
  rw [heap_setCell_same _ _ _ _ _ _ h]; rfl
set_option maxRecDepth 100000 in
set_option maxHeartbeats 1600000 in
theorem door_BracketOf (c1 c2 : Value) (f : Nat → Nat) (w : World) (H : ∀ W, Below w.heap.size w W → Calls Try.prog 130 #[c1, c2] W fun e w' => e = .returned (.agg (bcells 64 f)) ∧ Below W.heap.size W w') :
    Calls Try.prog 129 #[.func (.func 130) #[] #[c1, c2]] w fun e w' => e = .returned (.tuple #[.agg (bcells 64 f), .int .i64 0]) ∧ Below w.heap.size w w' := by
  have HH := Lib.hid H
  clear H
  have hmf : ∀ (fn : Fn) (first cap : Array Value) (w : World), (Instr.makeFunc fn first cap).run Try.prog w = .ok (.func fn first cap) w := fun _ _ _ _ => rfl
  go_enter_defers Try.func129, Try.ntmps129
  go_upto_region 1 with (fail)
  rw [← zero64]
  obtain ⟨W1, hwo⟩ : ∃ v : World, v = ((w.alloc (.cells (bcells 64 fun _ => 0) 23)).alloc (.cells #[.int .i64 0] 2)) := ⟨_, rfl⟩
  have B0 : Blk W1 (w.heap.size) 64 23 (fun _ => 0) := by subst hwo; exact ((Blk.new w 64 23 (fun _ => 0)).alloc _)
  have B1 : One W1 (w.heap.size + 1) 2 (.int .i64 0) := by subst hwo; have := One.new (w.alloc (.cells (bcells 64 fun _ => 0) 23)) 2 (.int .i64 0); simpa using this
  have hb : Below w.heap.size w W1 := by subst hwo; exact (((Below.refl _ _).alloc (Nat.le_refl _) _).alloc (by simp) _)
  rw [← hwo]
  clear hwo
  go_upto_region 2 with (fail)
  clear hmf
  have lt0 := B0.lt
  have lt1 := B1.lt
  go_wp2_with (first | (go_at_call 130; refine (HH.out _ hb).mono ?_; rintro e W2 ⟨rfl, hW2⟩; replace B0 := B0.below hW2 B0.lt; replace B1 := B1.below hW2 B1.lt; replace hb := hb.trans (hW2.mono hb.size)) | (refine wpList_store_blk rfl 23 (.tmp 2) (.tmp 6) rfl _ 64 (f) rfl rfl 23 _ B0 Try.size23 ?_; have C0 := B0.row f; have C1 := B1.rowOther (cs := bcells 64 f) (show w.heap.size + 1 ≠ w.heap.size by omega); have cc1 := C1.cell; have z1 := C1.frozen 0; try simp only [Act.put]; go_wp2_with fail))
  have D0 : Blk ((W2.setRow w.heap.size (bcells 64 f)).setCell ⟨w.heap.size + 1, 0, none⟩ (.int .i64 0)) (w.heap.size) 64 23 f := C0.setOther (by dsimp only; omega)
  have D1 : One ((W2.setRow w.heap.size (bcells 64 f)).setCell ⟨w.heap.size + 1, 0, none⟩ (.int .i64 0)) (w.heap.size + 1) 2 (.int .i64 0) := C1.setc
  have hb2 : Below w.heap.size w ((W2.setRow w.heap.size (bcells 64 f)).setCell ⟨w.heap.size + 1, 0, none⟩ (.int .i64 0)) := (below_row hb (by omega) _).setCell (by dsimp only; omega) _
  refine leaves_cons (f := 175) (args := #[.pointer (some ⟨w.heap.size + 1, 0, none⟩)]) (by simp) (by simp [go_sem]) ?_
  refine (door_idle (w.heap.size + 1) _).mono ?_
  rintro e u' w'' ⟨rfl, rfl, rfl⟩
  exact ⟨_, results_bc rfl _ _ _ 64 23 5 f _ 2 (.int .i64 0) rfl D0 Try.underlying23 Try.size23 rfl D1 .i64 Try.underlying2, rfl, hb2⟩
set_option maxRecDepth 100000 in
set_option maxHeartbeats 1600000 in
theorem door_BracketOfN (c1 c2 : Value) (f : Nat → Nat) (w : World) (H : ∀ W, Below w.heap.size w W → Calls Try.prog 130 #[c1, c2] W fun e w' => e = .panicked [{ v := .iface 138 (.int .i64 3), recovered := false }] ∧ Below W.heap.size W w') :
    Calls Try.prog 129 #[.func (.func 130) #[] #[c1, c2]] w fun e w' => e = .returned (.tuple #[.agg (bcells 64 fun _ => 0), .int .i64 3]) ∧ Below w.heap.size w w' := by
  have HH := Lib.hid H
  clear H
  have hmf : ∀ (fn : Fn) (first cap : Array Value) (w : World), (Instr.makeFunc fn first cap).run Try.prog w = .ok (.func fn first cap) w := fun _ _ _ _ => rfl
  go_enter_defers Try.func129, Try.ntmps129
  go_upto_region 1 with (fail)
  rw [← zero64]
  obtain ⟨W1, hwo⟩ : ∃ v : World, v = ((w.alloc (.cells (bcells 64 fun _ => 0) 23)).alloc (.cells #[.int .i64 0] 2)) := ⟨_, rfl⟩
  have B0 : Blk W1 (w.heap.size) 64 23 (fun _ => 0) := by subst hwo; exact ((Blk.new w 64 23 (fun _ => 0)).alloc _)
  have B1 : One W1 (w.heap.size + 1) 2 (.int .i64 0) := by subst hwo; have := One.new (w.alloc (.cells (bcells 64 fun _ => 0) 23)) 2 (.int .i64 0); simpa using this
  have hb : Below w.heap.size w W1 := by subst hwo; exact (((Below.refl _ _).alloc (Nat.le_refl _) _).alloc (by simp) _)
  rw [← hwo]
  clear hwo
  go_upto_region 2 with (fail)
  clear hmf
  have lt0 := B0.lt
  have lt1 := B1.lt
  go_wp2_with (first | (go_at_call 130; refine (HH.out _ hb).mono ?_; rintro e W2 ⟨rfl, hW2⟩; replace B0 := B0.below hW2 B0.lt; replace B1 := B1.below hW2 B1.lt; replace hb := hb.trans (hW2.mono hb.size)))
  have D0 : Blk (W2.setCell ⟨w.heap.size + 1, 0, none⟩ (.int .i64 3)) (w.heap.size) 64 23 (fun _ => 0) := B0.setOther (by dsimp only; omega)
  have D1 : One (W2.setCell ⟨w.heap.size + 1, 0, none⟩ (.int .i64 3)) (w.heap.size + 1) 2 (.int .i64 3) := B1.setc
  have hb2 : Below w.heap.size w (W2.setCell ⟨w.heap.size + 1, 0, none⟩ (.int .i64 3)) := hb.setCell (by dsimp only; omega) _
  refine leaves_cons (f := 175) (args := #[.pointer (some ⟨w.heap.size + 1, 0, none⟩)]) (by simp) (by simp [go_sem]) ?_
  refine (door_caught (w.heap.size + 1) 0 _ B1).mono ?_
  rintro e u' w'' ⟨rfl, rfl, rfl⟩
  exact ⟨_, results_bc rfl _ _ _ 64 23 5 (fun _ => 0) _ 2 (.int .i64 3) rfl D0 Try.underlying23 Try.size23 rfl D1 .i64 Try.underlying2, rfl, hb2⟩
set_option maxRecDepth 100000 in
set_option maxHeartbeats 1600000 in
theorem door_FirstFactorial (c1 c2 : Value) (f : Nat → Nat) (w : World) (H : ∀ W, Below w.heap.size w W → Calls Try.prog 133 #[c1, c2] W fun e w' => e = .returned (.agg (bcells 64 f)) ∧ Below W.heap.size W w') :
    Calls Try.prog 129 #[.func (.func 133) #[] #[c1, c2]] w fun e w' => e = .returned (.tuple #[.agg (bcells 64 f), .int .i64 0]) ∧ Below w.heap.size w w' := by
  have HH := Lib.hid H
  clear H
  have hmf : ∀ (fn : Fn) (first cap : Array Value) (w : World), (Instr.makeFunc fn first cap).run Try.prog w = .ok (.func fn first cap) w := fun _ _ _ _ => rfl
  go_enter_defers Try.func129, Try.ntmps129
  go_upto_region 1 with (fail)
  rw [← zero64]
  obtain ⟨W1, hwo⟩ : ∃ v : World, v = ((w.alloc (.cells (bcells 64 fun _ => 0) 23)).alloc (.cells #[.int .i64 0] 2)) := ⟨_, rfl⟩
  have B0 : Blk W1 (w.heap.size) 64 23 (fun _ => 0) := by subst hwo; exact ((Blk.new w 64 23 (fun _ => 0)).alloc _)
  have B1 : One W1 (w.heap.size + 1) 2 (.int .i64 0) := by subst hwo; have := One.new (w.alloc (.cells (bcells 64 fun _ => 0) 23)) 2 (.int .i64 0); simpa using this
  have hb : Below w.heap.size w W1 := by subst hwo; exact (((Below.refl _ _).alloc (Nat.le_refl _) _).alloc (by simp) _)
  rw [← hwo]
  clear hwo
  go_upto_region 2 with (fail)
  clear hmf
  have lt0 := B0.lt
  have lt1 := B1.lt
  go_wp2_with (first | (go_at_call 133; refine (HH.out _ hb).mono ?_; rintro e W2 ⟨rfl, hW2⟩; replace B0 := B0.below hW2 B0.lt; replace B1 := B1.below hW2 B1.lt; replace hb := hb.trans (hW2.mono hb.size)) | (refine wpList_store_blk rfl 23 (.tmp 2) (.tmp 6) rfl _ 64 (f) rfl rfl 23 _ B0 Try.size23 ?_; have C0 := B0.row f; have C1 := B1.rowOther (cs := bcells 64 f) (show w.heap.size + 1 ≠ w.heap.size by omega); have cc1 := C1.cell; have z1 := C1.frozen 0; try simp only [Act.put]; go_wp2_with fail))
  have D0 : Blk ((W2.setRow w.heap.size (bcells 64 f)).setCell ⟨w.heap.size + 1, 0, none⟩ (.int .i64 0)) (w.heap.size) 64 23 f := C0.setOther (by dsimp only; omega)
  have D1 : One ((W2.setRow w.heap.size (bcells 64 f)).setCell ⟨w.heap.size + 1, 0, none⟩ (.int .i64 0)) (w.heap.size + 1) 2 (.int .i64 0) := C1.setc
  have hb2 : Below w.heap.size w ((W2.setRow w.heap.size (bcells 64 f)).setCell ⟨w.heap.size + 1, 0, none⟩ (.int .i64 0)) := (below_row hb (by omega) _).setCell (by dsimp only; omega) _
  refine leaves_cons (f := 175) (args := #[.pointer (some ⟨w.heap.size + 1, 0, none⟩)]) (by simp) (by simp [go_sem]) ?_
  refine (door_idle (w.heap.size + 1) _).mono ?_
  rintro e u' w'' ⟨rfl, rfl, rfl⟩
  exact ⟨_, results_bc rfl _ _ _ 64 23 5 f _ 2 (.int .i64 0) rfl D0 Try.underlying23 Try.size23 rfl D1 .i64 Try.underlying2, rfl, hb2⟩
set_option maxRecDepth 100000 in
set_option maxHeartbeats 1600000 in
theorem door_FirstFactorialN (c1 c2 : Value) (f : Nat → Nat) (w : World) (H : ∀ W, Below w.heap.size w W → Calls Try.prog 133 #[c1, c2] W fun e w' => e = .panicked [{ v := .iface 138 (.int .i64 3), recovered := false }] ∧ Below W.heap.size W w') :
    Calls Try.prog 129 #[.func (.func 133) #[] #[c1, c2]] w fun e w' => e = .returned (.tuple #[.agg (bcells 64 fun _ => 0), .int .i64 3]) ∧ Below w.heap.size w w' := by
  have HH := Lib.hid H
  clear H
  have hmf : ∀ (fn : Fn) (first cap : Array Value) (w : World), (Instr.makeFunc fn first cap).run Try.prog w = .ok (.func fn first cap) w := fun _ _ _ _ => rfl
  go_enter_defers Try.func129, Try.ntmps129
  go_upto_region 1 with (fail)
  rw [← zero64]
  obtain ⟨W1, hwo⟩ : ∃ v : World, v = ((w.alloc (.cells (bcells 64 fun _ => 0) 23)).alloc (.cells #[.int .i64 0] 2)) := ⟨_, rfl⟩
  have B0 : Blk W1 (w.heap.size) 64 23 (fun _ => 0) := by subst hwo; exact ((Blk.new w 64 23 (fun _ => 0)).alloc _)
  have B1 : One W1 (w.heap.size + 1) 2 (.int .i64 0) := by subst hwo; have := One.new (w.alloc (.cells (bcells 64 fun _ => 0) 23)) 2 (.int .i64 0); simpa using this
  have hb : Below w.heap.size w W1 := by subst hwo; exact (((Below.refl _ _).alloc (Nat.le_refl _) _).alloc (by simp) _)
  rw [← hwo]
  clear hwo
  go_upto_region 2 with (fail)
  clear hmf
  have lt0 := B0.lt
  have lt1 := B1.lt
  go_wp2_with (first | (go_at_call 133; refine (HH.out _ hb).mono ?_; rintro e W2 ⟨rfl, hW2⟩; replace B0 := B0.below hW2 B0.lt; replace B1 := B1.below hW2 B1.lt; replace hb := hb.trans (hW2.mono hb.size)))
  have D0 : Blk (W2.setCell ⟨w.heap.size + 1, 0, none⟩ (.int .i64 3)) (w.heap.size) 64 23 (fun _ => 0) := B0.setOther (by dsimp only; omega)
  have D1 : One (W2.setCell ⟨w.heap.size + 1, 0, none⟩ (.int .i64 3)) (w.heap.size + 1) 2 (.int .i64 3) := B1.setc
  have hb2 : Below w.heap.size w (W2.setCell ⟨w.heap.size + 1, 0, none⟩ (.int .i64 3)) := hb.setCell (by dsimp only; omega) _
  refine leaves_cons (f := 175) (args := #[.pointer (some ⟨w.heap.size + 1, 0, none⟩)]) (by simp) (by simp [go_sem]) ?_
  refine (door_caught (w.heap.size + 1) 0 _ B1).mono ?_
  rintro e u' w'' ⟨rfl, rfl, rfl⟩
  exact ⟨_, results_bc rfl _ _ _ 64 23 5 (fun _ => 0) _ 2 (.int .i64 3) rfl D0 Try.underlying23 Try.size23 rfl D1 .i64 Try.underlying2, rfl, hb2⟩
set_option maxRecDepth 100000 in
set_option maxHeartbeats 1600000 in
theorem door_SecondFactorial (c1 c2 : Value) (f : Nat → Nat) (w : World) (H : ∀ W, Below w.heap.size w W → Calls Try.prog 135 #[c1, c2] W fun e w' => e = .returned (.agg (bcells 64 f)) ∧ Below W.heap.size W w') :
    Calls Try.prog 129 #[.func (.func 135) #[] #[c1, c2]] w fun e w' => e = .returned (.tuple #[.agg (bcells 64 f), .int .i64 0]) ∧ Below w.heap.size w w' := by
  have HH := Lib.hid H
  clear H
  have hmf : ∀ (fn : Fn) (first cap : Array Value) (w : World), (Instr.makeFunc fn first cap).run Try.prog w = .ok (.func fn first cap) w := fun _ _ _ _ => rfl
  go_enter_defers Try.func129, Try.ntmps129
  go_upto_region 1 with (fail)
  rw [← zero64]
  obtain ⟨W1, hwo⟩ : ∃ v : World, v = ((w.alloc (.cells (bcells 64 fun _ => 0) 23)).alloc (.cells #[.int .i64 0] 2)) := ⟨_, rfl⟩
  have B0 : Blk W1 (w.heap.size) 64 23 (fun _ => 0) := by subst hwo; exact ((Blk.new w 64 23 (fun _ => 0)).alloc _)
  have B1 : One W1 (w.heap.size + 1) 2 (.int .i64 0) := by subst hwo; have := One.new (w.alloc (.cells (bcells 64 fun _ => 0) 23)) 2 (.int .i64 0); simpa using this
  have hb : Below w.heap.size w W1 := by subst hwo; exact (((Below.refl _ _).alloc (Nat.le_refl _) _).alloc (by simp) _)
  rw [← hwo]
  clear hwo
  go_upto_region 2 with (fail)
  clear hmf
  have lt0 := B0.lt
  have lt1 := B1.lt
  go_wp2_with (first | (go_at_call 135; refine (HH.out _ hb).mono ?_; rintro e W2 ⟨rfl, hW2⟩; replace B0 := B0.below hW2 B0.lt; replace B1 := B1.below hW2 B1.lt; replace hb := hb.trans (hW2.mono hb.size)) | (refine wpList_store_blk rfl 23 (.tmp 2) (.tmp 6) rfl _ 64 (f) rfl rfl 23 _ B0 Try.size23 ?_; have C0 := B0.row f; have C1 := B1.rowOther (cs := bcells 64 f) (show w.heap.size + 1 ≠ w.heap.size by omega); have cc1 := C1.cell; have z1 := C1.frozen 0; try simp only [Act.put]; go_wp2_with fail))
  have D0 : Blk ((W2.setRow w.heap.size (bcells 64 f)).setCell ⟨w.heap.size + 1, 0, none⟩ (.int .i64 0)) (w.heap.size) 64 23 f := C0.setOther (by dsimp only; omega)
  have D1 : One ((W2.setRow w.heap.size (bcells 64 f)).setCell ⟨w.heap.size + 1, 0, none⟩ (.int .i64 0)) (w.heap.size + 1) 2 (.int .i64 0) := C1.setc
  have hb2 : Below w.heap.size w ((W2.setRow w.heap.size (bcells 64 f)).setCell ⟨w.heap.size + 1, 0, none⟩ (.int .i64 0)) := (below_row hb (by omega) _).setCell (by dsimp only; omega) _
  refine leaves_cons (f := 175) (args := #[.pointer (some ⟨w.heap.size + 1, 0, none⟩)]) (by simp) (by simp [go_sem]) ?_
  refine (door_idle (w.heap.size + 1) _).mono ?_
  rintro e u' w'' ⟨rfl, rfl, rfl⟩
  exact ⟨_, results_bc rfl _ _ _ 64 23 5 f _ 2 (.int .i64 0) rfl D0 Try.underlying23 Try.size23 rfl D1 .i64 Try.underlying2, rfl, hb2⟩
set_option maxRecDepth 100000 in
set_option maxHeartbeats 1600000 in
theorem door_SecondFactorialN (c1 c2 : Value) (f : Nat → Nat) (w : World) (H : ∀ W, Below w.heap.size w W → Calls Try.prog 135 #[c1, c2] W fun e w' => e = .panicked [{ v := .iface 138 (.int .i64 3), recovered := false }] ∧ Below W.heap.size W w') :
    Calls Try.prog 129 #[.func (.func 135) #[] #[c1, c2]] w fun e w' => e = .returned (.tuple #[.agg (bcells 64 fun _ => 0), .int .i64 3]) ∧ Below w.heap.size w w' := by
  have HH := Lib.hid H
  clear H
  have hmf : ∀ (fn : Fn) (first cap : Array Value) (w : World), (Instr.makeFunc fn first cap).run Try.prog w = .ok (.func fn first cap) w := fun _ _ _ _ => rfl
  go_enter_defers Try.func129, Try.ntmps129
  go_upto_region 1 with (fail)
  rw [← zero64]
  obtain ⟨W1, hwo⟩ : ∃ v : World, v = ((w.alloc (.cells (bcells 64 fun _ => 0) 23)).alloc (.cells #[.int .i64 0] 2)) := ⟨_, rfl⟩
  have B0 : Blk W1 (w.heap.size) 64 23 (fun _ => 0) := by subst hwo; exact ((Blk.new w 64 23 (fun _ => 0)).alloc _)
  have B1 : One W1 (w.heap.size + 1) 2 (.int .i64 0) := by subst hwo; have := One.new (w.alloc (.cells (bcells 64 fun _ => 0) 23)) 2 (.int .i64 0); simpa using this
  have hb : Below w.heap.size w W1 := by subst hwo; exact (((Below.refl _ _).alloc (Nat.le_refl _) _).alloc (by simp) _)
  rw [← hwo]
  clear hwo
  go_upto_region 2 with (fail)
  clear hmf
  have lt0 := B0.lt
  have lt1 := B1.lt
  go_wp2_with (first | (go_at_call 135; refine (HH.out _ hb).mono ?_; rintro e W2 ⟨rfl, hW2⟩; replace B0 := B0.below hW2 B0.lt; replace B1 := B1.below hW2 B1.lt; replace hb := hb.trans (hW2.mono hb.size)))
  have D0 : Blk (W2.setCell ⟨w.heap.size + 1, 0, none⟩ (.int .i64 3)) (w.heap.size) 64 23 (fun _ => 0) := B0.setOther (by dsimp only; omega)
  have D1 : One (W2.setCell ⟨w.heap.size + 1, 0, none⟩ (.int .i64 3)) (w.heap.size + 1) 2 (.int .i64 3) := B1.setc
  have hb2 : Below w.heap.size w (W2.setCell ⟨w.heap.size + 1, 0, none⟩ (.int .i64 3)) := hb.setCell (by dsimp only; omega) _
  refine leaves_cons (f := 175) (args := #[.pointer (some ⟨w.heap.size + 1, 0, none⟩)]) (by simp) (by simp [go_sem]) ?_
  refine (door_caught (w.heap.size + 1) 0 _ B1).mono ?_
  rintro e u' w'' ⟨rfl, rfl, rfl⟩
  exact ⟨_, results_bc rfl _ _ _ 64 23 5 (fun _ => 0) _ 2 (.int .i64 3) rfl D0 Try.underlying23 Try.size23 rfl D1 .i64 Try.underlying2, rfl, hb2⟩
set_option maxRecDepth 100000 in
set_option maxHeartbeats 1600000 in
theorem door_CarlitzFactorial (c1 c2 : Value) (f : Nat → Nat) (w : World) (H : ∀ W, Below w.heap.size w W → Calls Try.prog 145 #[c1, c2] W fun e w' => e = .returned (.agg (bcells 64 f)) ∧ Below W.heap.size W w') :
    Calls Try.prog 129 #[.func (.func 145) #[] #[c1, c2]] w fun e w' => e = .returned (.tuple #[.agg (bcells 64 f), .int .i64 0]) ∧ Below w.heap.size w w' := by
  have HH := Lib.hid H
  clear H
  have hmf : ∀ (fn : Fn) (first cap : Array Value) (w : World), (Instr.makeFunc fn first cap).run Try.prog w = .ok (.func fn first cap) w := fun _ _ _ _ => rfl
  go_enter_defers Try.func129, Try.ntmps129
  go_upto_region 1 with (fail)
  rw [← zero64]
  obtain ⟨W1, hwo⟩ : ∃ v : World, v = ((w.alloc (.cells (bcells 64 fun _ => 0) 23)).alloc (.cells #[.int .i64 0] 2)) := ⟨_, rfl⟩
  have B0 : Blk W1 (w.heap.size) 64 23 (fun _ => 0) := by subst hwo; exact ((Blk.new w 64 23 (fun _ => 0)).alloc _)
  have B1 : One W1 (w.heap.size + 1) 2 (.int .i64 0) := by subst hwo; have := One.new (w.alloc (.cells (bcells 64 fun _ => 0) 23)) 2 (.int .i64 0); simpa using this
  have hb : Below w.heap.size w W1 := by subst hwo; exact (((Below.refl _ _).alloc (Nat.le_refl _) _).alloc (by simp) _)
  rw [← hwo]
  clear hwo
  go_upto_region 2 with (fail)
  clear hmf
  have lt0 := B0.lt
  have lt1 := B1.lt
  go_wp2_with (first | (go_at_call 145; refine (HH.out _ hb).mono ?_; rintro e W2 ⟨rfl, hW2⟩; replace B0 := B0.below hW2 B0.lt; replace B1 := B1.below hW2 B1.lt; replace hb := hb.trans (hW2.mono hb.size)) | (refine wpList_store_blk rfl 23 (.tmp 2) (.tmp 6) rfl _ 64 (f) rfl rfl 23 _ B0 Try.size23 ?_; have C0 := B0.row f; have C1 := B1.rowOther (cs := bcells 64 f) (show w.heap.size + 1 ≠ w.heap.size by omega); have cc1 := C1.cell; have z1 := C1.frozen 0; try simp only [Act.put]; go_wp2_with fail))
  have D0 : Blk ((W2.setRow w.heap.size (bcells 64 f)).setCell ⟨w.heap.size + 1, 0, none⟩ (.int .i64 0)) (w.heap.size) 64 23 f := C0.setOther (by dsimp only; omega)
  have D1 : One ((W2.setRow w.heap.size (bcells 64 f)).setCell ⟨w.heap.size + 1, 0, none⟩ (.int .i64 0)) (w.heap.size + 1) 2 (.int .i64 0) := C1.setc
  have hb2 : Below w.heap.size w ((W2.setRow w.heap.size (bcells 64 f)).setCell ⟨w.heap.size + 1, 0, none⟩ (.int .i64 0)) := (below_row hb (by omega) _).setCell (by dsimp only; omega) _
  refine leaves_cons (f := 175) (args := #[.pointer (some ⟨w.heap.size + 1, 0, none⟩)]) (by simp) (by simp [go_sem]) ?_
  refine (door_idle (w.heap.size + 1) _).mono ?_
  rintro e u' w'' ⟨rfl, rfl, rfl⟩
  exact ⟨_, results_bc rfl _ _ _ 64 23 5 f _ 2 (.int .i64 0) rfl D0 Try.underlying23 Try.size23 rfl D1 .i64 Try.underlying2, rfl, hb2⟩
set_option maxRecDepth 100000 in
set_option maxHeartbeats 1600000 in
theorem door_CarlitzFactorialN (c1 c2 : Value) (f : Nat → Nat) (w : World) (H : ∀ W, Below w.heap.size w W → Calls Try.prog 145 #[c1, c2] W fun e w' => e = .panicked [{ v := .iface 138 (.int .i64 3), recovered := false }] ∧ Below W.heap.size W w') :
    Calls Try.prog 129 #[.func (.func 145) #[] #[c1, c2]] w fun e w' => e = .returned (.tuple #[.agg (bcells 64 fun _ => 0), .int .i64 3]) ∧ Below w.heap.size w w' := by
  have HH := Lib.hid H
  clear H
  have hmf : ∀ (fn : Fn) (first cap : Array Value) (w : World), (Instr.makeFunc fn first cap).run Try.prog w = .ok (.func fn first cap) w := fun _ _ _ _ => rfl
  go_enter_defers Try.func129, Try.ntmps129
  go_upto_region 1 with (fail)
  rw [← zero64]
  obtain ⟨W1, hwo⟩ : ∃ v : World, v = ((w.alloc (.cells (bcells 64 fun _ => 0) 23)).alloc (.cells #[.int .i64 0] 2)) := ⟨_, rfl⟩
  have B0 : Blk W1 (w.heap.size) 64 23 (fun _ => 0) := by subst hwo; exact ((Blk.new w 64 23 (fun _ => 0)).alloc _)
  have B1 : One W1 (w.heap.size + 1) 2 (.int .i64 0) := by subst hwo; have := One.new (w.alloc (.cells (bcells 64 fun _ => 0) 23)) 2 (.int .i64 0); simpa using this
  have hb : Below w.heap.size w W1 := by subst hwo; exact (((Below.refl _ _).alloc (Nat.le_refl _) _).alloc (by simp) _)
  rw [← hwo]
  clear hwo
  go_upto_region 2 with (fail)
  clear hmf
  have lt0 := B0.lt
  have lt1 := B1.lt
  go_wp2_with (first | (go_at_call 145; refine (HH.out _ hb).mono ?_; rintro e W2 ⟨rfl, hW2⟩; replace B0 := B0.below hW2 B0.lt; replace B1 := B1.below hW2 B1.lt; replace hb := hb.trans (hW2.mono hb.size)))
  have D0 : Blk (W2.setCell ⟨w.heap.size + 1, 0, none⟩ (.int .i64 3)) (w.heap.size) 64 23 (fun _ => 0) := B0.setOther (by dsimp only; omega)
  have D1 : One (W2.setCell ⟨w.heap.size + 1, 0, none⟩ (.int .i64 3)) (w.heap.size + 1) 2 (.int .i64 3) := B1.setc
  have hb2 : Below w.heap.size w (W2.setCell ⟨w.heap.size + 1, 0, none⟩ (.int .i64 3)) := hb.setCell (by dsimp only; omega) _
  refine leaves_cons (f := 175) (args := #[.pointer (some ⟨w.heap.size + 1, 0, none⟩)]) (by simp) (by simp [go_sem]) ?_
  refine (door_caught (w.heap.size + 1) 0 _ B1).mono ?_
  rintro e u' w'' ⟨rfl, rfl, rfl⟩
  exact ⟨_, results_bc rfl _ _ _ 64 23 5 (fun _ => 0) _ 2 (.int .i64 3) rfl D0 Try.underlying23 Try.size23 rfl D1 .i64 Try.underlying2, rfl, hb2⟩
end Go.Proofs.Ytbjpkmbhbpcbgaa
end
