/-
  Walks: products.
-/
import Derived.Test.YtbjpkmbhbpcbgaaW9
import Derived.Test.YtbjpkmbhbpcbgaaCv
namespace Go.Proofs.Ytbjpkmbhbpcbgaa
open Go.RowKit
set_option linter.unusedVariables false
attribute [local irreducible] deg
theorem Try.size118 : (Try.prog.info? 118).map (·.size) = some 128 := by kernel_rfl
theorem zero128 : bcells 128 (fun _ => 0) = Try.zeroCells118 := by simp only [bcells, bl]; kernel_rfl
set_option maxRecDepth 100000 in
set_option maxHeartbeats 3200000 in
theorem wideProduct_any (p : Nat) (f g : Nat → Nat) (w : World) (hp1 : 2 ≤ p) (hp2 : p ≤ 7) (hf : ∀ i, i < 64 → f i < p) (hg : ∀ i, i < 64 → g i < p) :
    Calls Try.prog 151 #[.int .i64 (p : Int), .agg (bcells 64 f), .agg (bcells 64 g)] w fun e w' => e = .returned (.agg (bcells 128 (prd p f g))) ∧ Below w.heap.size w w' := by
  obtain ⟨n, hn, hdn, hfz⟩ : ∃ n : Nat, n ≤ 64 ∧ deg f + 1 = (n : Int) ∧ ∀ i, n ≤ i → i < 64 → f i = 0 := by
    rcases deg_spec f with ⟨e, hz⟩ | ⟨d, hd, e, hne, hz⟩
    · exact ⟨0, by omega, by rw [e]; rfl, fun i _ h => hz i h⟩
    · exact ⟨d + 1, by omega, by rw [e]; push_cast; rfl, fun i h1 h2 => hz i (by omega) h2⟩
  obtain ⟨m, hm, hdm, hgz⟩ : ∃ m : Nat, m ≤ 64 ∧ deg g + 1 = (m : Int) ∧ ∀ i, m ≤ i → i < 64 → g i = 0 := by
    rcases deg_spec g with ⟨e, hz⟩ | ⟨d, hd, e, hne, hz⟩
    · exact ⟨0, by omega, by rw [e]; rfl, fun i _ h => hz i h⟩
    · exact ⟨d + 1, by omega, by rw [e]; push_cast; rfl, fun i h1 h2 => hz i (by omega) h2⟩
  have hdgb1 : 0 ≤ deg g + 1 := by omega
  have hdgb2 : deg g + 1 ≤ 64 := by omega
  have hdfb1 : 0 ≤ deg f + 1 := by omega
  have hdfb2 : deg f + 1 ≤ 64 := by omega
  have HF := Lib.hid hf; clear hf
  have HG := Lib.hid hg; clear hg
  have HFZ := Lib.hid hfz; clear hfz
  have HGZ := Lib.hid hgz; clear hgz
  go_enter Try.func151, Try.ntmps151
  have HN := Lib.hid hdn; have HM := Lib.hid hdm; clear hdn hdm
  go_upto_region 2 with (fail)
  rw [← zero128]
  obtain ⟨wo, hwo⟩ : ∃ wo : World, wo = (((w.alloc (.cells (bcells 64 f) 23)).alloc (.cells (bcells 64 g) 23)).alloc (.cells (bcells 128 fun _ => 0) 118)).alloc (.cells (bcells 128 fun _ => 0) 118) := ⟨_, rfl⟩
  have b0 : Blk wo w.heap.size 64 23 f := by subst hwo; exact (((Blk.new w _ _ _).alloc _).alloc _).alloc _
  have b1 : Blk wo (w.heap.size + 1) 64 23 g := by subst hwo; have := ((Blk.new (w.alloc (.cells (bcells 64 f) 23)) 64 23 g).alloc (.cells (bcells 128 fun _ => 0) 118)).alloc (.cells (bcells 128 fun _ => 0) 118); simpa using this
  have b2 : Blk wo (w.heap.size + 1 + 1) 128 118 (fun _ => 0) := by subst hwo; have := (Blk.new ((w.alloc (.cells (bcells 64 f) 23)).alloc (.cells (bcells 64 g) 23)) 128 118 (fun _ => 0)).alloc (.cells (bcells 128 fun _ => 0) 118); simpa using this
  have b3 : Blk wo (w.heap.size + 1 + 1 + 1) 128 118 (fun _ => 0) := by subst hwo; have := (Blk.new (((w.alloc (.cells (bcells 64 f) 23)).alloc (.cells (bcells 64 g) 23)).alloc (.cells (bcells 128 fun _ => 0) 118)) 128 118 (fun _ => 0)); simpa using this
  have hb : Below w.heap.size w wo := by subst hwo; exact ((((Below.refl _ _).alloc (Nat.le_refl _) _).alloc (by simp) _).alloc (by simp; omega) _).alloc (by simp; omega) _
  rw [← hwo]
  clear hwo
  have ha : Below wo.heap.size wo wo := Below.refl _ _
  go_wp2_with (first | refine wpList_load_blk rfl 23 _ rfl _ rfl 64 23 _ (b1.below (by assumption) b1.lt) 5 Try.underlying23 Try.size23 ?_ | refine wpList_load_blk rfl 23 _ rfl _ rfl 64 23 _ (b0.below (by assumption) b0.lt) 5 Try.underlying23 Try.size23 ?_ | (go_at_call 78; refine (acc (degree_any _ _) (by assumption)).mono ?_; rintro e w1 ⟨rfl, h1, ha⟩))
  have hgm : deg g = (m : Int) - 1 := by have := HM.out; omega
  rw [HN.out, hgm]
  clear hgm hdgb1 hdgb2 hdfb1 hdfb2
  replace hb := hb.trans (ha.mono hb.size)
  replace b0 := b0.below ha b0.lt
  replace b1 := b1.below ha b1.lt
  replace b2 := b2.below ha b2.lt
  replace b3 := b3.below ha b3.lt
  clear ha h1
  go_loopw [16] (fun c wr => ∃ i : Nat, i ≤ n ∧ c = .int .i64 (i : Int) ∧ Below w.heap.size w wr ∧ Blk wr w.heap.size 64 23 f ∧ Blk wr (w.heap.size + 1) 64 23 g ∧ Blk wr (w.heap.size + 1 + 1) 128 118 (fun _ => 0) ∧ Blk wr (w.heap.size + 1 + 1 + 1) 128 118 (cv p (cut f) (cut g) i)) (fun c _ => n - (intOf c).toNat)
  case atStart => exact ⟨0, by omega, rfl, hb, b0, b1, b2, b3.congr (fun k _ => by rw [cv_zero])⟩
  case round =>
    clear hb b0 b1 b2 b3
    obtain ⟨i, hi, rfl, hb, b0, b1, b2, b3⟩ := hrel
    by_cases hlt : i < n
    · go_wp2_with fail
      obtain ⟨wi, rfl⟩ : ∃ v : World, v = wr := ⟨_, rfl⟩
      have b3' := b3.congr (fun k _ => (cvr_zero p (cut f) (cut g) i k).symm)
      clear b3
      go_loopw [21] (fun c wr => ∃ j : Nat, j ≤ m ∧ c = .int .i64 (j : Int) ∧ Below w.heap.size w wr ∧ Blk wr w.heap.size 64 23 f ∧ Blk wr (w.heap.size + 1) 64 23 g ∧ Blk wr (w.heap.size + 1 + 1) 128 118 (fun _ => 0) ∧ Blk wr (w.heap.size + 1 + 1 + 1) 128 118 (cvr p (cut f) (cut g) i j)) (fun c _ => m - (intOf c).toNat)
      case atStart => exact ⟨0, by omega, rfl, hb, b0, b1, b2, b3'⟩
      case round =>
        clear hb b0 b1 b2 b3'
        obtain ⟨j, hj, rfl, hb, b0, b1, b2, b3⟩ := hrel
        by_cases hltj : j < m
        · have c0 := b0.cell (i := i) (by omega)
          have c1 := b1.cell (i := j) (by omega)
          have c3 : wr.cell? ⟨w.heap.size + 1 + 1 + 1, i + j, none⟩ = some (.int .u8 (cv p (cut f) (cut g) i (i + j) : Int)) := by rw [b3.cell (by omega), cvr_at]
          have z3 := b3.frozen (i + j)
          have hij : ((i : Int) + (j : Int)).toNat = i + j := by omega
          have v1 : f i < p := HF.out i (by omega)
          have v2 : g j < p := HG.out j (by omega)
          have v3 := cv_lt p (cut f) (cut g) (by omega) i (i + j)
          obtain ⟨m1, m2⟩ := small_nat_mul hp2 v1 v2
          have HE := Lib.hid (show (cv p (cut f) (cut g) (i + 1) (i + j) : Int) = ((cv p (cut f) (cut g) i (i + j) : Int) + (f i : Int) * (g j : Int)) % (p : Int) by rw [cv_hit, cut_in f (by omega), cut_in g (by omega)]; push_cast; rfl)
          go_wp2_with fail
          go_region
          go_wp2_with fail
          go_roundw
          case rel =>
            refine ⟨j + 1, by omega, by go_num, (hb.setCell (by simp; omega) _).drew, (b0.setOther (by simp <;> omega)).drew, (b1.setOther (by simp <;> omega)).drew, (b2.setOther (by simp <;> omega)).drew, ?_⟩
            exact ((b3.set (v := cv p (cut f) (cut g) (i + 1) (i + j)) HE.out.symm).congr (fun k _ => cvr_next p (cut f) (cut g) i j k)).drew
          case measure => simp [intOf] <;> omega
        · have e : j = m := by omega
          subst e
          go_wp2_with fail
          go_roundw
          case rel =>
            refine ⟨i + 1, by omega, by go_num, hb, b0, b1, b2, b3.congr (fun k _ => cvr_full (by omega) (fun q hq => ?_) k)⟩
            by_cases h64 : q < 64
            · rw [cut_in g h64]; exact HGZ.out q hq h64
            · exact cut_zero g (by omega)
          case measure => simp [intOf] <;> omega
    · have e : i = n := by omega
      subst e
      go_wp2_with (first | refine wpList_load_blk rfl 118 _ rfl _ rfl 128 118 _ (b3) 5 Try.underlying118 Try.size118 ?_ | refine wpList_store_blk rfl 118 _ _ rfl _ 128 (_) rfl rfl 118 _ (b2) Try.size118 ?_)
      refine bodyPost_ret (results_blk rfl _ _ _ 128 118 5 _ rfl (b2.row _) Try.underlying118 Try.size118) rfl ⟨?_, below_setRow hb (by omega) _⟩
      rw [bcells_congr (fun k _ => prd_rows (by omega) hn HFZ.out k)]
end Go.Proofs.Ytbjpkmbhbpcbgaa
