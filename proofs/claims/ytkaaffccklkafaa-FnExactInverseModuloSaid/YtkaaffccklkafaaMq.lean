/-
  Plain mathematics: inverses of residues.
-/
import Derived.Test.YtkaaffccklkafaaIq
set_option linter.unusedVariables false
namespace Go.Proofs.Ytkaaffccklkafaa
attribute [local irreducible] deg invN quoP resP
theorem bzRun_udeg {p : Nat} {d : Int} (hp : p = 2 ∨ p = 3 ∨ p = 5 ∨ p = 7) (hd : 0 ≤ d) : ∀ (n : Nat) (a b u x v y : Nat → Nat), bzI p a b u x v y → deg b + 1 ≤ (n : Int) → deg b < deg a → deg u + deg a ≤ d - 1 → deg x + deg a ≤ d → deg (bzRun p n a b u x v y).2.1 ≤ d - 1
  | n, a, b, u, x, v, y, hI, hn, hlt, h1, h2 => by
    have hp0 : 0 < p := by omega
    obtain ⟨a1, a2⟩ := deg_bounds a
    obtain ⟨b1, b2⟩ := deg_bounds b
    by_cases hz : deg b < 0
    · rw [bzRun_stop hz]
      show deg u ≤ d - 1
      omega
    · cases n with
      | zero => omega
      | succ n =>
        obtain ⟨hI', hdr, hdx, hdy⟩ := bzI_next hp hI hz
        rw [bzRun_go hz]
        obtain ⟨x1, x2⟩ := deg_bounds x
        obtain ⟨u1, u2⟩ := deg_bounds u
        refine bzRun_udeg hp hd n b (resP p a b) x _ y _ hI' (by push_cast at hn; omega) hdr (by omega) ?_
        have hle : deg (subP p u (prd p (quoP p a b) x)) ≤ d - deg b := by
          refine deg_le (by omega) (fun k hk hk2 => subP_zero (zero_above (f := u) (by omega) hk2) ?_)
          rcases quoP_deg hp0 hI.1 (by omega) (b := b) with hq | hq
          · exact prd_zero_left hp0 (deg_neg (by omega)) k
          · exact prd_above hp0 (by omega)
        omega
theorem bzU_deg {p d : Nat} {f m : Nat → Nat} (hp : p = 2 ∨ p = 3 ∨ p = 5 ∨ p = 7) (hf : ∀ k, k < 64 → f k < p) (hm : ∀ k, k < 64 → m k < p) (hmon : mon m d) : deg (bzU p f m) ≤ (d : Int) - 1 := by
  have hp0 : 0 < p := by omega
  have hI := bzI_start (p := p) (a := f) (b := m) (by omega) hf hm (.inr (by rw [hmon.1]; omega))
  have hz : ¬ deg m < 0 := by rw [hmon.1]; omega
  obtain ⟨hI', hdr, _, _⟩ := bzI_next hp hI hz
  have h0 : deg (fun _ => 0) < 0 := deg_neg_iff.2 (fun _ _ => rfl)
  obtain ⟨z1, _⟩ := deg_bounds (fun _ => 0)
  obtain ⟨m1, m2⟩ := deg_bounds m
  have key := bzRun_udeg (d := (d : Int)) hp (by omega) 64 m (resP p f m) (fun _ => 0) (subP p oneP (prd p (quoP p f m) (fun _ => 0))) oneP (subP p (fun _ => 0) (prd p (quoP p f m) oneP)) hI' (by omega) hdr (by rw [hmon.1]; omega) (by
    have : deg (subP p oneP (prd p (quoP p f m) (fun _ => 0))) ≤ 0 := deg_le (by omega) (fun k hk hk2 => subP_zero (by unfold oneP; rw [if_neg (by omega)]) (prd_zero_right hp0 (fun _ _ => rfl) k))
    rw [hmon.1]; omega)
  have hV : (bzV p f m).2.1 = (bzRun p 64 m (resP p f m) (fun _ => 0) (subP p oneP (prd p (quoP p f m) (fun _ => 0))) oneP (subP p (fun _ => 0) (prd p (quoP p f m) oneP))).2.1 := by
    unfold bzV; rw [bzRun_go hz]
  rw [← hV] at key
  unfold bzU
  obtain ⟨v1, v2⟩ := deg_bounds (bzV p f m).2.1
  refine deg_le (by omega) (fun k hk hk2 => ?_)
  unfold sclP
  rw [zero_above (f := (bzV p f m).2.1) (by omega) hk2, Nat.zero_mul, Nat.zero_mod]
theorem bzU_lt {p : Nat} {f m : Nat → Nat} (hp : 0 < p) (k : Nat) : bzU p f m k < p := Nat.mod_lt _ hp
theorem one_lz : lz oneP = oneS := by
  funext k; unfold lz oneS
  by_cases hk : k < 64
  · rw [cut_in _ hk]; unfold oneP; split <;> rfl
  · rw [cut_zero _ (by omega), if_neg (by omega)]; rfl
/-- the same residue -/
theorem res_rm {p : Nat} {a m : Nat → Nat} (hp : p = 2 ∨ p = 3 ∨ p = 5 ∨ p = 7) (ha : ∀ k, k < 64 → a k < p) (hm : ∀ k, k < 64 → m k < p) (h0 : 0 ≤ deg m) : rm p (lz m) (lz a) (lz (resP p a m)) := by
  refine ⟨_, fin_lz (quoP p a m), fun k => ?_⟩
  have := divP hp ha hm h0 k
  unfold az at this
  unfold sz
  rwa [show lz a k - lz (resP p a m) k - mz (lz (quoP p a m)) (lz m) k = lz a k - (mz (lz (quoP p a m)) (lz m) k + lz (resP p a m) k) by omega]
/-- residues of lesser degrees that are the same modulo m are the same -/
theorem res_same {p d : Nat} {a b m : Nat → Nat} (ha : ∀ k, k < 64 → a k < p) (hb : ∀ k, k < 64 → b k < p) (hmon : mon m d) (h1 : deg a < (d : Int)) (h2 : deg b < (d : Int)) (h : rm p (lz m) (lz a) (lz b)) : ∀ k, k < 64 → a k = b k := by
  have low : ∀ (f : Nat → Nat), deg f < (d : Int) → ∀ k, d ≤ k → lz f k = 0 := by
    intro f hf k hk
    unfold lz
    by_cases hk2 : k < 64
    · rw [cut_in _ hk2, zero_above (f := f) (k := k) (by omega) hk2]; rfl
    · rw [cut_zero _ (by omega)]; rfl
  have hu := rm_unique (d := d) (v := 1) (m := lz m) (f := lz a) (g := lz b) (p := p) (by rw [(mon_S hmon).1]; exact ⟨0, by omega⟩) (mon_S hmon).2 (fun k hk => by
    rw [low a h1 k hk, low b h2 k hk]; exact ⟨0, by omega⟩) h
  exact lz_inj ha hb hu
theorem bz_one {p : Nat} {f m : Nat → Nat} (hp : p = 2 ∨ p = 3 ∨ p = 5 ∨ p = 7) (hf : ∀ k, k < 64 → f k < p) (hm : ∀ k, k < 64 → m k < p) (h0 : 0 ≤ deg m) (h1 : ∀ k, k < 64 → bzD p f m k = oneP k) : rm p (lz m) (mz (lz (bzU p f m)) (lz f)) oneS := by
  obtain ⟨_, _, b3, _⟩ := bz_all hp hf hm (.inr h0)
  rw [lz_congr h1, one_lz] at b3
  refine rm_symm (rm_trans (rm_of_cg b3) ?_)
  have := rm_az (rm_refl (p : Int) (lz m) (mz (lz (bzU p f m)) (lz f))) (dv_mul (p := p) (fin_lz (bzW p f m)) (dv_self (p := p) (lz m)))
  rwa [az_zS] at this
theorem inv_same {p d : Nat} {f m : Nat → Nat} (hp : p = 2 ∨ p = 3 ∨ p = 5 ∨ p = 7) (hf : ∀ k, k < 64 → f k < p) (hm : ∀ k, k < 64 → m k < p) (hmon : mon m d) (h1 : ∀ k, k < 64 → bzD p f m k = oneP k) :
    ∀ k, k < 64 → resP p (bzU p (resP p f m) m) m k = bzU p f m k := by
  have hp0 : 0 < p := by omega
  have h0 : 0 ≤ deg m := by rw [hmon.1]; omega
  have hr : ∀ k, k < 64 → resP p f m k < p := resP_lt hp0 hf
  have hfr := res_rm hp hf hm h0
  -- the same divisors
  have h1' : ∀ k, k < 64 → bzD p (resP p f m) m k = oneP k := by
    obtain ⟨b1, ⟨j, b2⟩, _, b4⟩ := bz_all hp hr hm (.inr h0)
    obtain ⟨_, _, _, c4⟩ := bz_all hp hf hm (.inr h0)
    obtain ⟨x1, x2⟩ := (b4 _).1 (dv_self (p := p) _)
    have hf2 : dv p (lz (bzD p (resP p f m) m)) (lz f) := by
      obtain ⟨q, hq, hc⟩ := hfr
      have e : cg p (lz f) (az (mz q (lz m)) (lz (resP p f m))) := fun k => by
        have := hc k
        unfold sz at this; unfold az
        rwa [show lz f k - (mz q (lz m) k + lz (resP p f m) k) = lz f k - lz (resP p f m) k - mz q (lz m) k by omega]
      exact (dv_congr e).2 (dv_add (dv_mul hq x2) x1)
    have := (c4 _).2 ⟨hf2, x2⟩
    rw [lz_congr h1, one_lz] at this
    have hj := dv_one_deg (by omega) b2 this
    subst hj
    intro k hk
    have e := congrFun (one_of_mon0 b2) k
    unfold lz oneS at e
    rw [cut_in _ hk] at e
    by_cases h : k = 0
    · rw [if_pos h] at e
      have : oneP k = 1 := by unfold oneP; rw [if_pos h]
      omega
    · rw [if_neg h] at e
      have : oneP k = 0 := by unfold oneP; rw [if_neg h]
      omega
  have e1 := bz_one hp hf hm h0 h1
  have e2 := bz_one hp hr hm h0 h1'
  have hU' : ∀ k, k < 64 → bzU p (resP p f m) m k < p := fun k _ => bzU_lt hp0 k
  have e3 := res_rm hp hU' hm h0
  obtain ⟨r1, _⟩ := resP_deg hp hU' hm h0
  refine res_same (fun k hk => resP_lt hp0 hU' k hk) (fun k _ => bzU_lt hp0 k) hmon (by rw [← hmon.1]; exact r1) (by have := bzU_deg hp hf hm hmon; omega) ?_
  -- U' = U' (U f) = U (U' f) = U
  have one1 : ∀ g, mz g oneS = g := fun g => by rw [mz_comm]; exact mz_one g
  have s1 : rm p (lz m) (lz (bzU p (resP p f m) m)) (mz (lz (bzU p (resP p f m) m)) (mz (lz (bzU p f m)) (lz f))) := by
    have := rm_mz2 (fin_mz (fin_lz (bzU p f m)) (fin_lz f)) (fin_lz (bzU p (resP p f m) m)) (rm_refl (p : Int) (lz m) (lz (bzU p (resP p f m) m))) e1
    rw [one1] at this
    exact rm_symm this
  have s2 : mz (lz (bzU p (resP p f m) m)) (mz (lz (bzU p f m)) (lz f)) = mz (lz (bzU p f m)) (mz (lz (bzU p (resP p f m) m)) (lz f)) := by
    rw [← mz_assoc, mz_comm (lz (bzU p (resP p f m) m)), mz_assoc]
  have s3 : rm p (lz m) (mz (lz (bzU p (resP p f m) m)) (lz f)) oneS := by
    refine rm_trans (rm_mz2 (fin_lz f) (fin_lz _) (rm_refl _ _ _) hfr) e2
  have s4 : rm p (lz m) (mz (lz (bzU p f m)) (mz (lz (bzU p (resP p f m) m)) (lz f))) (lz (bzU p f m)) := by
    have := rm_mz2 (fin_mz (fin_lz (bzU p (resP p f m) m)) (fin_lz f)) (fin_lz (bzU p f m)) (rm_refl (p : Int) (lz m) (lz (bzU p f m))) s3
    rwa [one1] at this
  rw [s2] at s1
  exact rm_trans (rm_symm e3) (rm_trans s1 s4)
end Go.Proofs.Ytkaaffccklkafaa
