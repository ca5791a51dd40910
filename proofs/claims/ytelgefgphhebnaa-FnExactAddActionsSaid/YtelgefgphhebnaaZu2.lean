/-
  What the rows of this claim rest on: arrays of bytes, walks of the functions, plain mathematics.
-/
import Derived.Test.YtelgefgphhebnaaZu1
import Derived.Handy
import Derived.Test.YtelgefgphhebnaaRows
import Derived.ProofKit
import Derived.JoinedOf
section
namespace Go.Proofs.Ytelgefgphhebnaa
open Go Go.RowKit
set_option linter.unusedVariables false
set_option linter.unusedSimpArgs false
def bdC (p : Int) : List Value := [.int .i64 p]
theorem bdC_len (p : Int) : (bdC p).length = 1 := rfl
theorem bdC_at (p : Int) : (bdC p).toArray[0]? = some (.int .i64 p) := rfl
theorem built_bd (p : Int) : Try.prog.built 98 [(0, .int .i64 p)] = some (bdC p).toArray := by unfold bdC; kernel_rfl
attribute [irreducible] bdC
theorem Try.size98 : (Try.prog.info? 98).map (·.size) = some 1 := by kernel_rfl
/-- the rows of a list, 0 behind -/
def zrow (L : List (Nat → Nat)) (i : Nat) : Nat → Nat := L.getD i fun _ => 0
theorem zrow_at {L : List (Nat → Nat)} {i : Nat} {x : Nat → Nat} (h : L[i]? = some x) : zrow L i = x := by unfold zrow; rw [List.getD_eq_getElem?_getD, h]; rfl
theorem zrow_out {L : List (Nat → Nat)} {i : Nat} (h : L.length ≤ i) : zrow L i = fun _ => 0 := by unfold zrow; rw [List.getD_eq_getElem?_getD, List.getElem?_eq_none h]; rfl
theorem zrow_get {L : List (Nat → Nat)} {i : Nat} (h : i < L.length) : L[i]? = some (zrow L i) := by rw [zrow_at (List.getElem?_eq_getElem h)]; exact List.getElem?_eq_getElem h
theorem zrow_map (L : List (Nat → Nat)) : (List.range L.length).map (zrow L) = L := by
 apply List.ext_getElem?
 intro i
 by_cases h : i < L.length
 · rw [List.getElem?_map, List.getElem?_range h, zrow_get h]; rfl
 · rw [List.getElem?_eq_none (by simp; omega), List.getElem?_eq_none (by omega)]
theorem zrow_all {L : List (Nat → Nat)} {p : Nat} (hp : 0 < p) (h : ∀ x, x ∈ L → ∀ k, k < 64 → x k < p) (i k : Nat) (hk : k < 64) : zrow L i k < p := by
 by_cases hi : i < L.length
 · exact h _ (List.mem_of_getElem? (zrow_get hi)) k hk
 · rw [zrow_out (by omega)]; exact hp
attribute [irreducible] zrow
/-- rows, one behind the other -/
theorem flat_rows (F : Nat → Nat → Nat) (n : Nat) : (plR ((List.range n).map F)).flatten = bl (n * 64) (fl 64 F) := by
 have hlen : (plR ((List.range n).map F)).length = n := by rw [plR_len]; simp
 have hall : ∀ c ∈ plR ((List.range n).map F), c.length = 64 := by
  intro c hc
  unfold plR at hc
  obtain ⟨f, _, rfl⟩ := List.mem_map.1 hc
  exact zl _ _
 apply List.ext_getElem?
 intro k
 by_cases hk : k < n * 64
 · have hd : k / 64 < n := Nat.div_lt_of_lt_mul (by rw [Nat.mul_comm]; exact hk)
   have hm : k % 64 < 64 := Nat.mod_lt _ (by decide)
   have h1 : (plR ((List.range n).map F))[k / 64]? = some (bl 64 (F (k / 64))) := by
    unfold plR
    rw [List.getElem?_map, List.getElem?_map, List.getElem?_range hd]; rfl
   have h2 : (bl 64 (F (k / 64)))[k % 64]? = some (.int .u8 (F (k / 64) (k % 64) : Int)) := by
    unfold bl
    rw [List.getElem?_map, List.getElem?_range hm]; rfl
   have h3 := flat_at (plR ((List.range n).map F)) 64 (k / 64) _ (k % 64) _ hall h1 h2
   rw [show k / 64 * 64 + k % 64 = k by omega] at h3
   rw [h3]
   unfold bl fl
   rw [List.getElem?_map, List.getElem?_range hk]; rfl
 · have hlf : (plR ((List.range n).map F)).flatten.length = n * 64 := by
    rw [List.length_flatten, show (plR ((List.range n).map F)).map List.length = List.replicate n 64 from List.eq_replicate_iff.2 ⟨by rw [List.length_map, hlen], fun x hx => by obtain ⟨c, hc, rfl⟩ := List.mem_map.1 hx; exact hall c hc⟩, List.sum_replicate_nat]
   rw [List.getElem?_eq_none (l := (plR ((List.range n).map F)).flatten) (by omega), List.getElem?_eq_none (by rw [zl]; omega)]
theorem flat_take (L : List (Nat → Nat)) : ∀ q, q ≤ L.length → (plR (L.take q)).flatten = ((plR L).flatten).take (q * 64) := by
 unfold plR
 induction L with
 | nil => intro q hq; have : q = 0 := by simpa using hq
          subst this; rfl
 | cons x L ih =>
  intro q hq
  cases q with
  | zero => simp
  | succ q =>
   have hq' : q ≤ L.length := by simpa using hq
   rw [List.take_succ_cons, List.map_cons, List.map_cons, List.flatten_cons, List.flatten_cons, ih q hq', List.take_append, zl, List.take_of_length_le (l := bl 64 x) (by rw [zl]; omega), show (q + 1) * 64 - 64 = q * 64 by omega]
/-- the first rows of a list -/
theorem slL_take {w : World} {base n cap q : Nat} {a : Option Addr} {L : List (Nat → Nat)} (h : SlL w base 28 64 (.slice a n cap) (plR L)) (hn : n = L.length) (hq : q ≤ L.length) : SlL w base 28 64 (.slice a q cap) (plR (L.take q)) := by
 unfold SlL World.ownsRow at h ⊢
 obtain ⟨h1, h2, h3, h4⟩ := h
 have hlen : (plR (L.take q)).length = q := by rw [plR_len, List.length_take]; omega
 have hall : ∀ c ∈ plR (L.take q), c.length = 64 := by
  intro c hc
  unfold plR at hc
  obtain ⟨f, _, rfl⟩ := List.mem_map.1 hc
  exact zl _ _
 have hfl : (plR (L.take q)).flatten.length = q * 64 := by
  rw [flat_take L q hq, List.length_take, h3, plR_len]
  exact Nat.min_eq_left (Nat.mul_le_mul_right 64 hq)
 refine ⟨h1, hall, by rw [hlen]; exact hfl, ?_⟩
 rcases h4 with ⟨e1, e2⟩ | ⟨g, c, cur, e1, e2, e3, e4, e5, e6, e7⟩
 · left
   injection e1 with e1 e8 e9
   have : q = 0 := by omega
   subst this
   exact ⟨by rw [e1, e9], hlen⟩
 · right
   injection e1 with e1 e8 e9
   refine ⟨g, c, cur, by rw [e1, e9, hlen], e2, e3, by rw [plR_len] at e4; omega, e5, e6, ?_⟩
   rw [hlen, flat_take L q hq, ← e7, List.take_take, plR_len, Nat.min_eq_left (Nat.mul_le_mul_right 64 hq)]
/-- a list that fills its block -/
theorem slL_blk {w : World} {base b : Nat} {L : List (Nat → Nat)} (h : SlL w base 28 64 (.slice (some ⟨b, 0, none⟩) L.length L.length) (plR L)) : Blk w b (L.length * 64) 28 (fl 64 (zrow L)) := by
 unfold SlL World.ownsRow at h
 obtain ⟨h1, h2, h3, h4⟩ := h
 rcases h4 with ⟨e1, e2⟩ | ⟨g, c, cur, e1, e2, e3, e4, e5, e6, e7⟩
 · cases e1
 · injection e1 with e1 e8 e9
   injection e1 with e1
   injection e1 with e1
   subst e1
   rw [plR_len] at e7
   have hf := flat_rows (zrow L) L.length
   rw [zrow_map] at hf
   rw [hf, List.take_of_length_le (by rw [Array.length_toList]; omega)] at e7
   have : cur = zb (L.length * 64) (fl 64 (zrow L)) := by
    apply Array.ext'
    rw [e7]
   rw [this] at e3
   unfold Blk; exact e3
theorem slL_cap {w : World} {base n cap : Nat} {a : Option Addr} {cs : List (List Value)} (h : SlL w base 28 64 (.slice a n cap) cs) : n ≤ cap := by
 unfold SlL World.ownsRow at h
 obtain ⟨h1, h2, h3, h4⟩ := h
 rcases h4 with ⟨e1, e2⟩ | ⟨g, c, cur, e1, e2, e3, e4, e5, e6, e7⟩
 · injection e1 with e1 e8 e9; omega
 · injection e1 with e1 e8 e9; omega
/-- the sum of two actions below i -/
def adT (p : Nat) (F G : Nat → Nat → Nat) : Nat → Nat → Nat → Nat
 | 0 => F
 | i + 1 => updR (adT p F G i) i (addK p (adT p F G i i) (G i) 1)
theorem adT_z (p : Nat) (F G : Nat → Nat → Nat) : adT p F G 0 = F := rfl
theorem adT_s (p : Nat) (F G : Nat → Nat → Nat) (i : Nat) : adT p F G (i + 1) = updR (adT p F G i) i (addK p (adT p F G i i) (G i) 1) := rfl
theorem adT_at (p : Nat) (F G : Nat → Nat → Nat) : ∀ i r, adT p F G i r = if r < i then addK p (F r) (G r) 1 else F r
 | 0, r => by rw [adT_z, if_neg (by omega)]
 | i + 1, r => by
  rw [adT_s]
  by_cases e : r = i
  · subst e
    rw [updR_same, if_pos (by omega), adT_at p F G r r, if_neg (by omega)]
  · rw [updR_other e, adT_at p F G i r]
    by_cases h : r < i
    · rw [if_pos h, if_pos (by omega)]
    · rw [if_neg h, if_neg (by omega)]
theorem adT_lt {p : Nat} {F G : Nat → Nat → Nat} (hp : 0 < p) (hF : ∀ r k, k < 64 → F r k < p) (i r k : Nat) (hk : k < 64) : adT p F G i r k < p := by
 rw [adT_at]
 by_cases h : r < i
 · rw [if_pos h]; exact addK_lt hp k
 · rw [if_neg h]; exact hF r k hk
attribute [irreducible] adT
attribute [local irreducible] deg addK okA
set_option maxRecDepth 100000 in
set_option maxHeartbeats 1600000 in
theorem bplus_any (p : Nat) (f g : Nat → Nat) (w : World) (hpr : p = 2 ∨ p = 3 ∨ p = 5 ∨ p = 7) (lf : ∀ k, k < 64 → f k < p) (lg : ∀ k, k < 64 → g k < p) :
 Calls Try.prog 212 #[.agg (bdC (p : Int)).toArray, .agg (zb 64 f), .agg (zb 64 g)] w fun e w' => e = .returned (.agg (zb 64 (addK p f g 1))) ∧ Below w.heap.size w w' := by
 have HSU := Lib.hid (show ∀ W, Calls Try.prog 117 #[.int .i64 (p : Int), .agg (zb 64 f), .agg (zb 64 g)] W fun e w' => e = .returned (.agg (zb 64 (addK p f g 1))) ∧ Below W.heap.size W w' from fun W => by
  rw [addK_one]; exact sum_any p _ _ W (by omega) (by omega) lf lg)
 go_enter Try.func212, Try.ntmps212
 go_upto_region 1 with (fail)
 rw [← z64]
 obtain ⟨W1, hwo⟩ : ∃ v : World, v = ((((w.alloc (.cells (bdC (p : Int)).toArray 98)).alloc (.cells (zb 64 (f)) 28)).alloc (.cells (zb 64 (g)) 28)).alloc (.cells (zb 64 (fun _ => 0)) 28)) := ⟨_, rfl⟩
 have B0 : Row W1 (w.heap.size) 98 (bdC (p : Int)).toArray := by subst hwo; have := ((((Row.new w 98 (bdC (p : Int)).toArray).alloc (.cells (zb 64 (f)) 28)).alloc (.cells (zb 64 (g)) 28)).alloc (.cells (zb 64 (fun _ => 0)) 28)); simpa using this
 have B1 : Blk W1 (w.heap.size + 1) 64 28 (f) := by subst hwo; have := (((Blk.new (w.alloc (.cells (bdC (p : Int)).toArray 98)) 64 28 (f)).alloc (.cells (zb 64 (g)) 28)).alloc (.cells (zb 64 (fun _ => 0)) 28)); simpa using this
 have B2 : Blk W1 (w.heap.size + 1 + 1) 64 28 (g) := by subst hwo; have := ((Blk.new ((w.alloc (.cells (bdC (p : Int)).toArray 98)).alloc (.cells (zb 64 (f)) 28)) 64 28 (g)).alloc (.cells (zb 64 (fun _ => 0)) 28)); simpa using this
 have B3 : Blk W1 (w.heap.size + 1 + 1 + 1) 64 28 (fun _ => 0) := by subst hwo; have := (Blk.new (((w.alloc (.cells (bdC (p : Int)).toArray 98)).alloc (.cells (zb 64 (f)) 28)).alloc (.cells (zb 64 (g)) 28)) 64 28 (fun _ => 0)); simpa using this
 have hb : Below w.heap.size w W1 := by subst hwo; exact (((((Below.refl _ _).alloc (Nat.le_refl _) _).alloc (by simp) _).alloc (by simp; omega) _).alloc (by simp; omega) _)
 rw [← hwo]
 clear hwo
 have cc := B0.cell (i := 0) (v := .int .i64 (p : Int)) (bdC_at (p : Int))
 have lt_B0 := B0.lt
 have lt_B1 := B1.lt
 have lt_B2 := B2.lt
 have lt_B3 := B3.lt
 go_wp2_with (first | rw [← z64] | (refine zla (.tmp 4) B1 Try.underlying28 Try.size28 ?_) | (refine zla (.tmp 5) B2 Try.underlying28 Try.size28 ?_) | (go_at_call 117; refine (HSU.out _).mono ?_; rintro e W2 ⟨rfl, hW2⟩; replace B0 := B0.zw hW2; replace B1 := B1.zw hW2; replace B2 := B2.zw hW2; replace B3 := B3.zw hW2; replace hb := (hb).trans (hW2.mono (hb).size)) | (refine zsr (.tmp 6) (.tmp 11) (addK p f g 1) B3 Try.size28 ?_; try simp only [Act.put]))
 obtain ⟨W3, hwo, hzQ⟩ : ∃ v : World, v = (W2.setRow (w.heap.size + 1 + 1 + 1) (zb 64 (addK p f g 1))) ∧ Row v (w.heap.size) 98 (bdC (p : Int)).toArray ∧ Blk v (w.heap.size + 1) 64 28 (f) ∧ Blk v (w.heap.size + 1 + 1) 64 28 (g) ∧ Blk v (w.heap.size + 1 + 1 + 1) 64 28 (addK p f g 1) ∧ Below w.heap.size w v := ⟨_, rfl, (B0.rowOther (by omega)), (B1.rowOther (by omega)), (B2.rowOther (by omega)), (B3.row (addK p f g 1)), (zr hb (by omega) _)⟩
 rw [← hwo]
 clear hwo B0 B1 B2 B3 hb
 obtain ⟨B0, B1, B2, B3, hb⟩ := hzQ
 try simp only [Act.put, pA, pB, pC]
 refine bodyPost_ret (zrb rfl _ _ _ 64 28 5 _ rfl B3 Try.underlying28 Try.size28) rfl ⟨rfl, hb⟩
set_option maxRecDepth 100000 in
set_option maxHeartbeats 1600000 in
theorem l04Trim_any (a : Option Addr) (n cap base : Nat) (R : Nat → Nat → Nat) (w : World) (hs : SlL w base 28 64 (.slice a n cap) (plR ((List.range n).map R))) (hn9 : n ≤ 100000) :
 Calls Try.prog 81 #[.slice a n cap] w fun e w' => e = .returned (.slice a (skN R n + 1).toNat cap) ∧ Below w.heap.size w w' := by
 have hnc := slL_cap hs
 go_enter Try.func81, Try.ntmps81
 have hb := Below.refl w.heap.size w
 go_wp2_with fail
 go_loopw [0] (fun v wr => ∃ q : Nat, v = .slice a q cap ∧ q ≤ n ∧ Hid (skN R q = skN R n) ∧ Below w.heap.size w wr) (fun v _ => slLen v)
 case atStart => exact ⟨n, rfl, Nat.le_refl _, Lib.hid rfl, hb⟩
 case round =>
  clear hb
  obtain ⟨q, rfl, hqn, hQ, hb⟩ := hrel
  cases q with
  | zero =>
   have hq0 : ¬ (((0 : Nat) : Int) > 0) := by omega
   have HV := Lib.hid (show (skN R n + 1).toNat = 0 by have := hQ.out; rw [skN_z] at this; omega)
   clear hQ
   go_wp2_with fail
   go_ret
   exact ⟨by rw [HV.out]; rfl, hb⟩
  | succ r =>
   obtain ⟨b, rfl⟩ := hs.some (by rw [plR_len, List.length_map, List.length_range]; omega)
   have hrw : (plR ((List.range n).map R))[r]? = some (bl 64 (R r)) := plR_at (by rw [List.getElem?_map, List.getElem?_range (by omega)]; rfl)
   have B0 := (hs.zw hb).range hrw
   clear hrw
   have hq0 : (((r + 1 : Nat) : Int) > 0) := by omega
   have hq1 : ((r + 1 : Nat) : Int) - 1 = (r : Int) := by omega
   have hqr : (r : Int) < ((r + 1 : Nat) : Int) := by omega
   have hr9 : (r : Int) ≤ 100000 := by omega
   have hgd := Try.noGuard28
   have heq := fun W => zeb (P := Try.prog) W 9998 28 5 64 (R r) (fun _ => 0) Try.underlying28 Try.underlying5 Try.size5
   cases hz : eqN 64 (R r) (fun _ => 0) with
   | true =>
    rw [hz] at heq
    have HS := Lib.hid (show skN R r = skN R n by rw [← hQ.out, skN_skip hz])
    clear hz hQ
    have hrc : (r : Int) ≤ (cap : Int) := by omega
    go_wp2_with (first | (refine wpList_load_mid_g rfl 28 (.tmp 11) rfl _ (r * 64) rfl (bl 64 (R r)) _ B0 Try.underlying28 rfl (by rw [zl]; exact Try.size28) ?_) | rw [← z64])
    go_roundw
    case rel => exact ⟨r, by first | rfl | simp, by omega, HS, hb⟩
    case measure => simp [slLen]
   | false =>
    rw [hz] at heq
    have HV := Lib.hid (show (skN R n + 1).toNat = r + 1 by rw [← hQ.out, skN_stop hz]; omega)
    clear hz hQ
    go_wp2_with (first | (refine wpList_load_mid_g rfl 28 (.tmp 11) rfl _ (r * 64) rfl (bl 64 (R r)) _ B0 Try.underlying28 rfl (by rw [zl]; exact Try.size28) ?_) | rw [← z64])
    go_ret
    exact ⟨by rw [HV.out]; rfl, hb⟩
set_option maxRecDepth 100000 in
set_option maxHeartbeats 1600000 in
theorem skewSumB_any (p : Nat) (F G : Nat → Nat → Nat) (A B M bA bB : Nat) (w : World) (hpr : p = 2 ∨ p = 3 ∨ p = 5 ∨ p = 7) (hA : A ≤ M) (hB : B ≤ M) (hM9 : M ≤ 100000) (hmx : (if A < B then (B : Int) else (A : Int)) = (M : Int))
 (lF : ∀ r k, k < 64 → F r k < p) (lG : ∀ r k, k < 64 → G r k < p) (hz : ∀ r, A ≤ r → F r = fun _ => 0) (hf : Blk w bA (A * 64) 28 (fl 64 F)) (hg : Blk w bB (B * 64) 28 (fl 64 G)) :
 Calls Try.prog 83 #[.agg (bdC (p : Int)).toArray, .slice (some ⟨bA, 0, none⟩) A A, .slice (some ⟨bB, 0, none⟩) B B] w fun e w' => ∃ c, e = .returned (.slice (some ⟨c, 0, none⟩) (skN (adT p F G B) M + 1).toNat M) ∧ w.heap.size ≤ c ∧ Blk w' c (M * 64) 28 (fl 64 (adT p F G B)) ∧ Below w.heap.size w w' := by
 have p0 : 0 < p := by omega
 have HPL := Lib.hid (fun (f g : Nat → Nat) (hf : ∀ k, k < 64 → f k < p) (hg : ∀ k, k < 64 → g k < p) W => bplus_any p f g W hpr hf hg)
 have HJL := Lib.hid (fun i r k (hk : k < 64) => adT_lt (p := p) (F := F) (G := G) p0 lF i r k hk)
 have HGL := Lib.hid lG
 have HZ := Lib.hid (adT_z p F G)
 have HS := Lib.hid (adT_s p F G)
 have hmn : goInt ((Nat.min A M : Nat) : Int) = .int .i64 (A : Int) := by rw [show Nat.min A M = A from Nat.min_eq_left hA]; rfl
 have HCZ := Lib.hid (show ∀ i, i < M → A ≤ i → ∀ j, j < 64 → (fun _ _ => 0 : Nat → Nat → Nat) i j = F i j from fun i _ h j _ => by rw [hz i h])
 have HWZ := Lib.hid (fun (W : World) (c : Nat) (R : Nat → Nat → Nat) (h : Blk W c (M * 64) 28 (fl 64 R)) => withoutZerosBehind_any (some ⟨c, 0, none⟩) M M R W (SlR.of h (Nat.le_refl _)) (Nat.le_refl _) hM9)
 clear lF lG hz
 go_enter Try.func83, Try.ntmps83
 go_upto_region 1 with (fail)
 obtain ⟨W1, hwo⟩ : ∃ v : World, v = (w.alloc (.cells (bdC (p : Int)).toArray 98)) := ⟨_, rfl⟩
 have B0 : Row W1 (w.heap.size) 98 (bdC (p : Int)).toArray := by subst hwo; have := (Row.new w 98 (bdC (p : Int)).toArray); simpa using this
 have hb : Below w.heap.size w W1 := by subst hwo; exact ((Below.refl _ _).alloc (Nat.le_refl _) _)
 rw [← hwo]
 clear hwo
 go_upto_region 2 with (refine wpList_make_rows _ rfl 30 (.tmp 14) (.tmp 14) rfl 28 Try.underlying30 Try.made28 M hM9 rfl rfl ?_)
 have lt_B0 := B0.lt
 have lhb := hb.size
 obtain ⟨W2, hwo, hzQ⟩ : ∃ v : World, v = (W1.alloc (.cells (zb (M * 64) (fl 64 (fun _ _ => 0))) 28)) ∧ Row v (w.heap.size) 98 (bdC (p : Int)).toArray ∧ Blk v (W1.heap.size) (M * 64) 28 (fl 64 (fun _ _ => 0)) ∧ Below w.heap.size w v := ⟨_, rfl, (B0.alloc (.cells (zb (M * 64) (fl 64 (fun _ _ => 0))) 28)), (Blk.new W1 (M * 64) 28 (fl 64 (fun _ _ => 0))), (hb.alloc (by have := hb.size; simp; omega) (.cells (zb (M * 64) (fl 64 (fun _ _ => 0))) 28))⟩
 rw [← hwo]
 clear hwo B0 hb
 obtain ⟨B0, B1, hb⟩ := hzQ
 obtain ⟨N1, hNN⟩ : ∃ n : Nat, n = W1.heap.size := ⟨_, rfl⟩
 rw [← hNN] at lt_B0 lhb B1 ⊢
 clear hNN
 have zN1_0 := lt_B0
 have zN1 := lhb
 clear lt_B0 lhb
 try simp only [Act.put, pA, pB, pC]
 have hlw : w.heap.size ≤ N1 := by omega
 have hfl := hf.lt
 have hkl : w.heap.size ≠ N1 := by omega
 have HF := hf.zw hb
 go_upto_region 3 with (refine wpList_plain rfl fun K hK => ?_; refine wp_copy_rows (.tmp 16) (.tmp 17) 30 30 rfl 28 Try.underlying30 Try.size28 _ bA M M A A A 28 28 (fun _ _ => 0) F rfl rfl B1 HF (Nat.le_refl _) HCZ.out ?_; refine hK _ _ ?_; rw [hmn])
 clear HF HCZ hmn
 obtain ⟨W3, hwo, hzQ⟩ : ∃ v : World, v = (W2.setRow (N1) (zb (M * 64) (fl 64 F))) ∧ Row v (w.heap.size) 98 (bdC (p : Int)).toArray ∧ Blk v (N1) (M * 64) 28 (fl 64 F) ∧ Below w.heap.size w v := ⟨_, rfl, (B0.rowOther (by omega)), (B1.row _), (zr hb (by omega) _)⟩
 rw [← hwo]
 clear hwo B0 B1 hb
 obtain ⟨B0, B1, hb⟩ := hzQ
 try simp only [Act.put, pA, pB, pC]
 go_wp2_with fail
 go_loopw [21] (fun c wr => ∃ (i : Nat) (O : Nat → Nat → Nat), c = .int .i64 (i : Int) ∧ i ≤ B ∧ Hid (O = adT p F G i) ∧ Below w.heap.size w wr ∧ Row wr (w.heap.size) 98 (bdC (p : Int)).toArray ∧ w.heap.size ≤ N1 ∧ Blk wr (N1) (M * 64) 28 (fl 64 O)) (fun c _ => B - (intOf c).toNat)
 case atStart => exact ⟨0, _, rfl, Nat.zero_le _, Lib.hid HZ.out.symm, hb, B0, hlw, B1⟩
 case round =>
  clear hb B0 B1 hlw
  obtain ⟨i, O, rfl, hiB, hO, hb, B0, hlw, B1⟩ := hrel
  by_cases hi : i < B
  · have hiI : (i : Int) < (B : Int) := by omega
    have hiM : i < M := by omega
    have hiMI : (i : Int) < (M : Int) := by omega
    have BG := hg.zw hb
    go_upto_region 5 with (fail)
    have B2 := BG
    clear BG
    have lt_B0 := B0.lt
    have lt_B1 := B1.lt
    have lt_B2 := B2.lt
    go_upto_region 6 with (first | rw [← z64] | (refine wpList_load_mid rfl 28 (.tmp 24) rfl _ (i * 64) rfl (bl 64 (G i)) _ (B2.rowF (r := B) (c := 64) (by omega)) Try.underlying28 rfl (by rw [zl]; exact Try.size28) ?_) | (refine wpList_store_blk rfl 28 (.tmp 9) (.tmp 25) rfl _ 64 (G i) rfl rfl 28 _ ((Blk.new wr 64 28 (fun _ => 0))) Try.size28 ?_; try simp only [Act.put]))
    have lt_B0 := B0.lt
    have lt_B1 := B1.lt
    have lt_B2 := B2.lt
    have lhb := hb.size
    obtain ⟨W4, hwo, hzQ⟩ : ∃ v : World, v = ((wr.alloc (.cells (zb 64 (fun _ => 0)) 28)).setRow (wr.heap.size) (zb 64 (G i))) ∧ Row v (w.heap.size) 98 (bdC (p : Int)).toArray ∧ Blk v (N1) (M * 64) 28 (fl 64 O) ∧ Blk v (bB) (B * 64) 28 (fl 64 G) ∧ Blk v (wr.heap.size) 64 28 (G i) ∧ Below w.heap.size w v := ⟨_, rfl, ((B0.alloc (.cells (zb 64 (fun _ => 0)) 28)).rowOther (by omega)), ((B1.alloc (.cells (zb 64 (fun _ => 0)) 28)).rowOther (by omega)), ((B2.alloc (.cells (zb 64 (fun _ => 0)) 28)).rowOther (by omega)), ((Blk.new wr 64 28 (fun _ => 0)).row (G i)), (zr (hb.alloc (by have := hb.size; simp; omega) (.cells (zb 64 (fun _ => 0)) 28)) (by omega) _)⟩
    rw [← hwo]
    clear hwo B0 B1 B2 hb
    obtain ⟨B0, B1, B2, B3, hb⟩ := hzQ
    obtain ⟨N2, hNN⟩ : ∃ n : Nat, n = wr.heap.size := ⟨_, rfl⟩
    rw [← hNN] at lt_B0 lt_B1 lt_B2 lhb B3 ⊢
    clear hNN
    have zN2_0 := lt_B0
    have zN2_1 := lt_B1
    have zN2_2 := lt_B2
    have zN2 := lhb
    clear lt_B0 lt_B1 lt_B2 lhb
    try simp only [Act.put, pA, pB, pC]
    clear B2
    have HOL := Lib.hid (show ∀ k, k < 64 → O i k < p from fun k hk => by rw [hO.out]; exact HJL.out i i k hk)
    have HK2 := Lib.hid (HPL.out (O i) (G i) HOL.out (fun k hk => HGL.out i k hk))
    have lt_B0 : (w.heap.size) < W4.heap.size := B0.lt
    have lt_B1 : (N1) < W4.heap.size := B1.lt
    have lt_B3 : (N2) < W4.heap.size := B3.lt
    have hbase : w.heap.size ≤ W4.heap.size := hb.size
    refine zq Try.mixed (by kernel_rfl) (by kernel_rfl) (fun v => by (simp only [frL, Act.put, pA, pB, pC, Nat.reduceAdd, Nat.zero_add]; exact rfl))
     (fun L v W5 => Below w.heap.size w W5 ∧ Kx [N1] W4 W5 ∧ (∃ g, Blk W5 (N1) (M * 64) 28 (g)) ∧ (L 11 = false → Blk W5 (N1) (M * 64) 28 (fl 64 O)) ∧ (L 11 = true → Blk W5 (N1) (M * 64) 28 (fl 64 (updR O i (addK p (O i) (G i) 1)))) ∧ VF L v [some (.slice (some ⟨N1, 0, none⟩) M M), some (.int .i64 (i : Int)), some (.agg (bdC (p : Int)).toArray), some (.iface 98 (.agg (bdC (p : Int)).toArray)), some (.slice (some ⟨N1, 0, none⟩) M M), some (.int .i64 (i : Int)), some (.pointer (some ⟨N1, i * 64, none⟩)), some (.agg (zb 64 (O i))), some (.agg (zb 64 (G i))), some (.agg (zb 64 (addK p (O i) (G i) 1))), some (.pointer (some ⟨N1, i * 64, none⟩)), none]) ?_ ?_ ?_
    · intro v hv0
      exact ⟨hb.drew, Kx.start _ _, ⟨_, B1.drew⟩, (fun _ => B1.drew), (fun h => by cases h), VF.start⟩
    · refine (.cons rfl ?_ (.cons rfl ?_ (.cons rfl ?_ (.cons rfl ?_ (.cons rfl ?_ (.cons rfl ?_ (.cons rfl ?_ (.cons rfl ?_ (.cons rfl ?_ (.cons rfl ?_ (.cons rfl ?_ (.cons rfl ?_ (.nil _)))))))))))))
      all_goals intro L v W5 hd hn ⟨hB, hX, x1, q1, n1, V⟩ K hK
      · go_wp2_with fail
        exact hK _ (.slice (some ⟨N1, 0, none⟩) M M) _ (by simp only [Act.put, pA, pB, pC ]) ⟨hB, hX, x1, q1, n1, V.step 0 rfl⟩
      · go_wp2_with fail
        exact hK _ (.int .i64 (i : Int)) _ (by simp only [Act.put, pA, pB, pC ]) ⟨hB, hX, x1, q1, n1, V.step 1 rfl⟩
      · refine wp_load_rowv 98 _ rfl _ rfl 98 _ (B0.kx hX (by simp <;> omega)) _ Try.underlying98 rfl 1 Try.size98 (by simp [bdC_len]) ?_
        exact hK _ _ _ rfl ⟨hB, hX, x1, q1, n1, V.step 2 rfl⟩
      · have e2 := V.at (zdq hd 2 rfl) rfl
        go_wp2_with fail
        exact hK _ (.iface 98 (.agg (bdC (p : Int)).toArray)) _ (by simp only [Act.put, pA, pB, pC, e2]) ⟨hB, hX, x1, q1, n1, V.step 3 rfl⟩
      · go_wp2_with fail
        exact hK _ (.slice (some ⟨N1, 0, none⟩) M M) _ (by simp only [Act.put, pA, pB, pC ]) ⟨hB, hX, x1, q1, n1, V.step 4 rfl⟩
      · go_wp2_with fail
        exact hK _ (.int .i64 (i : Int)) _ (by simp only [Act.put, pA, pB, pC ]) ⟨hB, hX, x1, q1, n1, V.step 5 rfl⟩
      · have e4 := V.at (zdq hd 4 rfl) rfl
        have e5 := V.at (zdq hd 5 rfl) rfl
        go_wp2_with fail
        exact hK _ (.pointer (some ⟨N1, i * 64, none⟩)) _ (by simp only [Act.put, pA, pB, pC, e4, e5]) ⟨hB, hX, x1, q1, n1, V.step 6 rfl⟩
      · have e6 := V.at (zdq hd 6 rfl) rfl
        have s1 := q1 (by
         cases hL : L 11 with
         | false => rfl
         | true => exact absurd rfl (hn 11 _ rfl hL ⟨7, .phase⟩ (by simp) rfl))
        refine wp_load_mid 28 _ rfl _ (i * 64) e6 _ _ ((s1).rowF (r := M) (c := 64) (by omega)) Try.underlying28 rfl (by rw [zl]; exact Try.size28) ?_
        exact hK _ _ _ rfl ⟨hB, hX, x1, q1, n1, V.step 7 rfl⟩
      · refine wp_load_any 28 _ rfl _ rfl 64 28 _ (B3.kx hX (by simp <;> omega)) _ Try.underlying28 rfl Try.size28 ?_
        exact hK _ _ _ rfl ⟨hB, hX, x1, q1, n1, V.step 8 rfl⟩
      · have e3 := V.at (zdq hd 3 rfl) rfl
        have e7 := V.at (zdq hd 7 rfl) rfl
        have e8 := V.at (zdq hd 8 rfl) rfl
        go_wp2_with (go_at_call 212; refine (HK2.out _).mono ?_; rintro e wy ⟨rfl, hy⟩)
        exact hK _ (.agg (zb 64 (addK p (O i) (G i) 1))) _ (by simp only [Act.put, pA, pB, pC, e3, e7, e8]) ⟨hB.trans (hy.mono hB.size), hX.below hy, (let ⟨g, h⟩ := x1; ⟨g, h.zw hy⟩), (fun h => (q1 h).below hy (q1 h).lt), (fun h => (n1 h).below hy (n1 h).lt), V.step 9 rfl⟩
      · have e0 := V.at (zdq hd 0 rfl) rfl
        have e1 := V.at (zdq hd 1 rfl) rfl
        go_wp2_with fail
        exact hK _ (.pointer (some ⟨N1, i * 64, none⟩)) _ (by simp only [Act.put, pA, pB, pC, e0, e1]) ⟨hB, hX, x1, q1, n1, V.step 10 rfl⟩
      · have e10 := V.at (zdq hd 10 rfl) rfl
        have e9 := V.at (zdq hd 9 rfl) rfl
        obtain ⟨gz, hk, hg⟩ : ∃ gz, Blk W5 (N1) (M * 64) 28 (fl 64 gz) ∧ updR gz (i) (addK p (O i) (G i) 1) = updR O (i) (addK p (O i) (G i) 1) := by
         cases hL : L 11 with
         | false => exact ⟨_, q1 hL, rfl⟩
         | true => exact ⟨_, n1 hL, updR_twice _ _ _⟩
        refine wp_store_rowF 28 _ _ rfl _ (i) 64 M (addK p (O i) (G i) 1) e10 e9 28 gz hk (by omega) (by decide) Try.size28 ?_
        rw [hg]
        exact hK _ undef _ rfl ⟨zr hB (by omega) _, hX.row (by simp) _, ⟨_, hk.row _⟩, (fun h => absurd h (by simp [setL])), (fun _ => hk.row _), V.skip 11 rfl⟩
    · intro L v W5 hL ⟨hB, hX, x1, q1, n1, V⟩
      have r1 := n1 (hL 11 (by decide))
      have e0 := V.at (hL 0 (by decide)) rfl
      have e1 := V.at (hL 1 (by decide)) rfl
      have e2 := V.at (hL 2 (by decide)) rfl
      have e3 := V.at (hL 3 (by decide)) rfl
      have e4 := V.at (hL 4 (by decide)) rfl
      have e5 := V.at (hL 5 (by decide)) rfl
      have e6 := V.at (hL 6 (by decide)) rfl
      have e7 := V.at (hL 7 (by decide)) rfl
      have e8 := V.at (hL 8 (by decide)) rfl
      have e9 := V.at (hL 9 (by decide)) rfl
      have e10 := V.at (hL 10 (by decide)) rfl
      clear hL x1 q1 n1 V
      replace B0 := B0.kx hX (by simp <;> omega)
      replace B3 := B3.kx hX (by simp <;> omega)
      clear hX
      simp only [Exit.then, e0, e1, e2, e3, e4, e5, e6, e7, e8, e9, e10]
      clear e0 e1 e2 e3 e4 e5 e6 e7 e8 e9 e10
      replace B1 := r1
      clear r1
      replace hb := hB
      clear hB
      clear hbase lt_B0 lt_B1 lt_B3
      go_wp2_with fail
      go_roundw
      case rel => exact ⟨i + 1, _, by go_num, by omega, Lib.hid (by rw [HS.out, ← hO.out]), hb, B0, hlw, B1⟩
      case measure => simp [intOf] <;> omega
  · have hiI : ¬ (i : Int) < (B : Int) := by omega
    obtain rfl : i = B := by omega
    go_upto_region 8 with (fail)
    go_wp2_with (go_at_call 126; refine (HWZ.out _ _ _ B1).mono ?_; rintro e W9 ⟨rfl, hW9⟩; replace B1 := B1.zw hW9; replace hb := hb.trans (hW9.mono hb.size))
    go_ret
    exact ⟨_, by rw [← hO.out]; rfl, by omega, by rw [← hO.out]; exact B1, hb⟩
end Go.Proofs.Ytelgefgphhebnaa
end
section
namespace Go.Proofs.Ytelgefgphhebnaa
open Go Go.RowKit
set_option linter.unusedVariables false
/-- a list whose block lies before top -/
def SlU (w : World) (base top : Nat) (e : TypeId) (size : Nat) (v : Value) (cs : List (List Value)) : Prop := SlT w base top e size v cs ∧ top ≤ w.heap.size
theorem SlL.toU {w : World} {base : Nat} {e : TypeId} {size : Nat} {v : Value} {cs : List (List Value)} (h : SlL w base e size v cs) : SlU w base w.heap.size e size v cs := ⟨h.top, Nat.le_refl _⟩
theorem SlU.lt {w : World} {base top : Nat} {e : TypeId} {size : Nat} {v : Value} {cs : List (List Value)} (h : SlU w base top e size v cs) : top ≤ w.heap.size := h.2
theorem SlU.alloc {w : World} {base top : Nat} {e : TypeId} {size : Nat} {v : Value} {cs : List (List Value)} (h : SlU w base top e size v cs) (o : Obj) : SlU (w.alloc o) base top e size v cs := ⟨h.1.alloc o, by have := h.2; simp; omega⟩
theorem SlU.drew {w : World} {base top : Nat} {e : TypeId} {size : Nat} {v : Value} {cs : List (List Value)} (h : SlU w base top e size v cs) : SlU w.drew base top e size v cs := ⟨h.1.drew, h.2⟩
theorem SlU.below {w w' : World} {base top : Nat} {e : TypeId} {size : Nat} {v : Value} {cs : List (List Value)} (h : SlU w base top e size v cs) (hb : Below w.heap.size w w') (_ : top ≤ w.heap.size) : SlU w' base top e size v cs := ⟨h.1.below hb h.1.lt, Nat.le_trans h.2 hb.size⟩
theorem SlU.zw {w w' : World} {base top : Nat} {e : TypeId} {size : Nat} {v : Value} {cs : List (List Value)} (h : SlU w base top e size v cs) (hb : Below w.heap.size w w') : SlU w' base top e size v cs := SlU.below h hb (SlU.lt h)
theorem SlU.rowOther {w : World} {base top : Nat} {e : TypeId} {size : Nat} {v : Value} {cs : List (List Value)} (h : SlU w base top e size v cs) {k : Nat} {xs : Array Value} (hk : top ≤ k) : SlU (w.setRow k xs) base top e size v cs := ⟨h.1.rowOther (.inr hk), by have := h.2; simpa [World.setRow] using this⟩
theorem SlU.setOther {w : World} {base top : Nat} {e : TypeId} {size : Nat} {v x : Value} {cs : List (List Value)} (h : SlU w base top e size v cs) {a : Addr} (ha : top ≤ a.block) : SlU (w.setCell a x) base top e size v cs := ⟨h.1.setOther (.inr ha), by have := h.2; simpa using this⟩

end Go.Proofs.Ytelgefgphhebnaa
end
section
namespace Go.Proofs.Ytelgefgphhebnaa
set_option linter.unusedVariables false
/-- numbers modulo p at all places, and 0 from 64 on -/
def cln (p : Nat) (f : Nat → Nat) : Prop := (∀ k, f k < p) ∧ ∀ k, 64 ≤ k → f k = 0
/-- v, less the multiple of w that leaves 0 at the lead of w -/
def clr (p : Nat) (v w : Nat → Nat) : Nat → Nat := addK p v w (-(v (deg w).toNat : Int))
theorem clr_at (p : Nat) {v w : Nat → Nat} {t : Nat} (h : deg w = (t : Int)) (k : Nat) : clr p v w k = (((v k : Int) - (v t : Int) * (w k : Int)) % (p : Int)).toNat := by
 unfold clr addK
 rw [h, Int.toNat_natCast, Int.neg_mul, ← Int.sub_eq_add_neg]
theorem clr_cast {p : Nat} (hp : 0 < p) {v w : Nat → Nat} {t : Nat} (h : deg w = (t : Int)) (k : Nat) : ((clr p v w k : Nat) : Int) = ((v k : Int) - (v t : Int) * (w k : Int)) % (p : Int) := by
 rw [clr_at p h k, Int.toNat_of_nonneg (Int.emod_nonneg _ (by omega))]
theorem clr_cln {p : Nat} (hp : 0 < p) {v w : Nat → Nat} (hv : ∀ k, 64 ≤ k → v k = 0) (hw : cln p w) : cln p (clr p v w) := by
 refine ⟨fun k => ?_, fun k hk => ?_⟩
 · unfold clr addK
   have h1 := Int.emod_lt_of_pos ((v k : Int) + -(v (deg w).toNat : Int) * (w k : Int)) (show (0 : Int) < (p : Int) by omega)
   have h2 := Int.emod_nonneg ((v k : Int) + -(v (deg w).toNat : Int) * (w k : Int)) (show (p : Int) ≠ 0 by omega)
   omega
 · unfold clr addK
   rw [hv k hk, hw.2 k hk]
   simp
/-- the degrees s, the rows D of them -/
def Sy (p d : Nat) (s : List Nat) (D : Nat → Nat → Nat) : Prop := s.Nodup ∧ ∀ t, t ∈ s → t < d ∧ deg (D t) = (t : Int) ∧ cln p (D t) ∧ D t t = 1 ∧ ∀ u, u ∈ s → u ≠ t → D t u = 0
/-- the rows behind a new one -/
def nwD (p n : Nat) (x : Nat → Nat) (D : Nat → Nat → Nat) : Nat → Nat → Nat := fun t => if t = n then x else clr p (D t) x
theorem Sy.step {p d n : Nat} (hp : 2 ≤ p) {s : List Nat} {D : Nat → Nat → Nat} (h : Sy p d s D) {x : Nat → Nat} (hx : cln p x) (hd : deg x = (n : Int)) (hn : n < d) (hd4 : d ≤ 64) (h1 : x n = 1) (h0 : ∀ t, t ∈ s → x t = 0) : n ∉ s ∧ Sy p d (s ++ [n]) (nwD p n x D) := by
 have hns : n ∉ s := fun hs => by have := h0 n hs; omega
 refine ⟨hns, ?_, ?_⟩
 · rw [List.nodup_append]
   refine ⟨h.1, by simp, ?_⟩
   intro a ha b hb e
   rw [List.mem_singleton] at hb
   subst e; subst hb
   exact hns ha
 · intro t ht
   by_cases e : t = n
   · subst e
     unfold nwD
     rw [if_pos rfl]
     refine ⟨hn, hd, hx, h1, fun u hu hut => ?_⟩
     rcases List.mem_append.1 hu with hu | hu
     · exact h0 u hu
     · rw [List.mem_singleton] at hu; exact absurd hu hut
   · have ht2 : t ∈ s := by
      rcases List.mem_append.1 ht with ht | ht
      · exact ht
      · rw [List.mem_singleton] at ht; exact absurd ht e
     obtain ⟨a1, a2, a3, a4, a5⟩ := h.2 t ht2
     have key : ∀ k, ((clr p (D t) x k : Nat) : Int) = ((D t k : Int) - (D t n : Int) * (x k : Int)) % (p : Int) := fun k => clr_cast (by omega) hd k
     have own : ∀ k, (x k = 0 ∨ D t n = 0) → clr p (D t) x k = D t k := by
      intro k hk
      have h3 := key k
      have h4 : (D t n : Int) * (x k : Int) = 0 := by
       rcases hk with hk | hk
       · rw [hk]; simp
       · rw [hk]; simp
      rw [h4, Int.sub_zero, Int.emod_eq_of_lt (by omega) (by have := a3.1 k; omega)] at h3
      exact Int.ofNat.inj h3
     unfold nwD
     rw [if_neg e]
     refine ⟨a1, ?_, clr_cln (by omega) a3.2 hx, ?_, ?_⟩
     · -- the degree stays
       obtain ⟨b1, b2, b3⟩ := deg_top a2
       obtain ⟨c1, c2, c3⟩ := deg_top hd
       have ht1 : clr p (D t) x t = D t t := own t (.inl (h0 t ht2))
       have hz : ∀ k, t < k → k < 64 → clr p (D t) x k = 0 := by
        intro k hk1 hk2
        by_cases hkn : n < k
        · rw [own k (.inl (c3 k hkn hk2))]; exact b3 k hk1 hk2
        · by_cases htn : t < n
          · rw [own k (.inr (b3 n htn (by omega)))]; exact b3 k hk1 hk2
          · exfalso; omega
       have hle : deg (clr p (D t) x) ≤ (t : Int) := deg_le (by omega) (fun k hk1 hk2 => hz k (by omega) hk2)
       rcases deg_spec (clr p (D t) x) with ⟨_, hall⟩ | ⟨e1, e2, e3, e4, e5⟩
       · exact absurd (hall t b1) (by rw [ht1, a4]; decide)
       · rw [e3] at hle ⊢
         by_cases he : e1 < t
         · exact absurd (e5 t he b1) (by rw [ht1, a4]; decide)
         · omega
     · rw [own t (.inl (h0 t ht2))]; exact a4
     · intro u hu hut
       rcases List.mem_append.1 hu with hu | hu
       · rw [own u (.inl (h0 u hu))]; exact a5 u hu hut
       · rw [List.mem_singleton] at hu
         subst hu
         have h3 := key u
         rw [h1, Int.natCast_one, Int.mul_one, Int.sub_self] at h3
         simpa using h3
end Go.Proofs.Ytelgefgphhebnaa
end
section
namespace Go.Proofs.Ytelgefgphhebnaa
open Go Go.RowKit
set_option linter.unusedVariables false
set_option linter.unusedSimpArgs false
theorem bl_one64 (f : Nat → Nat) : ∀ u ∈ bl 64 f, u.oneCell' = true := fun u hu => by
 unfold bl at hu
 obtain ⟨i, _, rfl⟩ := List.mem_map.1 hu
 rfl
attribute [local irreducible] deg clr cln
end Go.Proofs.Ytelgefgphhebnaa
end
section
namespace Go.Proofs.Ytelgefgphhebnaa
open Go Go.RowKit
set_option linter.unusedVariables false
set_option linter.unusedSimpArgs false
theorem c7_fld {p : Int} {Va Ua : List (Nat → Nat)} (h : c7 p Va Ua = 0) : ∃ n : Nat, p = (n : Int) ∧ (n = 2 ∨ n = 3 ∨ n = 5 ∨ n = 7) ∧ (∀ x, x ∈ Va → ∀ k, k < 64 → x k < n) ∧ (∀ x, x ∈ Ua → ∀ k, k < 64 → x k < n) ∧ Va.length ≤ 7 ∧ Ua.length ≤ 7 := by
 obtain ⟨h1, h2, h3, h4⟩ := c7_zero h
 obtain ⟨a1, a2⟩ := codeL_zero h1
 obtain ⟨_, b2⟩ := codeL_zero h2
 obtain ⟨n, hn, _, _⟩ := okP_nat a1
 refine ⟨n, hn, ?_, fun x hx k hk => ?_, fun x hx k hk => ?_, h3, h4⟩
 · have := okP_cases a1; omega
 · have := okA_lt (a2 x hx) hk; omega
 · have := okA_lt (b2 x hx) hk; omega
/-- the sum of two actions -/
def acR (p : Nat) (Va Ua : List (Nat → Nat)) : Nat → Nat → Nat := adT p (zrow Va) (zrow Ua) Ua.length
def acM (Va Ua : List (Nat → Nat)) : Nat := max Va.length Ua.length
def acL (p : Nat) (Va Ua : List (Nat → Nat)) : List (Nat → Nat) := (List.range (skN (acR p Va Ua) (acM Va Ua) + 1).toNat).map (acR p Va Ua)
noncomputable def aaV (p : Int) (Va Ua : List (Nat → Nat)) : List (Nat → Nat) × Int := if c7 p Va Ua = 0 then (acL p.toNat Va Ua, 0) else ([], c7 p Va Ua)
theorem aaV_0 {n : Nat} {Va Ua : List (Nat → Nat)} (h : c7 (n : Int) Va Ua = 0) : aaV (n : Int) Va Ua = (acL n Va Ua, 0) := by unfold aaV; rw [if_pos h, Int.toNat_natCast]
theorem aaV_n {p : Int} {Va Ua : List (Nat → Nat)} (h : c7 p Va Ua ≠ 0) : aaV p Va Ua = ([], c7 p Va Ua) := by unfold aaV; rw [if_neg h]
theorem acL_len (p : Nat) (Va Ua : List (Nat → Nat)) : (acL p Va Ua).length ≤ acM Va Ua := by
 unfold acL; rw [List.length_map, List.length_range]
 have := (skN_bounds (acR p Va Ua) (acM Va Ua)).2
 omega
theorem acM_7 {Va Ua : List (Nat → Nat)} (h1 : Va.length ≤ 7) (h2 : Ua.length ≤ 7) : acM Va Ua ≤ 7 := by unfold acM; omega
theorem aaV_len (p : Int) (Va Ua : List (Nat → Nat)) : (aaV p Va Ua).1.length ≤ 7 := by
 by_cases h : c7 p Va Ua = 0
 · obtain ⟨n, rfl, _, _, _, l1, l2⟩ := c7_fld h
   rw [aaV_0 h]
   exact Nat.le_trans (acL_len n Va Ua) (acM_7 l1 l2)
 · rw [aaV_n h]; exact Nat.zero_le _
theorem take_rows (R : Nat → Nat → Nat) {q M : Nat} (h : q ≤ M) : ((List.range M).map R).take q = (List.range q).map R := by
 rw [← List.map_take, List.take_range, Nat.min_eq_left h]
theorem acR_both {p : Nat} {Va Ua : List (Nat → Nat)} {j : Nat} (hj : j < Ua.length) : acR p Va Ua j = addK p (zrow Va j) (zrow Ua j) 1 := by unfold acR; rw [adT_at, if_pos hj]
theorem acR_left {p : Nat} {Va Ua : List (Nat → Nat)} {j : Nat} (hj : ¬ j < Ua.length) : acR p Va Ua j = zrow Va j := by unfold acR; rw [adT_at, if_neg hj]
theorem acL_trim {w : World} {base n c : Nat} {a : Option Addr} {Va Ua : List (Nat → Nat)} (h : SlL w base 28 64 (.slice a (acM Va Ua) c) (plR ((List.range (acM Va Ua)).map (acR n Va Ua)))) :
 SlL w base 28 64 (.slice a (skN (acR n Va Ua) (acM Va Ua) + 1).toNat c) (plR (acL n Va Ua)) := by
 have hq : (skN (acR n Va Ua) (acM Va Ua) + 1).toNat ≤ acM Va Ua := by have := (skN_bounds (acR n Va Ua) (acM Va Ua)).2; omega
 have := slL_take h (by simp) (q := (skN (acR n Va Ua) (acM Va Ua) + 1).toNat) (by rw [List.length_map, List.length_range]; exact hq)
 rw [take_rows _ hq] at this
 exact this
attribute [irreducible] aaV acL
attribute [local irreducible] deg addK okA acR acM
set_option maxRecDepth 100000 in
set_option maxHeartbeats 1600000 in
theorem impl_AddActions_any (p : Int) (Va Ua : List (Nat → Nat)) (hVb : ∀ f ∈ Va, byte f) (hUb : ∀ f ∈ Ua, byte f) (hVl : (Va.length : Int) ≤ 1048576) (hUl : (Ua.length : Int) ≤ 1048576) (bV bU qV qU : Nat) (w : World) (hV : SlL w qV 28 64 (.slice (some ⟨bV, 0, none⟩) Va.length Va.length) (plR Va)) (hU : SlL w qU 28 64 (.slice (some ⟨bU, 0, none⟩) Ua.length Ua.length) (plR Ua)) :
 Calls Try.prog 44 #[.int .i64 p, .slice (some ⟨bV, 0, none⟩) Va.length Va.length, .slice (some ⟨bU, 0, none⟩) Ua.length Ua.length] w fun e w' => ∃ v, e = .returned (.tuple #[v, .int .i64 (aaV p Va Ua).2]) ∧ SlL w' w.heap.size 28 64 v (plR (aaV p Va Ua).1) ∧ Below w.heap.size w w' := by
 have HCK := Lib.hid (checkActions_any p Va Ua hVb hUb hVl hUl _ _ _ _ qV qU w hV hU)
 obtain ⟨C, hC⟩ : ∃ C, c7 p Va Ua = C := ⟨_, rfl⟩
 rw [hC] at HCK
 by_cases h0 : C = 0
 · have hck := hC.trans h0
   subst h0
   clear hC
   obtain ⟨n, rfl, hpr, lV, lU, l1, l2⟩ := c7_fld hck
   have HV := Lib.hid (aaV_0 hck)
   have FV := slL_blk hV
   have FU := slL_blk hU
   have HSS := Lib.hid (fun W (hW : Below w.heap.size w W) => skewSumB_any n (zrow Va) (zrow Ua) Va.length Ua.length (acM Va Ua) bV bU W hpr (by unfold acM; omega) (by unfold acM; omega) (by have := acM_7 l1 l2; omega)
    (by unfold acM; split <;> omega) (zrow_all (by omega) lV) (zrow_all (by omega) lU) (fun r h => zrow_out h) (FV.zw hW) (FU.zw hW))
   have HM := Lib.hid (acM_7 l1 l2)
   have HL := Lib.hid (fun (W : World) (b c : Nat) (hb : b ≤ c) (h : Blk W c (acM Va Ua * 64) 28 (fl 64 (adT n (zrow Va) (zrow Ua) Ua.length))) => show SlL W b 28 64 (.slice (some ⟨c, 0, none⟩) (skN (adT n (zrow Va) (zrow Ua) Ua.length) (acM Va Ua) + 1).toNat (acM Va Ua)) (plR (acL n Va Ua)) from by
    have h2 : Blk W c (acM Va Ua * 64) 28 (fl 64 (acR n Va Ua)) := by unfold acR; exact h
    have h3 := acL_trim (slL_ofBlk h2 hb (by have := HM.out; unfold maxLen; omega))
    unfold acR at h3; exact h3)
   clear hck lV lU FV FU hV hU hVb hUb
   go_enter Try.func44, Try.ntmps44
   go_wp2_with (first | (go_at_call 82; refine HCK.out.mono ?_; rintro e wx ⟨rfl, hx⟩) | (refine zbo rfl 98 _ rfl (bdC (n : Int)).toArray (by rw [Array.toList_map]; exact built_bd (n : Int)) ?_) | (go_at_call 83; refine (HSS.out _ hx).mono ?_; rintro e wy ⟨c, rfl, hc, sc, hy⟩))
   go_ret2
   exact ⟨_, by rw [HV.out]; rfl, by rw [HV.out]; exact HL.out _ _ _ (Nat.le_trans hx.size hc) sc, hx.trans (hy.mono hx.size)⟩
 · have HV := Lib.hid (aaV_n (show c7 p Va Ua ≠ 0 by rw [hC]; exact h0))
   rw [hC] at HV
   have hC1 : (C != 0) = true := by simp [h0]
   clear hC hV hU
   go_enter Try.func44, Try.ntmps44
   go_wp2_with (go_at_call 82; refine HCK.out.mono ?_; rintro e wx ⟨rfl, hx⟩)
   go_ret2
   exact ⟨_, by rw [HV.out]; rfl, by rw [HV.out, plR_nil]; exact SlL.nil _ _ hx.size, hx⟩
set_option maxRecDepth 100000 in
set_option maxHeartbeats 1600000 in
theorem spec_AddActions_any (p : Int) (Va Ua : List (Nat → Nat)) (hVb : ∀ f ∈ Va, byte f) (hUb : ∀ f ∈ Ua, byte f) (hVl : (Va.length : Int) ≤ 1048576) (hUl : (Ua.length : Int) ≤ 1048576) (bV bU qV qU : Nat) (w : World) (hV : SlL w qV 28 64 (.slice (some ⟨bV, 0, none⟩) Va.length Va.length) (plR Va)) (hU : SlL w qU 28 64 (.slice (some ⟨bU, 0, none⟩) Ua.length Ua.length) (plR Ua)) :
 Calls Try.prog 43 #[.int .i64 p, .slice (some ⟨bV, 0, none⟩) Va.length Va.length, .slice (some ⟨bU, 0, none⟩) Ua.length Ua.length] w fun e w' => ∃ v, e = .returned (.tuple #[v, .int .i64 (aaV p Va Ua).2]) ∧ SlL w' w.heap.size 28 64 v (plR (aaV p Va Ua).1) ∧ Below w.heap.size w w' := by
 have HCK := Lib.hid (l04Lists_any p Va Ua hVb hUb hVl hUl _ _ _ _ qV qU w hV hU)
 obtain ⟨C, hC⟩ : ∃ C, c7 p Va Ua = C := ⟨_, rfl⟩
 rw [hC] at HCK
 by_cases h0 : C = 0
 · have hck := hC.trans h0
   subst h0
   clear hC
   obtain ⟨n, rfl, hpr, lV, lU, l1, l2⟩ := c7_fld hck
   have HV := Lib.hid (aaV_0 hck)
   have HAD := Lib.hid (fun f g W a b => l01Add_any n f g 1 W (by omega) (by omega) (by decide) (by decide) a b)
   have HGV := Lib.hid (fun i k hk => zrow_all (L := Va) (by omega) lV i k hk)
   have HGU := Lib.hid (fun i k hk => zrow_all (L := Ua) (by omega) lU i k hk)
   have HZB := Lib.hid (show ∀ k, k < 64 → (fun _ => 0 : Nat → Nat) k < n from fun k _ => by show 0 < n; omega)
   obtain ⟨M, hM⟩ : ∃ M, M = acM Va Ua := ⟨_, rfl⟩
   obtain ⟨R, hR⟩ : ∃ R, R = acR n Va Ua := ⟨_, rfl⟩
   have hM7 : M ≤ 7 := by rw [hM]; exact acM_7 l1 l2
   have HJ := Lib.hid (show ∀ j, j < M ↔ (j < Va.length ∨ j < Ua.length) from fun j => by rw [hM]; unfold acM; omega)
   have HRB := Lib.hid (show ∀ j, j < Ua.length → R j = addK n (zrow Va j) (zrow Ua j) 1 from fun j hj => by rw [hR]; exact acR_both hj)
   have HRL := Lib.hid (show ∀ j, ¬ j < Ua.length → R j = zrow Va j from fun j hj => by rw [hR]; exact acR_left hj)
   have HL := Lib.hid (show ∀ (W : World) (a : Option Addr) (c : Nat), SlL W w.heap.size 28 64 (.slice a M c) (plR ((List.range M).map R)) → SlL W w.heap.size 28 64 (.slice a (skN R M + 1).toNat c) (plR (acL n Va Ua)) from fun W a c h => by
    rw [hM, hR] at h ⊢; exact acL_trim h)
   clear hck lV lU hVb hUb hM hR
   go_enter Try.func43, Try.ntmps43
   go_wp2_with (go_at_call 79; refine HCK.out.mono ?_; rintro e wx ⟨rfl, hx⟩)
   have hb1 : Below w.heap.size w (wx.alloc (.cells #[] 28)) := hx.alloc hx.size _
   have hS0 : SlL (wx.alloc (.cells #[] 28)) w.heap.size 28 64 (.slice (some ⟨wx.heap.size, 0, none⟩) 0 0) (plR ((List.range 0).map R)) := by rw [List.range_zero, List.map_nil, plR_nil]; exact slL_empty wx 28 64 hx.size
   clear HCK
   go_loopw [9, 10] (fun s c wr => ∃ (j : Nat) (lst : Value), lst = s ∧ c = .int .i64 (j : Int) ∧ j ≤ M ∧ Below w.heap.size w wr ∧ SlL wr w.heap.size 28 64 lst (plR ((List.range j).map R))) (fun _ c _ => M - (intOf c).toNat)
   case atStart => exact ⟨0, _, rfl, rfl, Nat.zero_le _, hb1, hS0⟩
   case round =>
    clear hb1 hS0
    obtain ⟨j, lst, rfl, rfl, hjn, hb, hSl⟩ := hrel
    by_cases hj : j < M
    · by_cases cV : j < Va.length
      · by_cases cU : j < Ua.length
        · have hjV : (j : Int) < (Va.length : Int) := by omega
          have hjU : (j : Int) < (Ua.length : Int) := by omega
          obtain ⟨D, hD⟩ : ∃ D, D = (List.range j).map R := ⟨_, rfl⟩
          have hDl : D.length = j := by rw [hD]; simp
          have HD := Lib.hid (show (List.range (j + 1)).map R = D ++ [R j] by rw [hD, List.range_succ, List.map_append]; rfl)
          rw [← hD] at hSl
          clear hD
          obtain ⟨top, htop⟩ : ∃ t, t = wr.heap.size := ⟨_, rfl⟩
          have hUL := hSl.toU
          rw [← htop] at hUL
          have htl : w.heap.size ≤ top := by rw [htop]; exact hb.size
          clear htop hSl
          have hrowV := plR_at (zrow_get (L := Va) (i := j) (by omega))
          have HVW := hV.zw hb
          have hrowU := plR_at (zrow_get (L := Ua) (i := j) (by omega))
          go_upto_region 8 with (fail)
          have lt_hUL := hUL.lt
          go_upto_region 9 with (first | rw [← z64] | (refine wpList_store_blk rfl 28 (.tmp 11) (.tmp 32) rfl _ 64 (fun _ => 0) rfl rfl 28 _ ((Blk.new wr 64 28 (fun _ => 0))) Try.size28 ?_; try simp only [Act.put]))
          have lt_hUL := hUL.lt
          have lhb := hb.size
          obtain ⟨W1, hwo, hzQ⟩ : ∃ v : World, v = ((wr.alloc (.cells (zb 64 (fun _ => 0)) 28)).setRow (wr.heap.size) (zb 64 (fun _ => 0))) ∧ SlU v w.heap.size (top) 28 64 lst (plR D) ∧ Blk v (wr.heap.size) 64 28 (fun _ => 0) ∧ Below w.heap.size w v := ⟨_, rfl, ((hUL.alloc (.cells (zb 64 (fun _ => 0)) 28)).rowOther (by omega)), ((Blk.new wr 64 28 (fun _ => 0)).row (fun _ => 0)), (zr (hb.alloc (by have := hb.size; simp; omega) (.cells (zb 64 (fun _ => 0)) 28)) (by omega) _)⟩
          rw [← hwo]
          clear hwo hUL hb
          obtain ⟨hUL, B1, hb⟩ := hzQ
          obtain ⟨N1, hNN⟩ : ∃ n : Nat, n = wr.heap.size := ⟨_, rfl⟩
          rw [← hNN] at lt_hUL lhb B1 ⊢
          clear hNN
          have zN1_0 := lt_hUL
          have zN1 := lhb
          clear lt_hUL lhb
          try simp only [Act.put, pA, pB, pC]
          go_upto_region 10 with (fail)
          have lt_hUL := hUL.lt
          have lt_B1 := B1.lt
          go_upto_region 12 with (first | rw [← z64] | (refine wpList_load_mid rfl 28 (.tmp 39) rfl _ (j * 64) rfl (bl 64 (zrow Va j)) _ ((hV.zw hb).range hrowV) Try.underlying28 rfl (by rw [zl]; exact Try.size28) ?_) | (refine zsr (.tmp 11) (.tmp 40) (zrow Va j) B1 Try.size28 ?_; try simp only [Act.put]))
          obtain ⟨W2, hwo, hzQ⟩ : ∃ v : World, v = (W1.setRow (N1) (zb 64 (zrow Va j))) ∧ SlU v w.heap.size (top) 28 64 lst (plR D) ∧ Blk v (N1) 64 28 (zrow Va j) ∧ Below w.heap.size w v := ⟨_, rfl, (hUL.rowOther (by omega)), (B1.row (zrow Va j)), (zr hb (by omega) _)⟩
          rw [← hwo]
          clear hwo B1 hUL hb
          obtain ⟨hUL, B1, hb⟩ := hzQ
          try simp only [Act.put, pA, pB, pC]
          have HAC := Lib.hid (fun W => HAD.out (zrow Va j) (zrow Ua j) W (HGV.out j) (HGU.out j))
          have lt_hUL : (top) ≤ W2.heap.size := hUL.lt
          have lt_B1 : (N1) < W2.heap.size := B1.lt
          have hbase : w.heap.size ≤ W2.heap.size := hb.size
          refine zq Try.mixed (by kernel_rfl) (by kernel_rfl) (fun v => by (simp only [frL, Act.put, pA, pB, pC, Nat.reduceAdd, Nat.zero_add]; exact rfl))
           (fun L v W3 => Below w.heap.size w W3 ∧ W2.heap.size ≤ W3.heap.size ∧ SlU W3 w.heap.size (top) 28 64 lst (plR D) ∧ (∃ g, Blk W3 (N1) 64 28 (g)) ∧ (L 7 = false → Blk W3 (N1) 64 28 (zrow Va j)) ∧ (L 7 = true → Blk W3 (N1) 64 28 (addK n (zrow Va j) (zrow Ua j) 1)) ∧ VF L v [some (.int .i64 (n : Int)), some (.agg (zb 64 (zrow Va j))), some (.slice (some ⟨bU, 0, none⟩) Ua.length Ua.length), some (.int .i64 (j : Int)), some (.pointer (some ⟨bU, j * 64, none⟩)), some (.agg (zb 64 (zrow Ua j))), some (.agg (zb 64 (addK n (zrow Va j) (zrow Ua j) 1))), none]) ?_ ?_ ?_
          · intro v hv0
            exact ⟨hb.drew, Nat.le_refl _, hUL.drew, ⟨_, B1.drew⟩, (fun _ => B1.drew), (fun h => by cases h), VF.start⟩
          · refine (.cons rfl ?_ (.cons rfl ?_ (.cons rfl ?_ (.cons rfl ?_ (.cons rfl ?_ (.cons rfl ?_ (.cons rfl ?_ (.cons rfl ?_ (.nil _)))))))))
            all_goals intro L v W3 hd hn ⟨hB, hz, s0, x1, q1, n1, V⟩ K hK
            · go_wp2_with fail
              exact hK _ (.int .i64 (n : Int)) _ (by simp only [Act.put, pA, pB, pC ]) ⟨hB, hz, s0, x1, q1, n1, V.step 0 rfl⟩
            · have s1 := q1 (by
               cases hL : L 7 with
               | false => rfl
               | true => exact absurd rfl (hn 7 _ rfl hL ⟨1, .phase⟩ (by simp) rfl))
              refine zlc s1 Try.underlying28 Try.size28 ?_
              exact hK _ _ _ rfl ⟨hB, hz, s0, x1, q1, n1, V.step 1 rfl⟩
            · go_wp2_with fail
              exact hK _ (.slice (some ⟨bU, 0, none⟩) Ua.length Ua.length) _ (by simp only [Act.put, pA, pB, pC ]) ⟨hB, hz, s0, x1, q1, n1, V.step 2 rfl⟩
            · go_wp2_with fail
              exact hK _ (.int .i64 (j : Int)) _ (by simp only [Act.put, pA, pB, pC ]) ⟨hB, hz, s0, x1, q1, n1, V.step 3 rfl⟩
            · have e2 := V.at (zdq hd 2 rfl) rfl
              have e3 := V.at (zdq hd 3 rfl) rfl
              go_wp2_with fail
              exact hK _ (.pointer (some ⟨bU, j * 64, none⟩)) _ (by simp only [Act.put, pA, pB, pC, e2, e3]) ⟨hB, hz, s0, x1, q1, n1, V.step 4 rfl⟩
            · have e4 := V.at (zdq hd 4 rfl) rfl
              refine wp_load_mid 28 _ rfl _ (j * 64) e4 _ _ ((hU.below (by first | exact hB | exact hb.trans (hY.mono hb.size)) hU.lt).range hrowU) Try.underlying28 rfl (by rw [zl]; exact Try.size28) ?_
              exact hK _ _ _ rfl ⟨hB, hz, s0, x1, q1, n1, V.step 5 rfl⟩
            · have e0 := V.at (zdq hd 0 rfl) rfl
              have e1 := V.at (zdq hd 1 rfl) rfl
              have e5 := V.at (zdq hd 5 rfl) rfl
              go_wp2_with (go_at_call 80; refine (HAC.out _).mono ?_; rintro e wy ⟨rfl, hy⟩)
              exact hK _ (.agg (zb 64 (addK n (zrow Va j) (zrow Ua j) 1))) _ (by simp only [Act.put, pA, pB, pC, e0, e1, e5]) ⟨hB.trans (hy.mono hB.size), (Nat.le_trans hz hy.size), s0.zw hy, (let ⟨g, h⟩ := x1; ⟨g, h.zw hy⟩), (fun h => (q1 h).below hy (q1 h).lt), (fun h => (n1 h).below hy (n1 h).lt), V.step 6 rfl⟩
            · have e6 := V.at (zdq hd 6 rfl) rfl
              obtain ⟨gz, hk⟩ := x1
              refine zsb 28 _ _ rfl _ 64 (addK n (zrow Va j) (zrow Ua j) 1) rfl e6 28 gz hk Try.size28 ?_
              exact hK _ undef _ rfl ⟨zr hB (by omega) _, (by simpa [World.setRow] using hz), (s0).rowOther (by omega), ⟨_, hk.row _⟩, (fun h => absurd h (by simp [setL])), (fun _ => hk.row _), V.skip 7 rfl⟩
          · intro L v W3 hL ⟨hB, hz, s0, x1, q1, n1, V⟩
            have r1 := n1 (hL 7 (by decide))
            have e0 := V.at (hL 0 (by decide)) rfl
            have e1 := V.at (hL 1 (by decide)) rfl
            have e2 := V.at (hL 2 (by decide)) rfl
            have e3 := V.at (hL 3 (by decide)) rfl
            have e4 := V.at (hL 4 (by decide)) rfl
            have e5 := V.at (hL 5 (by decide)) rfl
            have e6 := V.at (hL 6 (by decide)) rfl
            clear hL x1 q1 n1 V
            simp only [Exit.then, e0, e1, e2, e3, e4, e5, e6]
            clear e0 e1 e2 e3 e4 e5 e6
            replace hUL := s0
            clear s0
            replace B1 := r1
            clear r1
            replace hb := hB
            clear hB
            clear hbase hz lt_hUL lt_B1
            go_upto_region 13 with (fail)
            have HE := Lib.hid (show R j = addK n (zrow Va j) (zrow Ua j) 1 by rw [HRB.out j (by omega)])
            have hS3 := hUL.1.1
            have hown := hS3.own
            go_wp2_with (first | (refine zla (.tmp 11) B1 Try.underlying28 Try.size28 ?_) | (refine wpList_build1 rfl 30 _ (bl 64 (addK n (zrow Va j) (zrow Ua j) 1)) 64 rfl 28 Try.underlying30 Try.elem28 (by decide) (by decide) (zl _ _) rfl ?_; intro wa hrow hba; have eS := hS3.zw hba; have ehb := hb.trans (hba.mono hb.size)) | (at_builtin; refine wpList_append_sl _ rfl _ _ 30 rfl w.heap.size 28 (.agg (zb 64 fun _ => 0)) 64 64 Try.underlying30 Try.infoPoly (by simp [Value.cells, bl]) (by decide) lst _ rfl eS W3.heap.size (bl 64 (addK n (zrow Va j) (zrow Ua j) 1)) rfl (zl _ _) hrow.range (bl_one64 (addK n (zrow Va j) (zrow Ua j) 1)) (by rw [plR_len, hDl]; unfold maxLen; omega) (by rw [plR_len, hDl]; omega) ?_; intro vp wp hSp hg1))
            have fhb := ehb.grown hg1 ehb.size (fun k e => hown k e)
            rw [← plR_snoc, ← HE.out, ← HD.out] at hSp
            go_roundw
            case rel => exact ⟨j + 1, vp, rfl, by go_num, by omega, fhb, hSp⟩
            case measure => simp [intOf] <;> omega
        · have hjV : (j : Int) < (Va.length : Int) := by omega
          have hjU : ¬ (j : Int) < (Ua.length : Int) := by omega
          obtain ⟨D, hD⟩ : ∃ D, D = (List.range j).map R := ⟨_, rfl⟩
          have hDl : D.length = j := by rw [hD]; simp
          have HD := Lib.hid (show (List.range (j + 1)).map R = D ++ [R j] by rw [hD, List.range_succ, List.map_append]; rfl)
          rw [← hD] at hSl
          clear hD
          obtain ⟨top, htop⟩ : ∃ t, t = wr.heap.size := ⟨_, rfl⟩
          have hUL := hSl.toU
          rw [← htop] at hUL
          have htl : w.heap.size ≤ top := by rw [htop]; exact hb.size
          clear htop hSl
          have hrowV := plR_at (zrow_get (L := Va) (i := j) (by omega))
          have HVW := hV.zw hb
          go_upto_region 8 with (fail)
          have lt_hUL := hUL.lt
          go_upto_region 9 with (first | rw [← z64] | (refine wpList_store_blk rfl 28 (.tmp 11) (.tmp 32) rfl _ 64 (fun _ => 0) rfl rfl 28 _ ((Blk.new wr 64 28 (fun _ => 0))) Try.size28 ?_; try simp only [Act.put]))
          have lt_hUL := hUL.lt
          have lhb := hb.size
          obtain ⟨W1, hwo, hzQ⟩ : ∃ v : World, v = ((wr.alloc (.cells (zb 64 (fun _ => 0)) 28)).setRow (wr.heap.size) (zb 64 (fun _ => 0))) ∧ SlU v w.heap.size (top) 28 64 lst (plR D) ∧ Blk v (wr.heap.size) 64 28 (fun _ => 0) ∧ Below w.heap.size w v := ⟨_, rfl, ((hUL.alloc (.cells (zb 64 (fun _ => 0)) 28)).rowOther (by omega)), ((Blk.new wr 64 28 (fun _ => 0)).row (fun _ => 0)), (zr (hb.alloc (by have := hb.size; simp; omega) (.cells (zb 64 (fun _ => 0)) 28)) (by omega) _)⟩
          rw [← hwo]
          clear hwo hUL hb
          obtain ⟨hUL, B1, hb⟩ := hzQ
          obtain ⟨N1, hNN⟩ : ∃ n : Nat, n = wr.heap.size := ⟨_, rfl⟩
          rw [← hNN] at lt_hUL lhb B1 ⊢
          clear hNN
          have zN1_0 := lt_hUL
          have zN1 := lhb
          clear lt_hUL lhb
          try simp only [Act.put, pA, pB, pC]
          go_upto_region 10 with (fail)
          have lt_hUL := hUL.lt
          have lt_B1 := B1.lt
          go_upto_region 13 with (first | rw [← z64] | (refine wpList_load_mid rfl 28 (.tmp 39) rfl _ (j * 64) rfl (bl 64 (zrow Va j)) _ ((hV.zw hb).range hrowV) Try.underlying28 rfl (by rw [zl]; exact Try.size28) ?_) | (refine zsr (.tmp 11) (.tmp 40) (zrow Va j) B1 Try.size28 ?_; try simp only [Act.put]))
          obtain ⟨W2, hwo, hzQ⟩ : ∃ v : World, v = (W1.setRow (N1) (zb 64 (zrow Va j))) ∧ SlU v w.heap.size (top) 28 64 lst (plR D) ∧ Blk v (N1) 64 28 (zrow Va j) ∧ Below w.heap.size w v := ⟨_, rfl, (hUL.rowOther (by omega)), (B1.row (zrow Va j)), (zr hb (by omega) _)⟩
          rw [← hwo]
          clear hwo B1 hUL hb
          obtain ⟨hUL, B1, hb⟩ := hzQ
          try simp only [Act.put, pA, pB, pC]
          have HE := Lib.hid (show R j = zrow Va j by exact HRL.out j (by omega))
          have hS3 := hUL.1.1
          have hown := hS3.own
          go_wp2_with (first | (refine zla (.tmp 11) B1 Try.underlying28 Try.size28 ?_) | (refine wpList_build1 rfl 30 _ (bl 64 (zrow Va j)) 64 rfl 28 Try.underlying30 Try.elem28 (by decide) (by decide) (zl _ _) rfl ?_; intro wa hrow hba; have eS := hS3.zw hba; have ehb := hb.trans (hba.mono hb.size)) | (at_builtin; refine wpList_append_sl _ rfl _ _ 30 rfl w.heap.size 28 (.agg (zb 64 fun _ => 0)) 64 64 Try.underlying30 Try.infoPoly (by simp [Value.cells, bl]) (by decide) lst _ rfl eS W2.heap.size (bl 64 (zrow Va j)) rfl (zl _ _) hrow.range (bl_one64 (zrow Va j)) (by rw [plR_len, hDl]; unfold maxLen; omega) (by rw [plR_len, hDl]; omega) ?_; intro vp wp hSp hg1))
          have fhb := ehb.grown hg1 ehb.size (fun k e => hown k e)
          rw [← plR_snoc, ← HE.out, ← HD.out] at hSp
          go_roundw
          case rel => exact ⟨j + 1, vp, rfl, by go_num, by omega, fhb, hSp⟩
          case measure => simp [intOf] <;> omega
      · have cU : j < Ua.length := by have := (HJ.out j).1 hj; omega
        have hjV : ¬ (j : Int) < (Va.length : Int) := by omega
        have hjU : (j : Int) < (Ua.length : Int) := by omega
        obtain ⟨D, hD⟩ : ∃ D, D = (List.range j).map R := ⟨_, rfl⟩
        have hDl : D.length = j := by rw [hD]; simp
        have HD := Lib.hid (show (List.range (j + 1)).map R = D ++ [R j] by rw [hD, List.range_succ, List.map_append]; rfl)
        rw [← hD] at hSl
        clear hD
        obtain ⟨top, htop⟩ : ∃ t, t = wr.heap.size := ⟨_, rfl⟩
        have hUL := hSl.toU
        rw [← htop] at hUL
        have htl : w.heap.size ≤ top := by rw [htop]; exact hb.size
        clear htop hSl
        have hrowU := plR_at (zrow_get (L := Ua) (i := j) (by omega))
        go_upto_region 8 with (fail)
        have lt_hUL := hUL.lt
        go_upto_region 9 with (first | rw [← z64] | (refine wpList_store_blk rfl 28 (.tmp 11) (.tmp 32) rfl _ 64 (fun _ => 0) rfl rfl 28 _ ((Blk.new wr 64 28 (fun _ => 0))) Try.size28 ?_; try simp only [Act.put]))
        have lt_hUL := hUL.lt
        have lhb := hb.size
        obtain ⟨W1, hwo, hzQ⟩ : ∃ v : World, v = ((wr.alloc (.cells (zb 64 (fun _ => 0)) 28)).setRow (wr.heap.size) (zb 64 (fun _ => 0))) ∧ SlU v w.heap.size (top) 28 64 lst (plR D) ∧ Blk v (wr.heap.size) 64 28 (fun _ => 0) ∧ Below w.heap.size w v := ⟨_, rfl, ((hUL.alloc (.cells (zb 64 (fun _ => 0)) 28)).rowOther (by omega)), ((Blk.new wr 64 28 (fun _ => 0)).row (fun _ => 0)), (zr (hb.alloc (by have := hb.size; simp; omega) (.cells (zb 64 (fun _ => 0)) 28)) (by omega) _)⟩
        rw [← hwo]
        clear hwo hUL hb
        obtain ⟨hUL, B1, hb⟩ := hzQ
        obtain ⟨N1, hNN⟩ : ∃ n : Nat, n = wr.heap.size := ⟨_, rfl⟩
        rw [← hNN] at lt_hUL lhb B1 ⊢
        clear hNN
        have zN1_0 := lt_hUL
        have zN1 := lhb
        clear lt_hUL lhb
        try simp only [Act.put, pA, pB, pC]
        go_upto_region 12 with (fail)
        have HAC := Lib.hid (fun W => HAD.out (fun _ => 0) (zrow Ua j) W HZB.out (HGU.out j))
        have lt_hUL : (top) ≤ W1.heap.size := hUL.lt
        have lt_B1 : (N1) < W1.heap.size := B1.lt
        have hbase : w.heap.size ≤ W1.heap.size := hb.size
        refine zq Try.mixed (by kernel_rfl) (by kernel_rfl) (fun v => by (simp only [frL, Act.put, pA, pB, pC, Nat.reduceAdd, Nat.zero_add]; exact rfl))
         (fun L v W2 => Below w.heap.size w W2 ∧ W1.heap.size ≤ W2.heap.size ∧ SlU W2 w.heap.size (top) 28 64 lst (plR D) ∧ (∃ g, Blk W2 (N1) 64 28 (g)) ∧ (L 7 = false → Blk W2 (N1) 64 28 (fun _ => 0)) ∧ (L 7 = true → Blk W2 (N1) 64 28 (addK n (fun _ => 0) (zrow Ua j) 1)) ∧ VF L v [some (.int .i64 (n : Int)), some (.agg (zb 64 (fun _ => 0))), some (.slice (some ⟨bU, 0, none⟩) Ua.length Ua.length), some (.int .i64 (j : Int)), some (.pointer (some ⟨bU, j * 64, none⟩)), some (.agg (zb 64 (zrow Ua j))), some (.agg (zb 64 (addK n (fun _ => 0) (zrow Ua j) 1))), none]) ?_ ?_ ?_
        · intro v hv0
          exact ⟨hb.drew, Nat.le_refl _, hUL.drew, ⟨_, B1.drew⟩, (fun _ => B1.drew), (fun h => by cases h), VF.start⟩
        · refine (.cons rfl ?_ (.cons rfl ?_ (.cons rfl ?_ (.cons rfl ?_ (.cons rfl ?_ (.cons rfl ?_ (.cons rfl ?_ (.cons rfl ?_ (.nil _)))))))))
          all_goals intro L v W2 hd hn ⟨hB, hz, s0, x1, q1, n1, V⟩ K hK
          · go_wp2_with fail
            exact hK _ (.int .i64 (n : Int)) _ (by simp only [Act.put, pA, pB, pC ]) ⟨hB, hz, s0, x1, q1, n1, V.step 0 rfl⟩
          · have s1 := q1 (by
             cases hL : L 7 with
             | false => rfl
             | true => exact absurd rfl (hn 7 _ rfl hL ⟨1, .phase⟩ (by simp) rfl))
            refine zlc s1 Try.underlying28 Try.size28 ?_
            exact hK _ _ _ rfl ⟨hB, hz, s0, x1, q1, n1, V.step 1 rfl⟩
          · go_wp2_with fail
            exact hK _ (.slice (some ⟨bU, 0, none⟩) Ua.length Ua.length) _ (by simp only [Act.put, pA, pB, pC ]) ⟨hB, hz, s0, x1, q1, n1, V.step 2 rfl⟩
          · go_wp2_with fail
            exact hK _ (.int .i64 (j : Int)) _ (by simp only [Act.put, pA, pB, pC ]) ⟨hB, hz, s0, x1, q1, n1, V.step 3 rfl⟩
          · have e2 := V.at (zdq hd 2 rfl) rfl
            have e3 := V.at (zdq hd 3 rfl) rfl
            go_wp2_with fail
            exact hK _ (.pointer (some ⟨bU, j * 64, none⟩)) _ (by simp only [Act.put, pA, pB, pC, e2, e3]) ⟨hB, hz, s0, x1, q1, n1, V.step 4 rfl⟩
          · have e4 := V.at (zdq hd 4 rfl) rfl
            refine wp_load_mid 28 _ rfl _ (j * 64) e4 _ _ ((hU.below (by first | exact hB | exact hb.trans (hY.mono hb.size)) hU.lt).range hrowU) Try.underlying28 rfl (by rw [zl]; exact Try.size28) ?_
            exact hK _ _ _ rfl ⟨hB, hz, s0, x1, q1, n1, V.step 5 rfl⟩
          · have e0 := V.at (zdq hd 0 rfl) rfl
            have e1 := V.at (zdq hd 1 rfl) rfl
            have e5 := V.at (zdq hd 5 rfl) rfl
            go_wp2_with (go_at_call 80; refine (HAC.out _).mono ?_; rintro e wy ⟨rfl, hy⟩)
            exact hK _ (.agg (zb 64 (addK n (fun _ => 0) (zrow Ua j) 1))) _ (by simp only [Act.put, pA, pB, pC, e0, e1, e5]) ⟨hB.trans (hy.mono hB.size), (Nat.le_trans hz hy.size), s0.zw hy, (let ⟨g, h⟩ := x1; ⟨g, h.zw hy⟩), (fun h => (q1 h).below hy (q1 h).lt), (fun h => (n1 h).below hy (n1 h).lt), V.step 6 rfl⟩
          · have e6 := V.at (zdq hd 6 rfl) rfl
            obtain ⟨gz, hk⟩ := x1
            refine zsb 28 _ _ rfl _ 64 (addK n (fun _ => 0) (zrow Ua j) 1) rfl e6 28 gz hk Try.size28 ?_
            exact hK _ undef _ rfl ⟨zr hB (by omega) _, (by simpa [World.setRow] using hz), (s0).rowOther (by omega), ⟨_, hk.row _⟩, (fun h => absurd h (by simp [setL])), (fun _ => hk.row _), V.skip 7 rfl⟩
        · intro L v W2 hL ⟨hB, hz, s0, x1, q1, n1, V⟩
          have r1 := n1 (hL 7 (by decide))
          have e0 := V.at (hL 0 (by decide)) rfl
          have e1 := V.at (hL 1 (by decide)) rfl
          have e2 := V.at (hL 2 (by decide)) rfl
          have e3 := V.at (hL 3 (by decide)) rfl
          have e4 := V.at (hL 4 (by decide)) rfl
          have e5 := V.at (hL 5 (by decide)) rfl
          have e6 := V.at (hL 6 (by decide)) rfl
          clear hL x1 q1 n1 V
          simp only [Exit.then, e0, e1, e2, e3, e4, e5, e6]
          clear e0 e1 e2 e3 e4 e5 e6
          replace hUL := s0
          clear s0
          replace B1 := r1
          clear r1
          replace hb := hB
          clear hB
          clear hbase hz lt_hUL lt_B1
          go_upto_region 13 with (fail)
          have HE := Lib.hid (show R j = addK n (fun _ => 0) (zrow Ua j) 1 by rw [HRB.out j (by omega), zrow_out (L := Va) (by omega)])
          have hS3 := hUL.1.1
          have hown := hS3.own
          go_wp2_with (first | (refine zla (.tmp 11) B1 Try.underlying28 Try.size28 ?_) | (refine wpList_build1 rfl 30 _ (bl 64 (addK n (fun _ => 0) (zrow Ua j) 1)) 64 rfl 28 Try.underlying30 Try.elem28 (by decide) (by decide) (zl _ _) rfl ?_; intro wa hrow hba; have eS := hS3.zw hba; have ehb := hb.trans (hba.mono hb.size)) | (at_builtin; refine wpList_append_sl _ rfl _ _ 30 rfl w.heap.size 28 (.agg (zb 64 fun _ => 0)) 64 64 Try.underlying30 Try.infoPoly (by simp [Value.cells, bl]) (by decide) lst _ rfl eS W2.heap.size (bl 64 (addK n (fun _ => 0) (zrow Ua j) 1)) rfl (zl _ _) hrow.range (bl_one64 (addK n (fun _ => 0) (zrow Ua j) 1)) (by rw [plR_len, hDl]; unfold maxLen; omega) (by rw [plR_len, hDl]; omega) ?_; intro vp wp hSp hg1))
          have fhb := ehb.grown hg1 ehb.size (fun k e => hown k e)
          rw [← plR_snoc, ← HE.out, ← HD.out] at hSp
          go_roundw
          case rel => exact ⟨j + 1, vp, rfl, by go_num, by omega, fhb, hSp⟩
          case measure => simp [intOf] <;> omega
    · obtain rfl : j = M := by omega
      have hjV : ¬ (j : Int) < (Va.length : Int) := by have := (HJ.out j).2; omega
      have hjU : ¬ (j : Int) < (Ua.length : Int) := by have := (HJ.out j).2; omega
      obtain ⟨a1, c1, rfl⟩ := hSl.form
      rw [plR_len, List.length_map, List.length_range] at hSl ⊢
      have HTR := Lib.hid (l04Trim_any a1 j c1 w.heap.size R wr hSl (by omega))
      go_wp2_with (first | (go_at_call 81; refine HTR.out.mono ?_; rintro e W7 ⟨rfl, h7⟩))
      go_ret2
      exact ⟨_, by rw [HV.out]; rfl, by rw [HV.out]; exact HL.out _ _ _ (hSl.zw h7), hb.trans (h7.mono hb.size)⟩
 · have HV := Lib.hid (aaV_n (show c7 p Va Ua ≠ 0 by rw [hC]; exact h0))
   rw [hC] at HV
   have hC1 : (C != 0) = true := by simp [h0]
   clear hC hV hU
   go_enter Try.func43, Try.ntmps43
   go_wp2_with (go_at_call 79; refine HCK.out.mono ?_; rintro e wx ⟨rfl, hx⟩)
   go_ret2
   exact ⟨_, by rw [HV.out]; rfl, by rw [HV.out, plR_nil]; exact SlL.nil _ _ hx.size, hx⟩
end Go.Proofs.Ytelgefgphhebnaa
end
section
namespace Go.Proofs.Ytelgefgphhebnaa
open Go Go.RowKit
set_option linter.unusedVariables false
set_option linter.unusedSimpArgs false
/-- a list's own cells, whatever they hold -/
def OwP (w : World) (base : Nat) (v : Value) (n : Nat) : Prop := ∃ ys, w.ownsRow base 28 64 v n ys
theorem SlL.ownP {w : World} {base n : Nat} {v : Value} {cs : List (List Value)} (h : SlL w base 28 64 v cs) (hn : cs.length = n) : OwP w base v n := by
 delta SlL at h
 exact ⟨cs.flatten, hn ▸ h.2.2⟩
theorem OwP.has {w : World} {base n cap : Nat} {a : Option Addr} (h : OwP w base (.slice a n cap) n) (hn : 0 < n) : ∃ g, a = Option.some ⟨g, 0, none⟩ := by
 obtain ⟨ys, h1⟩ := h
 rcases h1.2 with ⟨h2, h3⟩ | ⟨g, c, cur, h2, _⟩
 · omega
 · injection h2 with h2; exact ⟨g, h2⟩
theorem OwP.step {w : World} {base n g cap : Nat} (h : OwP w base (.slice (some ⟨g, 0, none⟩) n cap) n) {q : Nat} {x : Value} (hq : q < n * 64) :
 (∃ u, w.cell? ⟨g, q, none⟩ = Option.some u) ∧ w.frozen? ⟨g, q, none⟩ = false ∧ OwP (w.setCell ⟨g, q, none⟩ x) base (.slice (some ⟨g, 0, none⟩) n cap) n ∧ w.grownBy (w.setCell ⟨g, q, none⟩ x) (Option.some g) := by
 obtain ⟨ys, h1⟩ := h
 have hl : q < ys.length := by rw [h1.1]; exact hq
 obtain ⟨s1, s2⟩ := h1.stored q x
 exact ⟨⟨ys[q], by rw [h1.cellAt q hq]; exact List.getElem?_eq_getElem hl⟩, h1.frozenAt q, ⟨_, s1⟩, s2⟩
theorem OwP.kept {w w' : World} {base n : Nat} {v : Value} {row : Option Nat} (h : OwP w base v n) (hg : w.grownBy w' row) (hr : v.ownBlock = Option.none ∨ v.ownBlock ≠ row) : OwP w' base v n := by
 obtain ⟨ys, h1⟩ := h
 exact ⟨ys, h1.kept hg hr⟩
attribute [local irreducible] OwP
set_option maxRecDepth 100000 in
set_option maxHeartbeats 3200000 in
theorem markPolyS_from (n : Nat) (a0 : Option Addr) (cap base : Nat) (w : World) (k0 : Nat) (hk0 : k0 ≤ 1073741824) (h : OwP w base (.slice a0 n cap) n) (hn : n ≤ 1048576) :
 Calls Try.prog 21 #[.slice a0 n cap, .int .i64 (k0 : Int)] w fun e w' => e = .returned (.int .i64 ((k0 + 64 * n : Nat) : Int)) ∧ w.grownBy w' (Value.slice a0 n cap).ownBlock := by
 go_enter Try.func21, Try.ntmps21
 go_wp2_with fail
 go_loopw [1, 5] (fun x i wr => ∃ j X : Nat, x = .int .i64 (X : Int) ∧ X = k0 + 64 * j ∧ i = .int .i64 (j : Int) ∧ j ≤ n ∧ OwP wr base (.slice a0 n cap) n ∧ w.grownBy wr (Value.slice a0 n cap).ownBlock) (fun _ i _ => n - (intOf i).toNat)
 case atStart => exact ⟨0, k0, rfl, rfl, rfl, Nat.zero_le _, h, grown_refl _ _⟩
 case round =>
  clear h; obtain ⟨j, X, rfl, hX, rfl, hjn, hM, hG⟩ := hrel
  by_cases hj : j < n
  · have hjl : (j : Int) < (n : Int) := by omega
    obtain ⟨g, rfl⟩ := hM.has (by omega)
    have hX2 : X ≤ 1140850688 := by omega
    have HX := Lib.hid hX
    clear hX
    go_wp2_with fail
    go_loopw [1, 6] (fun x i wr2 => ∃ k X : Nat, x = .int .i64 (X : Int) ∧ X = k0 + 64 * j + k ∧ i = .int .i64 (k : Int) ∧ k ≤ 64 ∧ OwP wr2 base (.slice (some ⟨g, 0, none⟩) n cap) n ∧ w.grownBy wr2 (some g)) (fun _ i _ => 64 - (intOf i).toNat)
    case atStart => exact ⟨0, X, rfl, by have := HX.out; omega, rfl, by omega, hM, hG⟩
    case round =>
     clear hM hG HX; obtain ⟨k, X, rfl, hX, rfl, hk, hM, hG⟩ := hrel
     have hX2 : X ≤ 1140850752 := by omega
     have HX := Lib.hid hX
     clear hX
     have HQ := Lib.hid (show j * 64 + k = 64 * j + k by omega)
     by_cases hlt : k < 64
     · obtain ⟨⟨u, hc⟩, hz, hM2, hG2⟩ := hM.step (q := 64 * j + k) (x := .int .u8 ((X : Int) % 256)) (by omega)
       rw [← HQ.out] at hM2 hG2
       rw [← HQ.out] at hc hz
       have HM2 := Lib.hid hM2
       have HG2 := Lib.hid (grown_trans hG hG2)
       clear hM2 hG2 hM hG
       go_wp2_with fail
       go_roundw
       case rel => exact ⟨k + 1, X + 1, by go_num, by have := HX.out; omega, by go_num, by omega, HM2.out, HG2.out⟩
       case measure => simp [intOf] <;> omega
     · have e : k = 64 := by omega
       subst e
       have HM2 := Lib.hid hM
       have HG2 := Lib.hid hG
       clear hM hG
       go_wp2_with fail
       go_roundw
       case rel => exact ⟨j + 1, X, rfl, by have := HX.out; omega, by go_num, by omega, HM2.out, HG2.out⟩
       case measure => simp [intOf] <;> omega
  · have hjl : ¬ (j : Int) < (n : Int) := by omega
    have e : j = n := by omega
    subst e
    go_wp2_with fail
    go_ret
    exact ⟨ret_int (by push_cast; rfl), hG⟩
end Go.Proofs.Ytelgefgphhebnaa
end
section
namespace Go.Proofs.Ytelgefgphhebnaa
open Go Go.RowKit
set_option linter.unusedVariables false
set_option linter.unusedSimpArgs false
set_option maxRecDepth 100000 in
set_option maxHeartbeats 3200000 in
theorem FnExactAddActions_walkA (w : World) (p : Int) (aVa : Option Addr) (nVa cVa : Nat) (XVa : Nat → Nat → Nat) (xVa : ∀ i, byte (XVa i)) (wVa : nVa ≤ maxLen) (aUb : Option Addr) (nUb cUb : Nat) (XUb : Nat → Nat → Nat) (xUb : ∀ i, byte (XUb i)) (wUb : nUb ≤ maxLen) (lVa : Lst w aVa nVa XVa) (lUb : Lst w aUb nUb XUb) :
 Calls Try.prog 11 #[.int .i64 p, .slice aVa nVa cVa, .slice aUb nUb cUb] w fun e w' => e = .returned (.bool true) ∧ Below w.heap.size w w' := by
 go_enter Try.func11, Try.ntmps11
 go_upto_region 1 with (fail)
 have hb : Below w.heap.size w w := Below.refl _ _
 by_cases hs0 : (nVa : Int) ≤ 1048576
 · have hneg0 : ¬ (1048576 - (nVa : Int) < 0) := by omega
   go_upto_region 5 with (first | (go_at_call 14; refine (szPolyS_at aVa nVa cVa (1048576) _ wVa (by omega) (by omega)).mono ?_; rintro e wS ⟨rfl, hq⟩; have hq2 : w = wS := (by first | exact hq | exact hq.symm); clear hq; subst hq2; rw [if_pos hs0]))
   obtain ⟨lf0, hlf0⟩ : ∃ z : Int, z = 1048576 - (nVa : Int) := ⟨_, rfl⟩
   rw [← hlf0]
   have hlb0 : 0 ≤ lf0 := by omega
   have hlc0 : lf0 ≤ 1048576 := by omega
   have HLF0 := Lib.hid hlf0
   clear hlf0 hneg0
   by_cases hs1 : (nUb : Int) ≤ lf0
   · have hneg1 : ¬ (lf0 - (nUb : Int) < 0) := by omega
     go_upto_region 8 with (first | (go_at_call 14; refine (szPolyS_at aUb nUb cUb (lf0) _ wUb (by omega) (by omega)).mono ?_; rintro e wS ⟨rfl, hq⟩; have hq2 : w = wS := (by first | exact hq | exact hq.symm); clear hq; subst hq2; rw [if_pos hs1]))
     have hm0 : (nVa : Int) ≤ 1048576 := by omega
     have hm1 : (nUb : Int) ≤ 1048576 := by omega
     obtain ⟨LVa, hLVa⟩ : ∃ L : List (Nat → Nat), L = (List.range nVa).map XVa := ⟨_, rfl⟩
     have hlVa : LVa.length = nVa := by rw [hLVa]; simp
     have hbyVa : ∀ z, z ∈ LVa → byte z := fun z hz => by rw [hLVa] at hz; obtain ⟨i, _, rfl⟩ := List.mem_map.1 hz; exact xVa i
     have hlenVa : (LVa.length : Int) ≤ 1048576 := by omega
     have HTOVa := Lib.hid (fun W (hW : Below w.heap.size w W) => hLVa ▸ toPolyS_any aVa nVa cVa XVa xVa W (lVa.below hW) hm0)
     have HEQVa := Lib.hid (fun b b2 q q2 W h1 h2 => show Calls Try.prog 20 #[.slice (some ⟨b, 0, none⟩) nVa nVa, .slice (some ⟨b2, 0, none⟩) nVa nVa] W _ from hlVa ▸ eqPolyS_big LVa (some ⟨b, 0, none⟩) (some ⟨b2, 0, none⟩) LVa.length LVa.length q q2 W (hlVa ▸ h1) (hlVa ▸ h2) (by omega))
     clear hLVa
     obtain ⟨LUb, hLUb⟩ : ∃ L : List (Nat → Nat), L = (List.range nUb).map XUb := ⟨_, rfl⟩
     have hlUb : LUb.length = nUb := by rw [hLUb]; simp
     have hbyUb : ∀ z, z ∈ LUb → byte z := fun z hz => by rw [hLUb] at hz; obtain ⟨i, _, rfl⟩ := List.mem_map.1 hz; exact xUb i
     have hlenUb : (LUb.length : Int) ≤ 1048576 := by omega
     have HTOUb := Lib.hid (fun W (hW : Below w.heap.size w W) => hLUb ▸ toPolyS_any aUb nUb cUb XUb xUb W (lUb.below hW) hm1)
     have HEQUb := Lib.hid (fun b b2 q q2 W h1 h2 => show Calls Try.prog 20 #[.slice (some ⟨b, 0, none⟩) nUb nUb, .slice (some ⟨b2, 0, none⟩) nUb nUb] W _ from hlUb ▸ eqPolyS_big LUb (some ⟨b, 0, none⟩) (some ⟨b2, 0, none⟩) LUb.length LUb.length q q2 W (hlUb ▸ h1) (hlUb ▸ h2) (by omega))
     clear hLUb
     have HSP := Lib.hid (fun (W : World) (bVa : Nat) (qVa : Nat) (sVa : SlL W qVa 28 64 (.slice (some ⟨bVa, 0, none⟩) nVa nVa) (plR LVa)) (bUb : Nat) (qUb : Nat) (sUb : SlL W qUb 28 64 (.slice (some ⟨bUb, 0, none⟩) nUb nUb) (plR LUb)) => show Calls Try.prog 43 #[.int .i64 p, .slice (some ⟨bVa, 0, none⟩) nVa nVa, .slice (some ⟨bUb, 0, none⟩) nUb nUb] W _ from by
      have := spec_AddActions_any p LVa LUb hbyVa hbyUb hlenVa hlenUb bVa bUb qVa qUb W (hlVa ▸ sVa) (hlUb ▸ sUb)
      rw [hlVa, hlUb] at this
      exact this)
     have HIM := Lib.hid (fun (W : World) (bVa : Nat) (qVa : Nat) (sVa : SlL W qVa 28 64 (.slice (some ⟨bVa, 0, none⟩) nVa nVa) (plR LVa)) (bUb : Nat) (qUb : Nat) (sUb : SlL W qUb 28 64 (.slice (some ⟨bUb, 0, none⟩) nUb nUb) (plR LUb)) => show Calls Try.prog 44 #[.int .i64 p, .slice (some ⟨bVa, 0, none⟩) nVa nVa, .slice (some ⟨bUb, 0, none⟩) nUb nUb] W _ from by
      have := impl_AddActions_any p LVa LUb hbyVa hbyUb hlenVa hlenUb bVa bUb qVa qUb W (hlVa ▸ sVa) (hlUb ▸ sUb)
      rw [hlVa, hlUb] at this
      exact this)
     clear hbyVa hbyUb
     have HRL := Lib.hid (show ((aaV p LVa LUb).1).length ≤ 1048576 from Nat.le_trans (aaV_len p LVa LUb) (by decide))
     have hRL4 := aaV_len p LVa LUb
     obtain ⟨K, hK⟩ : ∃ K, K = 1 + 64 * ((aaV p LVa LUb).1).length := ⟨_, rfl⟩
     have hK1 : (K : Int) ≤ 1000000 := by omega
     have hK2 : ((K : Int) != (K : Int)) = false := by simp
     have hK3 : ¬ (K : Int) < 0 := by omega
     have HK := Lib.hid hK
     clear hK hRL4
     have hne0 : (((aaV p LVa LUb).2) != ((aaV p LVa LUb).2)) = false := by simp
     go_upto_region 9 with (first | (go_at_call 17; with_reducible refine (HTOVa.out _ hb).mono ?_; rintro e W2 ⟨bVa, rfl, hsVa, _, h2⟩; replace hb := hb.trans (h2.mono hb.size)) | (go_at_call 17; with_reducible refine (HTOUb.out _ hb).mono ?_; rintro e W2 ⟨bUb, rfl, hsUb, _, h2⟩; replace hsVa := hsVa.zw h2; replace hb := hb.trans (h2.mono hb.size)) | (go_at_call 43; refine (HSP.out _ _ _ hsVa _ _ hsUb).mono ?_; rintro e W3 ⟨v1, rfl, S1, h2⟩; replace hb := hb.trans (h2.mono hb.size)))
     clear hsVa hsUb HSP
     obtain ⟨a1, cap1, rfl⟩ := S1.form
     rw [plR_len] at S1 ⊢
     have T1 := S1.top
     obtain ⟨top1, ht1⟩ : ∃ b, b = W3.heap.size := ⟨_, rfl⟩
     rw [← ht1] at T1
     have hz1 := Nat.le_of_eq ht1
     have hw1 := hb.size
     rw [← ht1] at hw1
     clear ht1 S1
     go_upto_region 10 with (first | (go_at_call 17; with_reducible refine (HTOVa.out _ hb).mono ?_; rintro e W2 ⟨bx, rfl, hsx, hbl, h2⟩; replace T1 := T1.zw h2; replace hb := hb.trans (h2.mono hb.size)))
     have hbx := hsx.len.2.1
     have hbt : top1 ≤ bx := Nat.le_trans hz1 hbx
     have hbw : w.heap.size ≤ bx := Nat.le_trans hw1 hbt
     obtain ⟨qx, hqx⟩ : ∃ q, q = W3.heap.size := ⟨_, rfl⟩
     rw [← hqx] at hsx
     clear hqx hbx hz1 hw1
     go_upto_region 11 with (first | (go_at_call 17; with_reducible refine (HTOUb.out _ hb).mono ?_; rintro e W5 ⟨bu, rfl, hsy, hbm, h2⟩; replace T1 := T1.zw h2; replace hsx := hsx.zw h2; replace hb := hb.trans (h2.mono hb.size)))
     have hby := hsy.len.2.1
     have hxy : bx < bu := Nat.lt_of_lt_of_le hbl hby
     obtain ⟨qy, hqy⟩ : ∃ q, q = W2.heap.size := ⟨_, rfl⟩
     rw [← hqy] at hsy
     clear hqy hby hbl
     go_upto_region 12 with (first | (go_at_call 44; refine (HIM.out _ _ _ hsx _ _ hsy).mono ?_; rintro e W4 ⟨v2, rfl, S2, h2⟩; have hw2 := hb.size; replace T1 := T1.zw h2; replace hsx := hsx.zw h2; replace hsy := hsy.zw h2; replace hb := hb.trans (h2.mono hb.size)))
     obtain ⟨a2, cap2, rfl⟩ := S2.form
     rw [plR_len] at S2 ⊢
     have HAP := Lib.hid (show ∀ r, (Value.slice a1 ((aaV p LVa LUb).1).length cap1).ownBlock = some r → ∀ r2, (Value.slice a2 ((aaV p LVa LUb).1).length cap2).ownBlock = some r2 → r ≠ r2 from fun r hr r2 hr2 => by
      have e1 := T1.2 r hr
      have e2 := S2.own r2 hr2
      omega)
     have HAX := Lib.hid (show ∀ r, (Value.slice a1 ((aaV p LVa LUb).1).length cap1).ownBlock = some r → r ≠ bx from fun r hr => by
      have e1 := T1.2 r hr
      omega)
     have HAY := Lib.hid (show ∀ r, (Value.slice a2 ((aaV p LVa LUb).1).length cap2).ownBlock = some r → r ≠ bx from fun r hr => by
      have e1 := S2.own r hr
      omega)
     have HAX2 := Lib.hid (show ∀ r, (Value.slice a1 ((aaV p LVa LUb).1).length cap1).ownBlock = some r → r ≠ bu from fun r hr => by
      have e1 := T1.2 r hr
      omega)
     have HAY2 := Lib.hid (show ∀ r, (Value.slice a2 ((aaV p LVa LUb).1).length cap2).ownBlock = some r → r ≠ bu from fun r hr => by
      have e1 := S2.own r hr
      omega)
     have HAW := Lib.hid (show ∀ r, (Value.slice a2 ((aaV p LVa LUb).1).length cap2).ownBlock = some r → w.heap.size ≤ r from fun r hr => Nat.le_trans hw2 (S2.own r hr))
     have S1 := T1.1
     obtain ⟨base2, hb2⟩ : ∃ b, b = W5.heap.size := ⟨_, rfl⟩
     rw [← hb2] at S2
     have hbu : w.heap.size ≤ bu := by omega
     have hne : bx ≠ bu := by omega
     clear hb2 T1 hw2 hbm hbt hxy
     go_upto_region 14 with (first | (go_at_call 20; refine (eqPolyS_big ((aaV p LVa LUb).1) a2 a1 cap2 cap1 base2 _ _ S2 S1 HRL.out).mono ?_; rintro e W7 ⟨rfl, h2⟩; replace S1 := S1.zw h2; replace S2 := S2.zw h2; replace hsx := hsx.zw h2; replace hsy := hsy.zw h2; replace hb := hb.trans (h2.mono hb.size)))
     go_upto_region 16 with (first | (go_at_call 17; with_reducible refine (HTOVa.out _ hb).mono ?_; rintro e W2 ⟨yx, rfl, zx, _, h2⟩; replace S1 := S1.zw h2; replace S2 := S2.zw h2; replace hsx := hsx.zw h2; replace hsy := hsy.zw h2; replace hb := hb.trans (h2.mono hb.size)) | (go_at_call 20; refine (HEQVa.out _ _ _ _ _ hsx zx).mono ?_; rintro e W6 ⟨rfl, h2⟩; replace S1 := S1.zw h2; replace S2 := S2.zw h2; replace hsx := hsx.zw h2; replace hsy := hsy.zw h2; replace hb := hb.trans (h2.mono hb.size)))
     go_upto_region 18 with (first | (go_at_call 17; with_reducible refine (HTOUb.out _ hb).mono ?_; rintro e W2 ⟨yx, rfl, zy, _, h2⟩; replace S1 := S1.zw h2; replace S2 := S2.zw h2; replace hsx := hsx.zw h2; replace hsy := hsy.zw h2; replace hb := hb.trans (h2.mono hb.size)) | (go_at_call 20; refine (HEQUb.out _ _ _ _ _ hsy zy).mono ?_; rintro e W6 ⟨rfl, h2⟩; replace S1 := S1.zw h2; replace S2 := S2.zw h2; replace hsx := hsx.zw h2; replace hsy := hsy.zw h2; replace hb := hb.trans (h2.mono hb.size)))
     clear zx zy
     have hMX := hsx.marksP (show (plR LVa).length = nVa by rw [plR_len]; exact hlVa)
     obtain ⟨KX, hKX⟩ : ∃ K, K = 1 + 64 * nVa := ⟨_, rfl⟩
     have hKX1 : KX ≤ 67108865 := by omega
     have HKX := Lib.hid hKX
     obtain ⟨KY, hKY⟩ : ∃ K, K = KX + 64 * nUb := ⟨_, rfl⟩
     have hKY3 : ¬ (KY : Int) < 0 := by omega
     have HKY := Lib.hid hKY
     clear hsx hKX hKY
     go_upto_region 20 with (first | (go_at_call 21; refine (markPolyS_big nVa (some ⟨bx, 0, none⟩) nVa qx _ hMX (by omega)).mono ?_; rintro e W8 ⟨rfl, hMX2, hG⟩; rw [← HKX.out]))
     replace hb := hb.grown hG hb.size (fun k e => by cases e; exact hbw)
     replace S1 := slL_apart S1 hG (by
      cases hv : (Value.slice a1 ((aaV p LVa LUb).1).length cap1).ownBlock with
      | none => exact .inl rfl
      | some r =>
       refine .inr fun h => ?_
       exact HAX.out r hv (by injection h))
     replace S2 := slL_apart S2 hG (by
      cases hv : (Value.slice a2 ((aaV p LVa LUb).1).length cap2).ownBlock with
      | none => exact .inl rfl
      | some r =>
       refine .inr fun h => ?_
       exact HAY.out r hv (by injection h))
     replace hsy := slL_apart hsy hG (.inr fun h => hne (by injection h with h; exact h.symm))
     clear hMX hMX2 hG
     have hMY := hsy.ownP (show (plR LUb).length = nUb by rw [plR_len]; exact hlUb)
     clear hsy
     go_upto_region 21 with (first | (go_at_call 21; refine (markPolyS_from nUb (some ⟨bu, 0, none⟩) nUb qy _ KX (by omega) hMY (by omega)).mono ?_; rintro e W9 ⟨rfl, hG⟩; rw [← HKY.out]))
     replace hb := hb.grown hG hb.size (fun k e => by cases e; exact hbu)
     replace S1 := slL_apart S1 hG (by
      cases hv : (Value.slice a1 ((aaV p LVa LUb).1).length cap1).ownBlock with
      | none => exact .inl rfl
      | some r =>
       refine .inr fun h => ?_
       exact HAX2.out r hv (by injection h))
     replace S2 := slL_apart S2 hG (by
      cases hv : (Value.slice a2 ((aaV p LVa LUb).1).length cap2).ownBlock with
      | none => exact .inl rfl
      | some r =>
       refine .inr fun h => ?_
       exact HAY2.out r hv (by injection h))
     clear hMY hG hbu hbw
     go_upto_region 23 with (first | (go_at_call 20; refine (eqPolyS_big ((aaV p LVa LUb).1) a2 a1 cap2 cap1 base2 _ _ S2 S1 HRL.out).mono ?_; rintro e W7 ⟨rfl, h2⟩; replace S1 := S1.zw h2; replace S2 := S2.zw h2; replace hb := hb.trans (h2.mono hb.size)))
     go_upto_region 25 with (first | (go_at_call 21; refine (markPolyS_big ((aaV p LVa LUb).1).length a2 cap2 base2 _ (S2.marksP (plR_len _)) HRL.out).mono ?_; rintro e W6 ⟨rfl, M2, hG⟩; rw [← HK.out]))
     replace hb := hb.grown hG hb.size (fun k e => HAW.out k e)
     replace S1 := slL_apart S1 hG (by
      cases hv : (Value.slice a1 ((aaV p LVa LUb).1).length cap1).ownBlock with
      | none => exact .inl rfl
      | some r =>
       refine .inr fun h => ?_
       exact HAP.out r hv r h.symm rfl)
     clear S2 hG
     go_upto_region 31 with (first | (go_at_call 26; refine (heldPolyS_big ((aaV p LVa LUb).1).length a2 cap2 base2 _ M2 HRL.out).mono ?_; rintro e wS ⟨rfl, rfl⟩; rw [← HK.out]))
     go_upto_region 32 with (first | (go_at_call 17; with_reducible refine (HTOVa.out _ hb).mono ?_; rintro e W2 ⟨bz, rfl, hsz, _, h2⟩; replace S1 := S1.zw h2; replace M2 := M2.below h2; replace hb := hb.trans (h2.mono hb.size)) | (go_at_call 17; with_reducible refine (HTOUb.out _ hb).mono ?_; rintro e W2 ⟨bo, rfl, hso, _, h2⟩; replace S1 := S1.zw h2; replace hsz := hsz.zw h2; replace M2 := M2.below h2; replace hb := hb.trans (h2.mono hb.size)) | (go_at_call 44; refine (HIM.out _ _ _ hsz _ _ hso).mono ?_; rintro e W4 ⟨v3, rfl, S3, h2⟩; replace S1 := S1.zw h2; replace M2 := M2.below h2; replace hb := hb.trans (h2.mono hb.size)))
     clear hsz hso
     obtain ⟨a3, cap3, rfl⟩ := S3.form
     rw [plR_len] at S3 ⊢
     go_upto_region 35 with (first | (go_at_call 20; refine (eqPolyS_big ((aaV p LVa LUb).1) a3 a1 cap3 cap1 _ _ _ S3 S1 HRL.out).mono ?_; rintro e W9 ⟨rfl, h2⟩; replace M2 := M2.below h2; replace hb := hb.trans (h2.mono hb.size)))
     clear S3 S1
     go_wp2_with (first | (go_at_call 26; refine (heldPolyS_big ((aaV p LVa LUb).1).length a2 cap2 base2 _ M2 HRL.out).mono ?_; rintro e wS ⟨rfl, rfl⟩; rw [← HK.out]))
     go_ret
     exact ⟨rfl, hb⟩
   · go_wp2_with (first | (go_at_call 14; refine (szPolyS_at aUb nUb cUb (lf0) _ wUb (by omega) (by omega)).mono ?_; rintro e wS ⟨rfl, hq⟩; have hq2 : w = wS := (by first | exact hq | exact hq.symm); clear hq; subst hq2; rw [if_neg hs1]))
     go_ret
     exact ⟨rfl, hb⟩
 · go_wp2_with (first | (go_at_call 14; refine (szPolyS_at aVa nVa cVa (1048576) _ wVa (by omega) (by omega)).mono ?_; rintro e wS ⟨rfl, hq⟩; have hq2 : w = wS := (by first | exact hq | exact hq.symm); clear hq; subst hq2; rw [if_neg hs0]))
   go_ret
   exact ⟨rfl, hb⟩
theorem FnExactAddActions_walk {w : World} (p : Int) (aVa : Option Addr) (nVa cVa : Nat) (XVa : Nat → Nat → Nat) (xVa : ∀ i, byte (XVa i)) (wVa : nVa ≤ maxLen) (lVa : Lst w aVa nVa XVa) (aUb : Option Addr) (nUb cUb : Nat) (XUb : Nat → Nat → Nat) (xUb : ∀ i, byte (XUb i)) (wUb : nUb ≤ maxLen) (lUb : Lst w aUb nUb XUb) (w' : World) (hw : w' = w) :
 Calls Try.prog 11 #[.int .i64 p, .slice aVa nVa cVa, .slice aUb nUb cUb] w fun e w' => e = .returned (.bool true) ∧ Below w.heap.size w w' :=
 FnExactAddActions_walkA w p aVa nVa cVa XVa xVa wVa aUb nUb cUb XUb xUb wUb lVa lUb
end Go.Proofs.Ytelgefgphhebnaa
end
section
namespace Go.Proofs.Ytelgefgphhebnaa
open Go
def cutW : List Char := [Char.ofNat 99, Char.ofNat 117, Char.ofNat 116]
theorem strip_cut (rest : List (List Char)) : stripLifts liftWords (cutW :: rest) = ([], cutW :: rest) := by
 have key : ∀ os : List String, (os.all fun o => !(cutW == o.toList)) = true → stripLifts os (cutW :: rest) = ([], cutW :: rest) := by
  intro os
  induction os with
  | nil => intro _; rfl
  | cons o os ih =>
   intro h
   simp only [List.all_cons, Bool.and_eq_true, Bool.not_eq_true'] at h
   unfold stripLifts
   rw [h.1]
   exact ih h.2
 exact key _ (by decide +kernel)
theorem make_cut {P : Program} {rest : List (List Char)} (h : behindMainWord (wordsSigns P.initOrder.toList) = cutW :: rest) : P.make = some .cut := by
 unfold Program.make
 rw [h]
 have e1 : (cutW == "gc".toList || cutW == "spec".toList) = false := by decide +kernel
 have e2 : (cutW == "cut".toList) = true := by decide +kernel
 simp only [e1, e2, Bool.true_or]
 rfl
theorem mayEnter_cut {P : Program} {rest : List (List Char)} (h : behindMainWord (wordsSigns P.initOrder.toList) = cutW :: rest) (h1 : P.laysLater = false) (h2 : P.bearsReflect = false) (h3 : P.doorFits [] = true) : P.mayEnter = true := by
 unfold Program.mayEnter
 rw [h]
 have e2 : (some cutW == some "cut".toList) = true := by decide +kernel
 simp only [strip_cut, h1, h2, h3, List.head?_cons, e2]
 simp
theorem lifts_cut {P : Program} {rest : List (List Char)} (h : behindMainWord (wordsSigns P.initOrder.toList) = cutW :: rest) : P.liftsFinal = false := by
 unfold Program.liftsFinal Program.headLifts
 rw [h]
 have e2 : (some cutW == some "cut".toList) = true := by decide +kernel
 have e3 : (some cutW == some "carried".toList) = false := by decide +kernel
 simp only [strip_cut, List.head?_cons, e2, e3]
 simp
/-- the signs of the head, and its words behind the first three -/
def initRest : List (List Nat) := [[97, 116], [108, 111, 111, 112, 46, 101, 120, 97, 109, 112, 108, 101, 47, 103, 48, 49, 50, 52, 53, 47, 108, 97, 119, 115, 46, 70, 110, 69, 120, 97, 99, 116, 77, 111, 111, 114, 101, 77, 97, 116, 114, 105, 120], [108, 111, 111, 112, 46, 101, 120, 97, 109, 112, 108, 101, 47, 103, 48, 49, 50, 52, 53, 47, 108, 97, 119, 115, 46, 70, 110, 69, 120, 97, 99, 116, 83, 112, 97, 110, 79, 102], [108, 111, 111, 112, 46, 101, 120, 97, 109, 112, 108, 101, 47, 103, 48, 49, 50, 52, 53, 47, 108, 97, 119, 115, 46, 70, 110, 69, 120, 97, 99, 116, 82, 97, 110, 107, 79, 102, 87, 111, 114, 100], [108, 111, 111, 112, 46, 101, 120, 97, 109, 112, 108, 101, 47, 103, 48, 49, 50, 52, 53, 47, 108, 97, 119, 115, 46, 70, 110, 69, 120, 97, 99, 116, 82, 97, 110, 107, 68, 105, 115, 116, 97, 110, 99, 101], [108, 111, 111, 112, 46, 101, 120, 97, 109, 112, 108, 101, 47, 103, 48, 49, 50, 52, 53, 47, 108, 97, 119, 115, 46, 70, 110, 69, 120, 97, 99, 116, 76, 101, 97, 115, 116, 82, 97, 110, 107], [108, 111, 111, 112, 46, 101, 120, 97, 109, 112, 108, 101, 47, 103, 48, 49, 50, 52, 53, 47, 108, 97, 119, 115, 46, 70, 110, 69, 120, 97, 99, 116, 76, 101, 97, 115, 116, 83, 107, 101, 119], [108, 111, 111, 112, 46, 101, 120, 97, 109, 112, 108, 101, 47, 103, 48, 49, 50, 52, 53, 47, 108, 97, 119, 115, 46, 70, 110, 69, 120, 97, 99, 116, 77, 111, 111, 114, 101, 68, 101, 116, 101, 114, 109, 105, 110, 97, 110, 116], [108, 111, 111, 112, 46, 101, 120, 97, 109, 112, 108, 101, 47, 103, 48, 49, 50, 52, 53, 47, 108, 97, 119, 115, 46, 70, 110, 69, 120, 97, 99, 116, 83, 113, 117, 97, 114, 101, 79, 102, 83, 107, 101, 119], [108, 111, 111, 112, 46, 101, 120, 97, 109, 112, 108, 101, 47, 103, 48, 49, 50, 52, 53, 47, 108, 97, 119, 115, 46, 70, 110, 69, 120, 97, 99, 116, 65, 100, 100, 65, 99, 116, 105, 111, 110, 115], [108, 111, 111, 112, 46, 101, 120, 97, 109, 112, 108, 101, 47, 103, 48, 49, 50, 52, 53, 47, 108, 97, 119, 115, 46, 70, 110, 69, 120, 97, 99, 116, 67, 111, 109, 112, 111, 115, 101, 65, 99, 116, 105, 111, 110, 115], [108, 111, 111, 112, 46, 101, 120, 97, 109, 112, 108, 101, 47, 103, 48, 49, 50, 52, 53, 47, 108, 97, 119, 115, 46, 70, 110, 69, 120, 97, 99, 116, 75, 101, 114, 110, 101, 108, 79, 102, 83, 107, 101, 119]]
def initSigns : List Nat := [104, 97, 114, 110, 101, 115, 115, 32, 98, 57, 48, 99, 57, 51, 56, 49, 99, 102, 101, 100, 48, 56, 52, 98, 97, 48, 49, 54, 98, 53, 101, 53, 56, 98, 52, 101, 97, 101, 51, 97, 48, 55, 98, 56, 50, 57, 57, 51, 98, 99, 101, 101, 55, 52, 50, 52, 48, 98, 102, 102, 99, 51, 50, 55, 52, 50, 52, 54, 51, 101, 51, 101, 32, 99, 117, 116] ++ initRest.flatMap fun x => 32 :: x
theorem init_split : behindMainWord (wordsSigns (initSigns.map Char.ofNat)) = cutW :: initRest.map (fun w => w.map Char.ofNat) := by kernel_rfl
theorem init_order : Try.prog.initOrder = String.ofList (initSigns.map Char.ofNat) := by kernel_rfl
theorem init_cut : behindMainWord (wordsSigns Try.prog.initOrder.toList) = cutW :: initRest.map (fun w => w.map Char.ofNat) :=
 (congrArg (fun s : String => behindMainWord (wordsSigns s.toList)) init_order).trans ((congrArg (fun l => behindMainWord (wordsSigns l)) String.toList_ofList).trans init_split)
theorem Try.laysLater : Try.prog.laysLater = false := by kernel_rfl
theorem Try.bearsReflect : Try.prog.bearsReflect = false := by kernel_rfl
theorem Try.doorFits : Try.prog.doorFits [] = true := by kernel_rfl
theorem Try.mayEnter : Try.pinned.checked.prog.mayEnter = true := mayEnter_cut init_cut Try.laysLater Try.bearsReflect Try.doorFits
theorem Try.liftsFinal : Try.pinned.checked.prog.liftsFinal = false := lifts_cut init_cut
theorem Try.make : Try.pinned.checked.prog.make = some .cut := make_cut init_cut
end Go.Proofs.Ytelgefgphhebnaa
end
