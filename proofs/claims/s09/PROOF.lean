import PyProof.Rows.All
import Wide.All
import OpenK.AllK
import Wide.FinOn
import Open.SpecLaws
import KE.OsHead
import KE.OsGo
import HandS.ForSpec
import HandS.Comp
import HandS.Text
import HandS.Rev
import PySem.Challenge.RW_pagestraight_s09_st_margins
set_option Elab.async false
set_option linter.all false
set_option maxRecDepth 100000
set_option maxHeartbeats 2000000
/-! The mathematics of pages: a page as rows of words, and back. Plain Lean alone. -/
namespace Pg
open Sh57
/-! ### sums of bits -/
def bitsum (p : Nat → Bool) (n : Nat) : Nat := ((List.range n).map fun j => if p j = true then 2 ^ j else 0).sum
theorem bitsum_zero (p : Nat → Bool) : bitsum p 0 = 0 := rfl
theorem bitsum_succ (p : Nat → Bool) (n : Nat) : bitsum p (n + 1) = bitsum p n + (if p n = true then 2 ^ n else 0) := by
  unfold bitsum
  rw [List.range_succ, List.map_append, List.sum_append]
  simp
theorem bitsum_lt (p : Nat → Bool) : ∀ n, bitsum p n < 2 ^ n
  | 0 => Nat.one_pos
  | n + 1 => by
    have ih := bitsum_lt p n
    rw [bitsum_succ, Nat.pow_succ]
    split <;> omega
theorem bitsum_congr {p q : Nat → Bool} : ∀ {n : Nat}, (∀ j, j < n → p j = q j) → bitsum p n = bitsum q n
  | 0, _ => rfl
  | n + 1, h => by
    rw [bitsum_succ, bitsum_succ, bitsum_congr (n := n) fun j hj => h j (by omega), h n (by omega)]
theorem bitsum_cut {p : Nat → Bool} {m : Nat} : ∀ {n : Nat}, (∀ j, m ≤ j → j < n → p j = false) → m ≤ n → bitsum p n = bitsum p m
  | 0, _, hm => by
    have e : m = 0 := by omega
    rw [e]
  | n + 1, h, hm => by
    by_cases e : m = n + 1
    · rw [e]
    · rw [bitsum_succ, bitsum_cut (n := n) (fun j h1 h2 => h j h1 (by omega)) (by omega), h n (by omega) (by omega)]
      simp
theorem bitsum_put {p q : Nat → Bool} {m : Nat} : ∀ {n : Nat}, m < n → (∀ j, j ≠ m → q j = p j) → p m = false → bitsum q n = bitsum p n + (if q m = true then 2 ^ m else 0)
  | 0, hm, _, _ => by omega
  | n + 1, hm, h, hp => by
    rw [bitsum_succ, bitsum_succ]
    by_cases e : m = n
    · subst e
      rw [bitsum_congr (p := q) (q := p) fun j hj => h j (by omega), hp]
      simp
    · rw [bitsum_put (n := n) (by omega) h hp, h n (fun z => e z.symm)]
      omega
/-! ### a row of dots as words -/
def word (bs : List Bool) (k : Nat) : Nat := bitsum (fun j => bs.getD (32 * k + j) false) 32
def rowL (bs : List Bool) : List Nat := (List.range (wide bs.length)).map (word bs)
theorem rowL_length (bs : List Bool) : (rowL bs).length = wide bs.length := by
  unfold rowL
  simp
theorem word_nil (k : Nat) : word [] k = 0 := by
  unfold word
  rw [bitsum_cut (m := 0) (fun j _ _ => by simp) (by omega)]
  rfl
theorem getD_take (bs : List Bool) (c i : Nat) : (bs.take c).getD i false = if i < c then bs.getD i false else false := by
  rw [List.getD_eq_getElem?_getD, List.getD_eq_getElem?_getD, List.getElem?_take]
  split <;> rfl
/-- bits of a word at or behind the place that is next aren't set -/
theorem word_take_lt (bs : List Bool) (c : Nat) : word (bs.take c) (c / 32) < 2 ^ (c % 32) := by
  unfold word
  rw [bitsum_cut (m := c % 32) (fun j h1 h2 => ?_) (by omega)]
  · exact bitsum_lt _ _
  · rw [getD_take, if_neg (by omega)]
theorem word_take_same (bs : List Bool) (c : Nat) : word (bs.take (c + 1)) (c / 32) = word (bs.take c) (c / 32) + (if bs.getD c false = true then 2 ^ (c % 32) else 0) := by
  unfold word
  have h1 : ∀ j, j ≠ c % 32 → (bs.take (c + 1)).getD (32 * (c / 32) + j) false = (bs.take c).getD (32 * (c / 32) + j) false := fun j hj => by
    rw [getD_take, getD_take]
    by_cases h : 32 * (c / 32) + j < c
    · rw [if_pos h, if_pos (by omega)]
    · rw [if_neg h, if_neg (by omega)]
  have h2 : (bs.take c).getD (32 * (c / 32) + c % 32) false = false := by
    rw [getD_take, if_neg (by omega)]
  have h3 : (bs.take (c + 1)).getD (32 * (c / 32) + c % 32) false = bs.getD c false := by
    have e : 32 * (c / 32) + c % 32 = c := by omega
    rw [e, getD_take, if_pos (by omega)]
  have h4 := bitsum_put (p := fun j => (bs.take c).getD (32 * (c / 32) + j) false) (q := fun j => (bs.take (c + 1)).getD (32 * (c / 32) + j) false) (m := c % 32) (n := 32) (by omega) h1 h2
  rw [h4, h3]
theorem word_take_other (bs : List Bool) (c k : Nat) (hk : k ≠ c / 32) : word (bs.take (c + 1)) k = word (bs.take c) k := by
  unfold word
  refine bitsum_congr fun j hj => ?_
  rw [getD_take, getD_take]
  by_cases h : 32 * k + j < c
  · rw [if_pos h, if_pos (by omega)]
  · rw [if_neg h, if_neg (by omega)]
/-- the words of the dots ahead of place c, as many as the whole row has -/
def rowTo (bs : List Bool) (c : Nat) : List Nat := (List.range (wide bs.length)).map (word (bs.take c))
theorem rowTo_zero (bs : List Bool) : rowTo bs 0 = List.replicate (wide bs.length) 0 := by
  unfold rowTo
  refine List.ext_getElem (by simp) fun i h1 h2 => ?_
  simp [word_nil]
theorem rowTo_all (bs : List Bool) : rowTo bs bs.length = rowL bs := by
  unfold rowTo rowL
  rw [List.take_length]
theorem rowTo_length (bs : List Bool) (c : Nat) : (rowTo bs c).length = wide bs.length := by
  unfold rowTo
  simp
theorem div_lt_wide {c n : Nat} (h : c < n) : c / 32 < wide n := by
  unfold wide
  omega
theorem rowTo_get (bs : List Bool) {c k : Nat} (h : k < wide bs.length) : (rowTo bs c)[k]? = some (word (bs.take c) k) := by
  unfold rowTo
  rw [List.getElem?_map, List.getElem?_range h]
  rfl
theorem rowTo_succ (bs : List Bool) {c : Nat} : rowTo bs (c + 1) = (rowTo bs c).set (c / 32) (word (bs.take c) (c / 32) + (if bs.getD c false = true then 2 ^ (c % 32) else 0)) := by
  refine List.ext_getElem? fun k => ?_
  by_cases hk : k < wide bs.length
  · rw [rowTo_get bs hk]
    by_cases e : k = c / 32
    · subst e
      rw [List.getElem?_set_self (by rw [rowTo_length]; exact hk), word_take_same]
    · rw [List.getElem?_set_ne (fun z => e z.symm), rowTo_get bs hk, word_take_other bs c k e]
  · rw [List.getElem?_eq_none (by rw [rowTo_length]; omega), List.getElem?_eq_none (by rw [List.length_set, rowTo_length]; omega)]
/-! ### pages -/
theorem each_length (w : Nat) (f : Nat → Nat → Bool) : ∀ h, (each w h f).length = h * w
  | 0 => by simp [each]
  | h + 1 => by
    have ih := each_length w f h
    unfold each at ih ⊢
    rw [List.range_succ, List.flatMap_append, List.length_append, ih, Nat.succ_mul]
    simp
theorem each_get (w : Nat) (f : Nat → Nat → Bool) {c : Nat} (hc : c < w) : ∀ {h r : Nat}, r < h → (each w h f)[r * w + c]? = some (f c r)
  | 0, r, hr => by omega
  | h + 1, r, hr => by
    have e : each w (h + 1) f = each w h f ++ (List.range w).map fun c => f c h := by
      unfold each
      rw [List.range_succ, List.flatMap_append]
      simp
    rw [e]
    by_cases q : r < h
    · have l : r * w + c < (each w h f).length := by
        rw [each_length]
        have := Nat.mul_le_mul_right w (show r + 1 ≤ h from q)
        rw [Nat.succ_mul] at this
        omega
      rw [List.getElem?_append_left l]
      exact each_get w f hc q
    · have er : r = h := by omega
      subst er
      rw [List.getElem?_append_right (by rw [each_length]; omega), each_length, Nat.add_sub_cancel_left, List.getElem?_map, List.getElem?_range hc]
      rfl
theorem dot_each (w h : Nat) (f : Nat → Nat → Bool) (c r : Nat) : dot w h (each w h f).toArray c r = (decide (c < w) && (decide (r < h) && f c r)) := by
  unfold dot
  by_cases hc : c < w
  · by_cases hr : r < h
    · have e : (each w h f).toArray.getD (r * w + c) false = f c r := by
        rw [Array.getD_eq_getD_getElem?, List.getElem?_toArray, each_get w f hc hr]
        rfl
      rw [e]
    · simp [hr]
  · simp [hc]
theorem words_each (w h : Nat) (f : Nat → Nat → Bool) : words w h (each w h f) = (List.range h).flatMap fun r => rowL ((List.range w).map fun c => f c r) := by
  unfold words rowL
  have go : ∀ (l : List Nat) (F G : Nat → List Nat), (∀ r ∈ l, F r = G r) → l.flatMap F = l.flatMap G := by
    intro l F G hfg
    induction l with
    | nil => rfl
    | cons a l ih =>
      rw [List.flatMap_cons, List.flatMap_cons, hfg a (by simp), ih fun r hr => hfg r (by simp [hr])]
  refine go _ _ _ fun r hr => ?_
  have hr : r < h := List.mem_range.mp hr
  rw [List.length_map, List.length_range]
  refine List.map_congr_left fun k _ => ?_
  unfold word
  show bitsum (fun j => dot w h (each w h f).toArray (32 * k + j) r) 32 = _
  refine bitsum_congr fun j _ => ?_
  rw [dot_each, List.getD_eq_getElem?_getD, List.getElem?_map]
  by_cases hc : 32 * k + j < w
  · rw [List.getElem?_range hc]
    simp [hc, hr]
  · rw [List.getElem?_eq_none (by rw [List.length_range]; omega)]
    simp [hc]
/-- the bit of a row's word -/
def bitAt (x : List Nat) (w c r : Nat) : Bool := x.getD (r * wide w + c / 32) 0 / 2 ^ (c % 32) % 2 == 1
theorem page_each (w h : Nat) (x : List Nat) : page w h x = each w h (bitAt x w) := by
  unfold page each bitAt
  dsimp only
  congr 1
  funext r
  congr 1
  funext c
  rw [Array.getD_eq_getD_getElem?, List.getElem?_toArray, List.getD_eq_getElem?_getD]
theorem dot_page (w h : Nat) (x : List Nat) (c r : Nat) : dot w h (page w h x).toArray c r = (decide (c < w) && (decide (r < h) && bitAt x w c r)) := by
  rw [page_each, dot_each]
/-- what stands at a place of a page of words, white beyond -/
def at_ (x : List Nat) (w h : Nat) (c r : Int) : Bool := there w h (page w h x).toArray c r
theorem at_out {x : List Nat} {w h : Nat} {c r : Int} (q : c < 0 ∨ (w : Int) ≤ c ∨ r < 0 ∨ (h : Int) ≤ r) : at_ x w h c r = false := by
  unfold at_ there
  rw [dot_page]
  rcases q with q | q | q | q
  · simp [show ¬ (0 ≤ c) by omega]
  · simp [show ¬ (c.toNat < w) by omega]
  · simp [show ¬ (0 ≤ r) by omega]
  · simp [show ¬ (r.toNat < h) by omega]
theorem at_in {x : List Nat} {w h c r : Nat} (hc : c < w) (hr : r < h) : at_ x w h (c : Int) (r : Int) = bitAt x w c r := by
  unfold at_ there
  rw [dot_page]
  simp [hc, hr]
theorem place_lt {w h c r : Nat} (hc : c < w) (hr : r < h) : r * wide w + c / 32 < h * wide w := by
  have h1 := div_lt_wide hc
  have h2 := Nat.mul_le_mul_right (wide w) (show r + 1 ≤ h from hr)
  rw [Nat.succ_mul] at h2
  omega
theorem flatMap_congr' {α β : Type} {l : List α} {F G : α → List β} (hfg : ∀ r ∈ l, F r = G r) : l.flatMap F = l.flatMap G := by
  induction l with
  | nil => rfl
  | cons a l ih =>
    rw [List.flatMap_cons, List.flatMap_cons, hfg a (by simp), ih fun r hr => hfg r (by simp [hr])]
/-- the rows of an answer -/
def rowsOf (w h : Nat) (g : Nat → Nat → Bool) : List Nat := (List.range h).flatMap fun r => rowL ((List.range w).map fun c => g c r)
theorem rowsOf_succ (w h : Nat) (g : Nat → Nat → Bool) : rowsOf w (h + 1) g = rowsOf w h g ++ rowL ((List.range w).map fun c => g c h) := by
  unfold rowsOf
  rw [List.range_succ, List.flatMap_append]
  simp
theorem rowsOf_length (w : Nat) (g : Nat → Nat → Bool) : ∀ h, (rowsOf w h g).length = h * wide w
  | 0 => by simp [rowsOf]
  | h + 1 => by
    rw [rowsOf_succ, List.length_append, rowsOf_length w g h, rowL_length, Nat.succ_mul]
    simp
theorem one_each (w h : Nat) (g : Nat → Nat → Bool) : Sh57Neutral.told (one w h (each w h g)) = 0 :: (rowsOf w h g).map Int.ofNat := by
  unfold one
  rw [words_each]
  rfl
/-! ### the calls of stage 1 -/
def kOf (k : Int) : Int := Sh57Neutral.int32 k.toNat
def okS (k d w h : Int) : Bool := shearOk (kOf k) d.toNat w.toNat h.toNat
def natsOf (x : List Int) : List Nat := Sh57Neutral.nats x
theorem kOf_eq {k : Int} (h : 0 ≤ k) : kOf k = if k < 2147483648 then k else k - 4294967296 := by
  unfold kOf Sh57Neutral.int32
  by_cases q : k < 2147483648
  · rw [if_pos q, if_pos (show k.toNat < 2 ^ 31 by omega)]
    omega
  · rw [if_neg q, if_neg (show ¬ k.toNat < 2 ^ 31 by omega)]
    omega
theorem okS_iff {k d w h : Int} (hd : 0 ≤ d) (hw : 0 ≤ w) (hh : 0 ≤ h) : okS k d w h = true ↔ (-4096 ≤ kOf k ∧ kOf k ≤ 4096) ∧ (1 ≤ d ∧ d ≤ 4096) ∧ (1 ≤ w ∧ w ≤ 256) ∧ (1 ≤ h ∧ h ≤ 256) := by
  unfold okS shearOk sized among
  simp only [Bool.and_eq_true, decide_eq_true_eq]
  omega
def shearG (x : List Nat) (k : Int) (d w h : Nat) (c r : Nat) : Bool := at_ x w h (c : Int) ((r : Int) - shift w k d c)
def slantG (x : List Nat) (k : Int) (d w h : Nat) (c r : Nat) : Bool := at_ x w h ((c : Int) - shift h k d r) (r : Int)
def rollG (x : List Nat) (k : Int) (d w h : Nat) (c r : Nat) : Bool := at_ x w h (c : Int) (((r : Int) - shift w k d c) % (h : Int))
theorem shear_bad {k d w h : Int} {x : List Int} (q : okS k d w h = false) : PySh57.st_shear k d w h x = [-2] := by
  show Sh57Neutral.told (answer (if okS k d w h = true then _ else .bad)) = _
  rw [q]
  rfl
theorem slant_bad {k d w h : Int} {x : List Int} (q : okS k d w h = false) : PySh57.st_slant k d w h x = [-2] := by
  show Sh57Neutral.told (answer (if okS k d w h = true then _ else .bad)) = _
  rw [q]
  rfl
theorem roll_bad {k d w h : Int} {x : List Int} (q : okS k d w h = false) : PySh57.st_roll k d w h x = [-2] := by
  show Sh57Neutral.told (answer (if okS k d w h = true then _ else .bad)) = _
  rw [q]
  rfl
theorem shear_ok {k d w h : Int} {x : List Int} (q : okS k d w h = true) : PySh57.st_shear k d w h x = 0 :: (rowsOf w.toNat h.toNat (shearG (natsOf x) (kOf k) d.toNat w.toNat h.toNat)).map Int.ofNat := by
  show Sh57Neutral.told (answer (if okS k d w h = true then .shear (kOf k) d.toNat w.toNat h.toNat (natsOf x) else .bad)) = _
  rw [q, if_pos rfl]
  exact one_each _ _ _
theorem slant_ok {k d w h : Int} {x : List Int} (q : okS k d w h = true) : PySh57.st_slant k d w h x = 0 :: (rowsOf w.toNat h.toNat (slantG (natsOf x) (kOf k) d.toNat w.toNat h.toNat)).map Int.ofNat := by
  show Sh57Neutral.told (answer (if okS k d w h = true then .slant (kOf k) d.toNat w.toNat h.toNat (natsOf x) else .bad)) = _
  rw [q, if_pos rfl]
  exact one_each _ _ _
theorem roll_at {x : List Nat} {k : Int} {d w h c r : Nat} (hh : 0 < h) : dot w h (page w h x).toArray c (((r : Int) - shift w k d c) % (h : Int)).toNat = rollG x k d w h c r := by
  unfold rollG at_ there
  have h1 : (0 : Int) ≤ ((r : Int) - shift w k d c) % (h : Int) := Int.emod_nonneg _ (by omega)
  simp [h1]
theorem roll_ok {k d w h : Int} {x : List Int} (q : okS k d w h = true) (hh : 0 < h.toNat) : PySh57.st_roll k d w h x = 0 :: (rowsOf w.toNat h.toNat (rollG (natsOf x) (kOf k) d.toNat w.toNat h.toNat)).map Int.ofNat := by
  show Sh57Neutral.told (answer (if okS k d w h = true then .roll (kOf k) d.toNat w.toNat h.toNat (natsOf x) else .bad)) = _
  rw [q, if_pos rfl]
  refine (one_each _ _ _).trans ?_
  have e : (fun (c r : Nat) => dot w.toNat h.toNat (page w.toNat h.toNat (natsOf x)).toArray c (((r : Int) - shift w.toNat (kOf k) d.toNat c) % (h.toNat : Int)).toNat) = rollG (natsOf x) (kOf k) d.toNat w.toNat h.toNat := by
    funext c r
    exact roll_at hh
  show 0 :: List.map Int.ofNat (rowsOf w.toNat h.toNat (fun (c r : Nat) => dot w.toNat h.toNat (page w.toNat h.toNat (natsOf x)).toArray c (((r : Int) - shift w.toNat (kOf k) d.toNat c) % (h.toNat : Int)).toNat)) = _
  rw [e]
/-- what is asked of a page's call: the list's length where its numbers are in their ranges -/
theorem asked_len {n : Int} {k d w h : Int} {x : List Int} (hn : n = 0 ∨ n = 1 ∨ n = 2 ∨ n = 3) (q : Sh57Neutral.asked [[n, k, d, w, h], x] = true) (ok : okS k d w h = true) : x.length = h.toNat * wide w.toNat := by
  have q1 : Sh57Neutral.asked1 [[n, k, d, w, h], x] = true := by
    unfold Sh57Neutral.asked at q
    rw [Bool.and_eq_true] at q
    exact q.1
  have q2 : (if okS k d w h = true then x.length == h.toNat * ((w.toNat + 31) / 32) else (x.isEmpty) || (x.length == h.toNat * ((w.toNat + 31) / 32))) = true := by
    rcases hn with rfl | rfl | rfl | rfl <;>
    · simp only [Sh57Neutral.asked1, Bool.and_eq_true] at q1
      exact q1.2.2.2.2.2
  rw [ok, if_pos rfl] at q2
  exact eq_of_beq q2
end Pg
/-! Counts, sharpness, the straightest shear, gaps, bands, margins, by recursions and by what tells them apart. Plain Lean alone. -/
namespace Pg
open Sh57
/-! ### counts -/
def cnt (bs : List Bool) : Nat := many bs
theorem cnt_nil : cnt [] = 0 := rfl
theorem cnt_snoc (bs : List Bool) (b : Bool) : cnt (bs ++ [b]) = cnt bs + (if b = true then 1 else 0) := by
  unfold cnt many
  rw [List.filter_append, List.length_append]
  cases b <;> rfl
theorem cnt_le (bs : List Bool) : cnt bs ≤ bs.length := List.length_filter_le _ _
theorem cnt_range_succ (g : Nat → Bool) (n : Nat) : cnt ((List.range (n + 1)).map g) = cnt ((List.range n).map g) + (if g n = true then 1 else 0) := by
  rw [List.range_succ, List.map_append]
  exact cnt_snoc _ _
theorem rowCounts_each (w h : Nat) (g : Nat → Nat → Bool) : rowCounts w h (each w h g) = (List.range h).map fun r => cnt ((List.range w).map fun c => g c r) := by
  unfold rowCounts cnt
  dsimp only
  refine List.map_congr_left fun r hr => ?_
  have hr : r < h := List.mem_range.mp hr
  congr 1
  refine List.map_congr_left fun c hc => ?_
  have hc : c < w := List.mem_range.mp hc
  rw [dot_each]
  simp [hc, hr]
theorem columnCounts_each (w h : Nat) (g : Nat → Nat → Bool) : columnCounts w h (each w h g) = (List.range w).map fun c => cnt ((List.range h).map fun r => g c r) := by
  unfold columnCounts cnt
  dsimp only
  refine List.map_congr_left fun c hc => ?_
  have hc : c < w := List.mem_range.mp hc
  congr 1
  refine List.map_congr_left fun r hr => ?_
  have hr : r < h := List.mem_range.mp hr
  rw [dot_each]
  simp [hc, hr]
def countsOf (w h : Nat) (g : Nat → Nat → Bool) : List Nat := (List.range h).map fun r => cnt ((List.range w).map fun c => g c r)
theorem shearCounts_at (w h : Nat) (k : Int) (d : Nat) (x : List Nat) : shearCounts w h k d (page w h x) = countsOf w h (shearG x k d w h) := by
  unfold shearCounts sheared
  exact rowCounts_each w h _
theorem rowCounts_page (w h : Nat) (x : List Nat) : rowCounts w h (page w h x) = countsOf w h (bitAt x w) := by
  rw [page_each]
  exact rowCounts_each w h _
theorem columnCounts_page (w h : Nat) (x : List Nat) : columnCounts w h (page w h x) = (List.range w).map fun c => cnt ((List.range h).map fun r => bitAt x w c r) := by
  rw [page_each]
  exact columnCounts_each w h _
theorem countsOf_length (w h : Nat) (g : Nat → Nat → Bool) : (countsOf w h g).length = h := by
  unfold countsOf
  rw [List.length_map, List.length_range]
theorem countsOf_le {w h : Nat} {g : Nat → Nat → Bool} {n : Nat} (hn : n ∈ countsOf w h g) : n ≤ w := by
  unfold countsOf at hn
  obtain ⟨r, _, rfl⟩ := List.mem_map.mp hn
  have := cnt_le ((List.range w).map fun c => g c r)
  rw [List.length_map, List.length_range] at this
  exact this
/-! ### sharpness -/
def sq (a b : Nat) : Nat := (max a b - min a b) * (max a b - min a b)
theorem sq_int (a b : Nat) : ((sq a b : Nat) : Int) = ((b : Int) - (a : Int)) * ((b : Int) - (a : Int)) := by
  unfold sq
  by_cases h : a ≤ b
  · rw [Nat.max_eq_right h, Nat.min_eq_left h, Int.natCast_mul, Int.natCast_sub h]
  · have h : b ≤ a := by omega
    rw [Nat.max_eq_left h, Nat.min_eq_right h, Int.natCast_mul, Int.natCast_sub h]
    have e : ((b : Int) - (a : Int)) = -((a : Int) - (b : Int)) := by omega
    rw [e, Int.neg_mul_neg]
theorem sq_comm (a b : Nat) : sq a b = sq b a := by
  unfold sq
  rw [Nat.max_comm, Nat.min_comm]
theorem sharp_nil : sharp [] = 0 := rfl
theorem sharp_one (a : Nat) : sharp [a] = 0 := rfl
theorem sharp_cons (a b : Nat) (l : List Nat) : sharp (a :: b :: l) = sq a b + sharp (b :: l) := by
  unfold sharp sq
  simp [List.sum_cons]
/-- one more at the end -/
theorem sharp_snoc : ∀ (l : List Nat) (a b : Nat), sharp (l ++ [a, b]) = sharp (l ++ [a]) + sq a b
  | [], a, b => by
    show sharp [a, b] = sharp [a] + sq a b
    rw [sharp_cons, sharp_one, sharp_one, Nat.zero_add, Nat.add_zero]
  | [c], a, b => by
    show sharp [c, a, b] = sharp [c, a] + sq a b
    rw [sharp_cons, sharp_cons, sharp_cons, sharp_one, sharp_one]
    omega
  | c :: d :: l, a, b => by
    have ih := sharp_snoc (d :: l) a b
    show sharp (c :: d :: (l ++ [a, b])) = sharp (c :: d :: (l ++ [a])) + sq a b
    rw [sharp_cons, sharp_cons, show d :: (l ++ [a, b]) = (d :: l) ++ [a, b] from rfl, ih]
    show sq c d + (sharp (d :: (l ++ [a])) + sq a b) = _
    omega
theorem take_succ_of {α : Type} {l : List α} {i : Nat} {x : α} (h : l[i]? = some x) : l.take (i + 1) = l.take i ++ [x] := by
  rw [List.take_add_one, h]
  rfl
/-- how sharp the first i + 2 are -/
theorem sharp_take {l : List Nat} {i a b : Nat} (ha : l[i]? = some a) (hb : l[i + 1]? = some b) : sharp (l.take (i + 2)) = sharp (l.take (i + 1)) + sq a b := by
  rw [take_succ_of hb, take_succ_of ha, List.append_assoc]
  exact sharp_snoc _ _ _
theorem sharp_take_one (l : List Nat) : sharp (l.take 1) = 0 := by
  cases l with
  | nil => rfl
  | cons a l => rfl
theorem sharp_take_zero (l : List Nat) : sharp (l.take 0) = 0 := rfl
theorem sq_le {a b m : Nat} (ha : a ≤ m) (hb : b ≤ m) : sq a b ≤ m * m := by
  unfold sq
  exact Nat.mul_le_mul (by omega) (by omega)
theorem sharp_le {m : Nat} : ∀ (l : List Nat), (∀ n ∈ l, n ≤ m) → sharp l ≤ l.length * (m * m)
  | [], _ => Nat.zero_le _
  | [a], _ => Nat.zero_le _
  | a :: b :: l, h => by
    have ih := sharp_le (b :: l) fun n hn => h n (List.mem_cons_of_mem _ hn)
    have q := sq_le (h a (by simp)) (h b (by simp))
    rw [sharp_cons, List.length_cons, Nat.succ_mul]
    omega
/-! ### the straightest -/
theorem nearer_iff (a b : Int) : nearer a b = true ↔ a.natAbs < b.natAbs ∨ (a.natAbs = b.natAbs ∧ a < b) := by
  unfold nearer
  simp
theorem nearer_irrefl (a : Int) : nearer a a = false := by
  cases h : nearer a a with
  | false => rfl
  | true =>
    have := (nearer_iff a a).mp h
    omega
theorem nearer_total {a b : Int} (h : a ≠ b) : nearer a b = true ∨ nearer b a = true := by
  rw [nearer_iff, nearer_iff]
  omega
/-- (k, s) goes ahead of b -/
def ahead (b : Int × Nat) (k : Int) (s : Nat) : Prop := b.2 < s ∨ (b.2 = s ∧ nearer k b.1 = true)
instance (b : Int × Nat) (k : Int) (s : Nat) : Decidable (ahead b k s) := by
  unfold ahead
  exact inferInstance
/-- the best of a list of shears, S telling how sharp each is -/
def bestOf (S : Int → Nat) (l : List Int) (b : Int × Nat) : Int × Nat := l.foldl (fun b k => if ahead b k (S k) then (k, S k) else b) b
structure Best (S : Int → Nat) (p : Int → Prop) (b : Int × Nat) : Prop where
  mem : p b.1
  val : b.2 = S b.1
  top : ∀ k, p k → ¬ ahead b k (S k)
theorem Best.unique {S : Int → Nat} {p : Int → Prop} {a b : Int × Nat} (A : Best S p a) (B : Best S p b) : a = b := by
  have h1 := A.top b.1 B.mem
  have h2 := B.top a.1 A.mem
  unfold ahead at h1 h2
  rw [← B.val] at h1
  rw [← A.val] at h2
  have e2 : a.2 = b.2 := by omega
  have e1 : a.1 = b.1 := Decidable.byContradiction fun z => by
    rcases nearer_total z with q | q
    · exact h2 (.inr ⟨e2.symm, q⟩)
    · exact h1 (.inr ⟨e2, q⟩)
  exact Prod.ext e1 e2
theorem ahead_trans {S : Int → Nat} {b : Int × Nat} {j k : Int} (h1 : ahead b j (S j)) (h2 : ahead (j, S j) k (S k)) : ahead b k (S k) := by
  unfold ahead at *
  rcases h1 with h1 | ⟨h1, h3⟩ <;> rcases h2 with h2 | ⟨h2, h4⟩
  · exact .inl (Nat.lt_trans h1 h2)
  · exact .inl (by
      have : S j = S k := h2
      omega)
  · exact .inl (by
      have : S j < S k := h2
      omega)
  · refine .inr ⟨h1.trans h2, ?_⟩
    rw [nearer_iff] at *
    have h4 : k.natAbs < j.natAbs ∨ k.natAbs = j.natAbs ∧ k < j := h4
    omega
theorem Best.one {S : Int → Nat} (k : Int) : Best S (fun j => j = k) (k, S k) := ⟨rfl, rfl, fun j e => by
  subst e
  unfold ahead
  rw [nearer_irrefl]
  simp⟩
theorem Best.step {S : Int → Nat} {p : Int → Prop} {b : Int × Nat} (B : Best S p b) (k : Int) : Best S (fun j => p j ∨ j = k) (if ahead b k (S k) then (k, S k) else b) := by
  by_cases h : ahead b k (S k)
  · rw [if_pos h]
    refine ⟨.inr rfl, rfl, fun j hj z => ?_⟩
    rcases hj with hj | rfl
    · exact B.top j hj (ahead_trans h z)
    · unfold ahead at z
      rw [nearer_irrefl] at z
      simp at z
  · rw [if_neg h]
    refine ⟨.inl B.mem, B.val, fun j hj => ?_⟩
    rcases hj with hj | rfl
    · exact B.top j hj
    · exact h
theorem Best.congr {S : Int → Nat} {p q : Int → Prop} {b : Int × Nat} (B : Best S p b) (h : ∀ k, p k ↔ q k) : Best S q b := ⟨(h _).mp B.mem, B.val, fun k hk => B.top k ((h k).mpr hk)⟩
theorem Best.run {S : Int → Nat} : ∀ (l : List Int) {p : Int → Prop} {b : Int × Nat}, Best S p b → Best S (fun k => p k ∨ k ∈ l) (bestOf S l b)
  | [], p, b, B => B.congr fun k => by simp
  | j :: l, p, b, B => by
    refine (Best.run l (B.step j)).congr fun k => ?_
    simp only [List.mem_cons]
    constructor
    · rintro ((h | h) | h)
      · exact .inl h
      · exact .inr (.inl h)
      · exact .inr (.inr h)
    · rintro (h | h | h)
      · exact .inl (.inl h)
      · exact .inl (.inr h)
      · exact .inr h
/-- how sharp the counts of a shear by k are -/
def sharpBy (w h d : Nat) (x : List Nat) (k : Int) : Nat := sharp (countsOf w h (shearG x k d w h))
theorem shift_zero {w d c : Nat} (hd : 1 ≤ d) : shift w 0 d c = 0 := by
  unfold shift
  rw [Int.zero_mul, Int.zero_add, Int.fdiv_eq_ediv_of_nonneg _ (by omega)]
  exact Int.ediv_eq_zero_of_lt (by omega) (by omega)
theorem shearG_zero {x : List Nat} {d w h c r : Nat} (hd : 1 ≤ d) (hc : c < w) (hr : r < h) : shearG x 0 d w h c r = bitAt x w c r := by
  unfold shearG
  rw [shift_zero hd, Int.sub_zero, at_in hc hr]
theorem sharpBy_zero {w h d : Nat} {x : List Nat} (hd : 1 ≤ d) : sharpBy w h d x 0 = sharp (rowCounts w h (page w h x)) := by
  unfold sharpBy
  rw [rowCounts_page]
  congr 1
  unfold countsOf
  refine List.map_congr_left fun r hr => ?_
  have hr : r < h := List.mem_range.mp hr
  congr 1
  refine List.map_congr_left fun c hc => ?_
  have hc : c < w := List.mem_range.mp hc
  exact shearG_zero hd hc hr
theorem straightest_best {w h m d : Nat} {x : List Nat} (hd : 1 ≤ d) : Best (sharpBy w h d x) (fun k => k.natAbs ≤ m) (straightest w h m d (page w h x)) := by
  have e : straightest w h m d (page w h x) = bestOf (sharpBy w h d x) ((List.range (2 * m + 1)).map fun (j : Nat) => (j : Int) - (m : Int)) (0, sharpBy w h d x 0) := by
    unfold straightest bestOf
    rw [List.foldl_map, sharpBy_zero hd]
    congr 1
    funext b j
    dsimp only
    rw [shearCounts_at]
    rfl
  rw [e]
  refine (Best.run _ (Best.one 0)).congr fun k => ?_
  rw [List.mem_map]
  constructor
  · rintro (h | ⟨j, hj, rfl⟩)
    · rw [h]
      exact Nat.zero_le _
    · have := List.mem_range.mp hj
      omega
  · intro h
    exact .inr ⟨(k + (m : Int)).toNat, List.mem_range.mpr (by omega), by omega⟩
/-! ### gaps -/
def gapStep (most : Nat) (g : List (Nat × Nat)) (a : Nat × Nat) : List (Nat × Nat) := if most < a.1 then g else match g with
  | [] => [(a.2, 1)]
  | p :: q => if p.1 + p.2 = a.2 then (p.1, p.2 + 1) :: q else (a.2, 1) :: g
/-- the gaps among the first i, the last first -/
def gapsTo (most : Nat) (l : List Nat) (i : Nat) : List (Nat × Nat) := (l.zipIdx.take i).foldl (gapStep most) []
theorem gaps_eq (most : Nat) (l : List Nat) : gaps most l = (gapsTo most l l.length).reverse := by
  unfold gapsTo
  rw [List.take_of_length_le (by rw [List.length_zipIdx]; exact Nat.le_refl _)]
  rfl
theorem gapsTo_zero (most : Nat) (l : List Nat) : gapsTo most l 0 = [] := rfl
theorem gapsTo_succ {most : Nat} {l : List Nat} {i a : Nat} (h : l[i]? = some a) : gapsTo most l (i + 1) = gapStep most (gapsTo most l i) (a, i) := by
  unfold gapsTo
  have e : l.zipIdx[i]? = some (a, i) := by
    rw [List.getElem?_zipIdx, h]
    simp
  rw [take_succ_of e, List.foldl_append]
  rfl
theorem gapsTo_above {most : Nat} {l : List Nat} {i a : Nat} (h : l[i]? = some a) (q : most < a) : gapsTo most l (i + 1) = gapsTo most l i := by
  rw [gapsTo_succ h]
  unfold gapStep
  rw [if_pos q]
/-- the last gap ends at i just where the number ahead of i isn't above most -/
def Open (most : Nat) (l : List Nat) (i : Nat) : Prop := ∃ a, 0 < i ∧ l[i - 1]? = some a ∧ a ≤ most
theorem gapsTo_ends {most : Nat} {l : List Nat} : ∀ {i : Nat}, i ≤ l.length → (∀ p ∈ gapsTo most l i, 1 ≤ p.2 ∧ p.1 + p.2 ≤ i) ∧ (Open most l i → ∃ s n q, gapsTo most l i = (s, n) :: q ∧ s + n = i) ∧ (¬ Open most l i → ∀ p ∈ gapsTo most l i, p.1 + p.2 < i ∨ i = 0)
  | 0, _ => ⟨fun p hp => by simp [gapsTo_zero] at hp, fun ⟨a, h, _⟩ => absurd h (by omega), fun _ p hp => by simp [gapsTo_zero] at hp⟩
  | i + 1, hi => by
    have ih := gapsTo_ends (most := most) (l := l) (i := i) (by omega)
    obtain ⟨a, ha⟩ : ∃ a, l[i]? = some a := ⟨_, List.getElem?_eq_getElem (by omega)⟩
    have op : Open most l (i + 1) ↔ a ≤ most := by
      unfold Open
      constructor
      · rintro ⟨b, _, hb, h⟩
        have e : b = a := Option.some.inj (hb.symm.trans ha)
        rw [← e]
        exact h
      · exact fun h => ⟨a, by omega, ha, h⟩
    by_cases q : most < a
    · rw [gapsTo_above ha q]
      refine ⟨fun p hp => ⟨(ih.1 p hp).1, Nat.le_succ_of_le (ih.1 p hp).2⟩, fun z => absurd (op.mp z) (by omega), fun _ p hp => .inl (Nat.lt_succ_of_le (ih.1 p hp).2)⟩
    · rw [gapsTo_succ ha]
      unfold gapStep
      rw [if_neg q]
      have hop : Open most l (i + 1) := op.mpr (by omega)
      cases e : gapsTo most l i with
      | nil =>
        refine ⟨fun p hp => ?_, fun _ => ⟨i, 1, [], rfl, rfl⟩, fun z => absurd hop z⟩
        have hp : p = (i, 1) := by simpa using hp
        subst hp
        exact ⟨Nat.le_refl _, Nat.le_refl _⟩
      | cons p q2 =>
        rw [e] at ih
        dsimp only
        by_cases z : p.1 + p.2 = i
        · rw [if_pos z]
          refine ⟨fun r hr => ?_, fun _ => ⟨p.1, p.2 + 1, q2, rfl, by omega⟩, fun z => absurd hop z⟩
          rcases List.mem_cons.mp hr with rfl | hr
          · exact ⟨by show 1 ≤ p.2 + 1; omega, by show p.1 + (p.2 + 1) ≤ i + 1; omega⟩
          · have := ih.1 r (List.mem_cons_of_mem _ hr)
            exact ⟨this.1, by omega⟩
        · rw [if_neg z]
          refine ⟨fun r hr => ?_, fun _ => ⟨i, 1, _, rfl, rfl⟩, fun z => absurd hop z⟩
          rcases List.mem_cons.mp hr with rfl | hr
          · exact ⟨Nat.le_refl _, Nat.le_refl _⟩
          · have := ih.1 r hr
            exact ⟨this.1, by omega⟩
/-- a gap begins at i -/
theorem gapsTo_new {most : Nat} {l : List Nat} {i a : Nat} (h : l[i]? = some a) (q : a ≤ most) (n : ¬ Open most l i) : gapsTo most l (i + 1) = (i, 1) :: gapsTo most l i := by
  have hi : i < l.length := (List.getElem?_eq_some_iff.mp h).1
  have E := (gapsTo_ends (most := most) (l := l) (i := i) (by omega))
  rw [gapsTo_succ h]
  unfold gapStep
  rw [if_neg (by show ¬ most < a; omega)]
  cases e : gapsTo most l i with
  | nil => rfl
  | cons p r =>
    dsimp only
    have h1 := E.1 p (by rw [e]; simp)
    have h2 := E.2.2 n p (by rw [e]; simp)
    rw [if_neg (by omega)]
/-- the open gap goes on -/
theorem gapsTo_on {most : Nat} {l : List Nat} {i a s n : Nat} {r : List (Nat × Nat)} (h : l[i]? = some a) (q : a ≤ most) (e : gapsTo most l i = (s, n) :: r) (z : s + n = i) : gapsTo most l (i + 1) = (s, n + 1) :: r := by
  rw [gapsTo_succ h, e]
  unfold gapStep
  rw [if_neg (by show ¬ most < a; omega)]
  dsimp only
  rw [if_pos z]
theorem gapsTo_length_le {most : Nat} {l : List Nat} : ∀ {i : Nat}, i ≤ l.length → (gapsTo most l i).length ≤ i
  | 0, _ => Nat.le_refl _
  | i + 1, hi => by
    have ih := gapsTo_length_le (most := most) (l := l) (i := i) (by omega)
    obtain ⟨a, ha⟩ : ∃ a, l[i]? = some a := ⟨_, List.getElem?_eq_getElem (by omega)⟩
    rw [gapsTo_succ ha]
    unfold gapStep
    split
    · omega
    · split
      · exact Nat.succ_le_succ (Nat.zero_le _)
      · rename_i p q e
        rw [e, List.length_cons] at ih
        split
        · rw [List.length_cons]
          omega
        · rw [e, List.length_cons, List.length_cons]
          omega
/-! ### bands -/
def piece (b e : Nat) : List (Nat × Nat) := if b < e then [(b, e - b)] else []
def bandsFrom (n : Nat) : Nat → List (Nat × Nat) → List (Nat × Nat)
  | b, [] => piece b n
  | b, g :: r => piece b g.1 ++ bandsFrom n (g.1 + g.2) r
theorem bandsFrom_eq (n : Nat) : ∀ (cuts : List (Nat × Nat)) (b : Nat), ((((b :: cuts.map fun g => g.1 + g.2).zip ((cuts.map fun g => g.1) ++ [n])).filter fun p => decide (p.1 < p.2)).map fun p => (p.1, p.2 - p.1)) = bandsFrom n b cuts
  | [], b => by
    show (([(b, n)].filter fun p => decide (p.1 < p.2)).map fun p => (p.1, p.2 - p.1)) = piece b n
    unfold piece
    by_cases h : b < n <;> simp [h]
  | g :: r, b => by
    have ih := bandsFrom_eq n r (g.1 + g.2)
    show ((((b, g.1) :: ((g.1 + g.2) :: r.map fun g => g.1 + g.2).zip ((r.map fun g => g.1) ++ [n])).filter fun p => decide (p.1 < p.2)).map fun p => (p.1, p.2 - p.1)) = piece b g.1 ++ bandsFrom n (g.1 + g.2) r
    rw [← ih, List.filter_cons]
    unfold piece
    by_cases h : b < g.1
    · simp [h]
    · simp [h]
theorem bands_eq (most least : Nat) (l : List Nat) : bands most least l = bandsFrom l.length 0 ((gaps most l).filter fun g => decide (least ≤ g.2)) := by
  unfold bands
  exact bandsFrom_eq l.length _ 0
/-! ### margins -/
theorem margin_is {most : Nat} : ∀ {l : List Nat} {j : Nat}, j ≤ l.length → (∀ i a, i < j → l[i]? = some a → a ≤ most) → (∀ a, l[j]? = some a → most < a) → margin most l = j
  | [], j, h, _, _ => by
    have e : j = 0 := by simpa using h
    rw [e]
    rfl
  | b :: l, 0, _, _, h2 => by
    have := h2 b rfl
    unfold margin
    rw [List.takeWhile_cons, if_neg (by simp; omega)]
    rfl
  | b :: l, j + 1, h, h1, h2 => by
    have hb := h1 0 b (by omega) rfl
    have ih := margin_is (most := most) (l := l) (j := j) (by simpa using h) (fun i a hi ha => h1 (i + 1) a (by omega) ha) (fun a ha => h2 a ha)
    unfold margin at *
    rw [List.takeWhile_cons, if_pos (by simp; omega), List.length_cons, ih]
theorem margin_all {most : Nat} {l : List Nat} (h : ∀ a ∈ l, a ≤ most) : margin most l = l.length :=
  margin_is (Nat.le_refl _) (fun i a _ ha => h a (List.mem_of_getElem? ha)) fun a ha => by
    rw [List.getElem?_eq_none (Nat.le_refl _)] at ha
    cases ha
end Pg
/-! Columns of dots, and what a shear makes of them. Plain Lean alone. -/
namespace Pg
open Sh57
theorem range_snoc {α : Type} (f : Nat → α) (n : Nat) : (List.range (n + 1)).map f = (List.range n).map f ++ [f n] := by
  rw [List.range_succ, List.map_append]
  rfl
/-- the rows of the dots of column c -/
def dotsIn (x : List Nat) (w h c : Nat) : List Nat := (List.range h).filter fun r => at_ x w h (c : Int) (r : Int)
def colsOf (x : List Nat) (w h : Nat) : List (List Nat) := (List.range w).map (dotsIn x w h)
theorem colsOf_length (x : List Nat) (w h : Nat) : (colsOf x w h).length = w := by
  unfold colsOf
  rw [List.length_map, List.length_range]
theorem filter_range_succ (p : Nat → Bool) (n : Nat) : (List.range (n + 1)).filter p = (List.range n).filter p ++ (if p n = true then [n] else []) := by
  rw [List.range_succ, List.filter_append]
  congr 1
  by_cases h : p n = true
  · rw [if_pos h, List.filter_cons, if_pos h]
    rfl
  · rw [if_neg h, List.filter_cons, if_neg h]
    rfl
theorem filter_range_len (p : Nat → Bool) (n : Nat) : ((List.range n).filter p).length ≤ n := by
  have := List.length_filter_le p (List.range n)
  rw [List.length_range] at this
  exact this
/-- how many of l are moved by s to row j -/
def hits (s : Int) (l : List Nat) (j : Nat) : Nat := l.countP fun (r : Nat) => decide ((r : Int) + s = (j : Int))
theorem hits_nil (s : Int) (j : Nat) : hits s [] j = 0 := rfl
theorem hits_snoc (s : Int) (l : List Nat) (r j : Nat) : hits s (l ++ [r]) j = hits s l j + (if (r : Int) + s = (j : Int) then 1 else 0) := by
  unfold hits
  rw [List.countP_append, List.countP_singleton]
  by_cases h : (r : Int) + s = (j : Int) <;> simp [h]
theorem hits_le (s : Int) (l : List Nat) (j : Nat) : hits s l j ≤ l.length := List.countP_le_length
/-- .. of the first n columns -/
def tally (S : Nat → Int) (cs : List (List Nat)) (n j : Nat) : Nat := ((List.range n).map fun c => hits (S c) (cs.getD c []) j).sum
theorem tally_zero (S : Nat → Int) (cs : List (List Nat)) (j : Nat) : tally S cs 0 j = 0 := rfl
theorem tally_succ (S : Nat → Int) (cs : List (List Nat)) (n j : Nat) : tally S cs (n + 1) j = tally S cs n j + hits (S n) (cs.getD n []) j := by
  unfold tally
  rw [range_snoc, List.sum_append, List.sum_cons, List.sum_nil, Nat.add_zero]
theorem countP_one (p : Nat → Bool) (z : Int) : ∀ n : Nat, ((List.range n).filter p).countP (fun (r : Nat) => decide ((r : Int) = z)) = if 0 ≤ z ∧ z < (n : Int) ∧ p z.toNat = true then 1 else 0
  | 0 => by
    rw [if_neg (by omega)]
    rfl
  | n + 1 => by
    rw [filter_range_succ, List.countP_append, countP_one p z n]
    by_cases e : (n : Int) = z
    · have e2 : z.toNat = n := by omega
      rw [if_neg (by omega), e2]
      by_cases q : p n = true
      · rw [if_pos q, if_pos ⟨by omega, by omega, q⟩, List.countP_singleton]
        simp [e]
      · rw [if_neg q, if_neg (by intro z; exact q z.2.2)]
        rfl
    · have e3 : (if p n = true then [n] else []).countP (fun (r : Nat) => decide ((r : Int) = z)) = 0 := by
        split
        · rw [List.countP_singleton]
          simp [e]
        · rfl
      rw [e3, Nat.add_zero]
      by_cases q : 0 ≤ z ∧ z < (n : Int) ∧ p z.toNat = true
      · rw [if_pos q, if_pos ⟨q.1, by omega, q.2.2⟩]
      · rw [if_neg q, if_neg (by intro y; exact q ⟨y.1, by omega, y.2.2⟩)]
theorem hits_dots (x : List Nat) (w h c : Nat) (s : Int) (j : Nat) : hits s (dotsIn x w h c) j = if at_ x w h (c : Int) ((j : Int) - s) = true then 1 else 0 := by
  unfold hits dotsIn
  have e : (fun r : Nat => decide ((r : Int) + s = (j : Int))) = fun r : Nat => decide ((r : Int) = (j : Int) - s) := by
    funext r
    exact decide_eq_decide.mpr ⟨fun z => by omega, fun z => by omega⟩
  rw [e, countP_one]
  by_cases q : 0 ≤ (j : Int) - s ∧ (j : Int) - s < (h : Int)
  · have e2 : (((j : Int) - s).toNat : Int) = (j : Int) - s := by omega
    rw [e2]
    by_cases p : at_ x w h (c : Int) ((j : Int) - s) = true
    · rw [if_pos p, if_pos ⟨q.1, q.2, p⟩]
    · rw [if_neg p, if_neg (fun z => p z.2.2)]
  · rw [if_neg (fun z => q ⟨z.1, z.2.1⟩), at_out (by omega), if_neg (by simp)]
theorem tally_cols (x : List Nat) (w h : Nat) (S : Nat → Int) (j : Nat) : ∀ n, n ≤ w → tally S (colsOf x w h) n j = cnt ((List.range n).map fun (c : Nat) => at_ x w h (c : Int) ((j : Int) - S c))
  | 0, _ => rfl
  | n + 1, hn => by
    rw [tally_succ, tally_cols x w h S j n (by omega), cnt_range_succ]
    congr 1
    have e : (colsOf x w h).getD n [] = dotsIn x w h n := by
      unfold colsOf
      rw [List.getD_eq_getElem?_getD, List.getElem?_map, List.getElem?_range (by omega)]
      rfl
    rw [e, hits_dots]
theorem tally_shear (x : List Nat) (k : Int) (d w h : Nat) : ((List.range h).map fun (j : Nat) => tally (fun c => shift w k d c) (colsOf x w h) w j) = countsOf w h (shearG x k d w h) := by
  unfold countsOf
  refine List.map_congr_left fun j _ => ?_
  rw [tally_cols x w h _ j w (Nat.le_refl _)]
  rfl
theorem set_range_map {α : Type} {h j : Nat} (f : Nat → α) (v : α) : ((List.range h).map f).set j v = (List.range h).map fun i => if i = j then v else f i := by
  apply List.ext_getElem?
  intro i
  rw [List.getElem?_set, List.length_map, List.length_range, List.getElem?_map, List.getElem?_map]
  by_cases e : j = i
  · subst e
    rw [if_pos rfl]
    by_cases q : j < h
    · rw [if_pos q, List.getElem?_range q]
      simp
    · rw [if_neg q, List.getElem?_eq_none (by rw [List.length_range]; omega)]
      rfl
  · rw [if_neg e]
    by_cases q : i < h
    · rw [List.getElem?_range q]
      show some (f i) = some (if i = j then v else f i)
      rw [if_neg (fun z => e z.symm)]
    · rw [List.getElem?_eq_none (by rw [List.length_range]; omega)]
      rfl
end Pg
/-! The counts of a page's columns and rows, and its margins. Plain Lean alone. -/
namespace Pg
open Sh57
theorem filter_len_cnt (p : Nat → Bool) : ∀ n, ((List.range n).filter p).length = cnt ((List.range n).map p)
  | 0 => rfl
  | n + 1 => by
    rw [filter_range_succ, List.length_append, filter_len_cnt p n, cnt_range_succ]
    congr 1
    split <;> rfl
theorem dotsIn_length {x : List Nat} {w h c : Nat} (hc : c < w) : (dotsIn x w h c).length = cnt ((List.range h).map fun r => bitAt x w c r) := by
  unfold dotsIn
  rw [filter_len_cnt]
  congr 1
  refine List.map_congr_left fun r hr => ?_
  exact at_in hc (List.mem_range.mp hr)
theorem across_eq (x : List Nat) (w h : Nat) : (colsOf x w h).map List.length = columnCounts w h (page w h x) := by
  rw [columnCounts_page]
  unfold colsOf
  rw [List.map_map]
  refine List.map_congr_left fun c hc => ?_
  exact dotsIn_length (List.mem_range.mp hc)
theorem down_eq (x : List Nat) (w h : Nat) : countsOf w h (shearG x 0 1 w h) = rowCounts w h (page w h x) := by
  rw [rowCounts_page]
  unfold countsOf
  refine List.map_congr_left fun r hr => ?_
  congr 1
  refine List.map_congr_left fun c hc => ?_
  exact shearG_zero (Nat.le_refl _) (List.mem_range.mp hc) (List.mem_range.mp hr)
theorem columnCounts_length (x : List Nat) (w h : Nat) : (columnCounts w h (page w h x)).length = w := by
  rw [← across_eq, List.length_map, colsOf_length]
theorem rowCounts_length (x : List Nat) (w h : Nat) : (rowCounts w h (page w h x)).length = h := by
  rw [← down_eq, countsOf_length]
def okP (w h : Int) : Bool := sized w.toNat h.toNat
theorem okP_iff {w h : Int} (hw : 0 ≤ w) (hh : 0 ≤ h) : okP w h = true ↔ (1 ≤ w ∧ w ≤ 256) ∧ (1 ≤ h ∧ h ≤ 256) := by
  unfold okP sized among
  simp only [Bool.and_eq_true, decide_eq_true_eq]
  omega
theorem margins_bad {most w h : Int} {x : List Int} (q : okP w h = false) : PySh57.st_margins most w h x = [-2] := by
  show Sh57Neutral.told (answer (if okP w h = true then _ else .bad)) = _
  rw [q]
  rfl
theorem margins_ok {most w h : Int} {x : List Int} (q : okP w h = true) : PySh57.st_margins most w h x = 0 :: (margins w.toNat h.toNat most.toNat (page w.toNat h.toNat (natsOf x))).map Int.ofNat := by
  show Sh57Neutral.told (answer (if okP w h = true then .margins most.toNat w.toNat h.toNat (natsOf x) else .bad)) = _
  rw [q, if_pos rfl]
  rfl
theorem asked_lenP {most w h : Int} {x : List Int} (q : Sh57Neutral.asked [[8, most, w, h], x] = true) (ok : okP w h = true) : x.length = h.toNat * wide w.toNat := by
  have q1 : Sh57Neutral.asked1 [[8, most, w, h], x] = true := by
    unfold Sh57Neutral.asked at q
    rw [Bool.and_eq_true] at q
    exact q.1
  have q2 : (if okP w h = true then x.length == h.toNat * ((w.toNat + 31) / 32) else (x.isEmpty) || (x.length == h.toNat * ((w.toNat + 31) / 32))) = true := by
    simp only [Sh57Neutral.asked1, Bool.and_eq_true] at q1
    exact q1.2.2.2.2
  rw [ok, if_pos rfl] at q2
  exact eq_of_beq q2
end Pg
/-! list(reversed(xs)), which no rule of the layer serves -/
namespace Pg
open PySem PySem.Spec PyProof.Rows L2 RT
section
variable {pr : Program} {wo : World} {B : Around} {R : Result → Shared → Prop} {σ : Shared} {it l S : Addr} {items : Array Value}
/-- a list made longer by what a reversed list gives -/
theorem extRev {res : Value} {ep : Nat} (hh : B.handled = none) (hit : σ.heap.IsRevIter it l ((items.size : Int) - 1)) (hl : σ.heap.IsList l items) (nli : l ≠ it) (hn : items.size ≤ sizeLine) (nSi : S ≠ it) (nSl : S ≠ l) (hS : σ.heap.get? S = some { cls := .type "list", data := .seq #[] ep })
    (hR : ∀ (g : Heap) (tk : Nat) (acc : Array Value) (c : Nat), (∀ b o, b ≠ it → b ≠ S → σ.heap.get? b = some o → g.get? b = some o) → g.get? S = some { cls := .type "list", dict := none, data := .seq acc c, slots := #[] } → ItemsOf (fun i v => items[items.size - 1 - i]? = some v) acc items.size → R (.ok (.ret res)) { σ with heap := g, toks := tk }) :
    wpAny (model pr wo) B.in1 (Builtin.List.listExtendWith (.ref S) (.ref it) res) (fun fin s' => match fin with | .done f => R (.ok f) s' | .again c' => c'.quiet = true ∧ codeAny (model pr wo) B c' R s') (fun e s' => R (.error e) s') σ := by
  have W := (Walks.listRev (prog := pr) (w := wo) (A := B.in1) hh it l nli items).toS
  have hSf : S ∉ [it, l] := by
    simp only [List.mem_cons, List.not_mem_nil, or_false, not_or]
    exact ⟨nSi, nSl⟩
  have hT : σ.TypeIs (.ref it) "list_reverseiterator" := hit.typeIs
  have k1 : Builtin.List.listSameRef (.ref S) (.ref it) = false := by simp [Builtin.List.listSameRef, nSi]
  unfold Builtin.List.listExtendWith; refine wpAny_bind (wpAny_typeOf hT ?_); rw [if_neg (by rw [k1]; decide)]
  refine wpAny_bind (wpAny_pyIter_revIter hit (wpAny_bind (wpAny_holding ?_)))
  unfold Builtin.List.listLengthHint; refine wpAny_bind (wpAny_specialOf hT nolen_lri ?_)
  show wpAny _ B.in1 (specialOf (Value.ref it) (Str.ofString "__length_hint__") >>= _) _ _ _; refine wpAny_bind (wpAny_specialOf hT hint_lri ?_)
  generalize enm : ("list_reverseiterator.__length_hint__" : String) = nm; wp_delta; rw [show splitId nm = some ("list_reverseiterator", "__length_hint__") from by subst enm; decide +kernel]; subst enm
  refine wpAny_bind (wpAny_isInstance (b := true) hT (by rw [isSubtype_type]; kernel_rfl) (wpAny_pure ?_))
  rw [if_neg (by decide)]
  have e0 : ((items.size : Nat) : Int) - 1 - ((0 : Nat) : Int) = (items.size : Int) - 1 := Int.sub_zero _
  refine wpAny_pure ⟨plainId_quiet F.plain_extend_loop _, codeAny_extend_loopS W hn _ hSf _ items.size 0 _ _ _ rfl (Nat.zero_le _) ⟨Nat.zero_le _, by rw [e0]; exact hit, hl⟩ hS (ItemsOf.nil _) fun s' acc c hm hS' hacc => ?_⟩
  rw [Moved.eq_with hm]
  refine hR s'.heap s'.toks acc c (fun b o nb nbS e => hm.heap b o (fun hmem => ?_) e) hS' hacc
  rcases List.mem_cons.mp hmem with z | z
  · exact nbS z
  · exact nb (List.mem_singleton.mp z)
theorem initRev (hh : B.handled = none) (hit : σ.heap.IsRevIter it l ((items.size : Int) - 1)) (hl : σ.heap.IsList l items) (nli : l ≠ it) (hn : items.size ≤ sizeLine) (nSi : S ≠ it) (nSl : S ≠ l) (hS : σ.heap.get? S = some { cls := .type "list", data := .seq #[] })
    (hR : ∀ (g : Heap) (tk : Nat) (acc : Array Value) (c : Nat), (∀ b o, b ≠ it → b ≠ S → σ.heap.get? b = some o → g.get? b = some o) → g.get? S = some { cls := .type "list", dict := none, data := .seq acc c, slots := #[] } → ItemsOf (fun i v => items[items.size - 1 - i]? = some v) acc items.size → R (.ok (.ret .none)) { σ with heap := g, toks := tk }) :
    wpAny (model pr wo) B.in1 (Builtin.«list.__init__» ⟨[.ref S, .ref it], []⟩) (fun fin s' => match fin with | .done f => R (.ok f) s' | .again c' => c'.quiet = true ∧ codeAny (model pr wo) B c' R s') (fun e s' => R (.error e) s') σ := by
  show wpAny _ B.in1 (do let old ← Builtin.List.listItems (.ref S); Builtin.List.listUpdate (.ref S) (fun _ => #[]); letGo old.toList.reverse; Builtin.List.listExtendWith (.ref S) (.ref it) .none) _ _ σ
  refine wpAny_bind ?_
  unfold Builtin.List.listItems; refine wpAny_bind (wpAny_seqItems hS rfl (wpAny_pure ?_))
  show wpAny _ B.in1 (updateSeq S (fun _ => #[]) >>= fun _ => letGo (#[] : Array Value).toList.reverse >>= fun _ => Builtin.List.listExtendWith (.ref S) (.ref it) .none) _ _ σ
  refine wpAny_bind (wpAny_updateSeq hS rfl (wpAny_bind (wpAny_letGo ?_)))
  have hNew := Heap.get?_update_self (Obj.mapSeq (fun _ => (#[] : Array Value))) hS rfl
  have oth : ∀ b o, b ≠ S → σ.heap.get? b = some o → (σ.heap.update S (Obj.mapSeq (fun _ => (#[] : Array Value)))).get? b = some o := fun b o nb e => (Heap.get?_update_other _ _ (Ne.symm nb)).trans e
  exact extRev hh (hit.at fun o e => oth _ _ (Ne.symm nSi) e) (hl.at fun o e => oth _ _ (Ne.symm nSl) e) nli hn nSi nSl hNew fun g tk acc c hk hg ha => hR g tk acc c (fun b o nb nbS e => hk b o nb nbS (oth b o nbS e)) hg ha
end
section
variable {pr : Program} {wo : World} {B : Around} {Ex : Value → Shared → Prop} {σ : Shared} {it l : Addr} {items : Array Value}
theorem callListRev {Q : Value → Shared → Prop} (hh : B.handled = none) (hit : σ.heap.IsRevIter it l ((items.size : Int) - 1)) (hl : σ.heap.IsList l items) (nli : l ≠ it) (hn : items.size ≤ sizeLine)
    (hQ : ∀ (g : Heap) (tk : Nat) (acc : Array Value) (c : Nat), (∀ b o, b ≠ it → σ.heap.get? b = some o → g.get? b = some o) → g.get? σ.heap.objs.size = some { cls := .type "list", dict := none, data := .seq acc c, slots := #[] } → ItemsOf (fun i v => items[items.size - 1 - i]? = some v) acc items.size → Q (.ref σ.heap.objs.size) { σ with heap := g, toks := tk }) :
    wpAny (model pr wo) B (call (.type "list") [.ref it]) Q Ex σ := by
  obtain ⟨oi, hoi, _⟩ := id hit
  obtain ⟨ol, hol, _⟩ := id hl
  refine callType_codes (Q₁ := fun obj s1 => obj = .ref σ.heap.objs.size ∧ s1 = { σ with heap := σ.heap.push { cls := .type "list", data := .seq #[] } }) F.called_list (F.typeCall_list_1 _) F.entry_list_init (code_list_new _ ⟨rfl, rfl⟩) fun obj s1 ⟨e1, e2⟩ => ?_
  subst e1 e2
  have hS : (σ.heap.push { cls := .type "list", data := .seq #[] }).get? σ.heap.objs.size = some { cls := .type "list", data := .seq #[] } := Heap.get?_push_size _ rfl
  refine ⟨⟨_, hS, rfl⟩, F.args_list_init_2 _ _, initRev (σ := { σ with heap := σ.heap.push { cls := .type "list", data := .seq #[] } }) hh (hit.at fun o e => Heap.get?_push_of_some _ e) (hl.push _) nli hn (Nat.ne_of_gt (Heap.lt_size hoi)) (Nat.ne_of_gt (Heap.lt_size hol)) hS fun g tk acc c hk hg ha => ⟨rfl, ?_⟩⟩
  exact hQ g tk acc c (fun b o nb e => hk b o nb (Nat.ne_of_lt (Heap.lt_size e)) (Heap.get?_push_of_some _ e)) hg ha
end
/-- list(reversed(xs)), xs a list: a new list -/
def tListRev (K : PySem.W.Frag) (te : TE) : TE := fun σ H Q => te σ H fun v H1 => ∃ (a : Addr) (xs : List V), v = .ref a ∧ SqL K H1 a xs ∧ ∀ q, H1 q = none → Q (.ref q) (upd H1 q (.lst xs.reverse))
theorem pe_listRev {X : Cx} {e : Expr} {te : TE} {p p2 pos pos2 : Pos} (hc : X.calm = true) (hg : Gl X "list") (hm : X.mg "list" = none) (hg2 : Gl X "reversed") (hm2 : X.mg "reversed" = none) (he : PE X e te)
    (hs : starEach [e] X.env = (false, eval e X.env) :: starEach [] X.env := by rfl) (hs2 : starEach [.Call (.Name "reversed" p2) [e] [] pos2] X.env = (false, eval (.Call (.Name "reversed" p2) [e] [] pos2) X.env) :: starEach [] X.env := by rfl) :
    PE X (.Call (.Name "list" p) [.Call (.Name "reversed" p2) [e] [] pos2] [] pos) (tListRev X.K te) := by
  refine ⟨fun pins s σ H Q I h => ?_⟩
  refine Call_ (ld_blt I hg hm boot_list (callWith_type1 (args_cons (Call_ (ld_blt I hg2 hm2 boot_reversed (callWith_type1 (args_cons (thn (he.run pins s σ H _ I h) fun u s1 ⟨v, H1, I1, r1, q1⟩ => args_nil ?_) hs) hs rfl))) hs2) hs2 rfl))
  obtain ⟨a, xs, rfl, hq, q⟩ := q1
  cases r1
  obtain ⟨its, rv, pl, hz⟩ := I1.list hq
  refine call_reversed_list pl.isList (args_nil ?_)
  have ll := pl.isList
  obtain ⟨ol, hol, _⟩ := id ll
  have hn : its.toArray.size ≤ sizeLine := by
    rw [List.size_toArray, ← rv.length]
    exact hz
  have hle : s1.heap.objs.size ≤ (s1.heap.push (revObj a ((its.toArray.size : Int) - 1))).objs.size := by
    rw [Heap.size_push]
    exact Nat.le_succ _
  refine callListRev (σ := { s1 with heap := s1.heap.push (revObj a ((its.toArray.size : Int) - 1)) }) (I1.ok.hd hc) ⟨_, Heap.get?_push_size _ rfl, rfl, rfl⟩ (ll.push _) (Nat.ne_of_lt (Heap.lt_size hol)) hn fun g tk acc c hk hgS hi => ?_
  refine ⟨.ref _, upd H1 (s1.heap.push (revObj a ((its.toArray.size : Int) - 1))).objs.size (.lst xs.reverse), I1.laid (t' := tk) (fun b o e => hk b o (Nat.ne_of_lt (Heap.lt_size e)) (Heap.get?_push_of_some _ e)) hle (show ObjOk X.prog X.w _ _ _ (.lst xs.reverse) from ⟨by rw [List.length_reverse]; exact hz, acc.toList, c, vals_rev rv hi, ?_⟩), rfl, q _ (I1.hok.fresh hle)⟩
  rw [Array.toArray_toList]
  exact hgS
end Pg
namespace Pg
open PySem PySem.Spec PyProof.Rows L2
open PySem.W (Codec)
/-! ### the text by places -/
def top (i : Nat) : Stmt := PySem.Challenge.pw_pagestraight_s09_st_margins.main.body.getD i (.Pass ⟨0, 0, 0, 0⟩)
abbrev s_side_in_range : Stmt := top 3
abbrev s_shear_move : Stmt := top 4
abbrev s_shear_moves : Stmt := top 5
abbrev s_words_in_row : Stmt := top 6
abbrev s_dot_at : Stmt := top 7
abbrev s_dots_in_column : Stmt := top 8
abbrev s_columns_of_dots : Stmt := top 9
abbrev s_sheared_counts : Stmt := top 10
abbrev s_counts_down : Stmt := top 11
abbrev s_counts_across : Stmt := top 12
abbrev s_ahead_of_first_above : Stmt := top 13
abbrev s_st_margins : Stmt := top 14
/-! ### small things -/
theorem same_upd {H : Hp} {p : Addr} {o : HO} (h : H p = none) : Same H (upd H p o) := fun b x e => by
  rw [upd_ne (ne_of_none e h)]
  exact e
def b2 (b : Bool) : Int := if b = true then 1 else 0
/-- natural numbers as values -/
def vN (l : List Nat) : List V := l.map fun (n : Nat) => V.int (n : Int)
def vB (l : List Bool) : List V := l.map fun b => V.int (b2 b)
def vI (l : List Int) : List V := l.map V.int
theorem vN_length (l : List Nat) : (vN l).length = l.length := by
  unfold vN
  rw [List.length_map]
theorem vB_length (l : List Bool) : (vB l).length = l.length := by
  unfold vB
  rw [List.length_map]
theorem vI_length (l : List Int) : (vI l).length = l.length := by
  unfold vI
  rw [List.length_map]
theorem small {n m : Nat} (h : n ≤ m) (hm : m < sizeLine) : n < sizeLine := Nat.lt_of_le_of_lt h hm
theorem line_big : 10000000 < sizeLine := by decide
/-- a number of the file's top -/
theorem pe_gi {X : Cx} {x : Str} {i : Int} {t : Tok} {pos : Pos} (hg : Gl X x) (hm : X.mg x = some (.int i t)) (hd : (x == ("__debug__" : Str)) = false := by decide) : PE X (.Name x pos) (tC (.int i)) := pe_glob (v := .int i) hg hm ⟨_, rfl⟩ hd
/-- within a comprehension: the written part is the def's own -/
theorem ix_listK {X : Cx} {K : PySem.W.Frag} (h : X.K = K) : IxR X (rIxL K) := by
  subst h
  exact ix_list
/-! ### what the top has written -/
structure Txt (K : PySem.W.Frag) (mg : Str → Option Value) where
  t_WORD_BITS : Tok
  WORD_BITS : mg "WORD_BITS" = some (.int 32 t_WORD_BITS)
  t_LARGEST_SIDE : Tok
  LARGEST_SIDE : mg "LARGEST_SIDE" = some (.int 256 t_LARGEST_SIDE)
  f_side_in_range : Addr
  fd_side_in_range : FuncData
  F_side_in_range : Fun K "side_in_range" "side_in_range" s_side_in_range f_side_in_range fd_side_in_range
  b_side_in_range : Binds K fd_side_in_range ["side"] []
  g_side_in_range : mg "side_in_range" = some (.ref f_side_in_range)
  f_shear_move : Addr
  fd_shear_move : FuncData
  F_shear_move : Fun K "shear_move" "shear_move" s_shear_move f_shear_move fd_shear_move
  b_shear_move : Binds K fd_shear_move ["k", "d", "w", "c"] []
  g_shear_move : mg "shear_move" = some (.ref f_shear_move)
  f_shear_moves : Addr
  fd_shear_moves : FuncData
  F_shear_moves : Fun K "shear_moves" "shear_moves" s_shear_moves f_shear_moves fd_shear_moves
  b_shear_moves : Binds K fd_shear_moves ["k", "d", "w"] []
  g_shear_moves : mg "shear_moves" = some (.ref f_shear_moves)
  f_words_in_row : Addr
  fd_words_in_row : FuncData
  F_words_in_row : Fun K "words_in_row" "words_in_row" s_words_in_row f_words_in_row fd_words_in_row
  b_words_in_row : Binds K fd_words_in_row ["w"] []
  g_words_in_row : mg "words_in_row" = some (.ref f_words_in_row)
  f_dot_at : Addr
  fd_dot_at : FuncData
  F_dot_at : Fun K "dot_at" "dot_at" s_dot_at f_dot_at fd_dot_at
  b_dot_at : Binds K fd_dot_at ["x", "w", "h", "c", "r"] []
  g_dot_at : mg "dot_at" = some (.ref f_dot_at)
  f_dots_in_column : Addr
  fd_dots_in_column : FuncData
  F_dots_in_column : Fun K "dots_in_column" "dots_in_column" s_dots_in_column f_dots_in_column fd_dots_in_column
  b_dots_in_column : Binds K fd_dots_in_column ["x", "w", "h", "c"] []
  g_dots_in_column : mg "dots_in_column" = some (.ref f_dots_in_column)
  f_columns_of_dots : Addr
  fd_columns_of_dots : FuncData
  F_columns_of_dots : Fun K "columns_of_dots" "columns_of_dots" s_columns_of_dots f_columns_of_dots fd_columns_of_dots
  b_columns_of_dots : Binds K fd_columns_of_dots ["x", "w", "h"] []
  g_columns_of_dots : mg "columns_of_dots" = some (.ref f_columns_of_dots)
  f_sheared_counts : Addr
  fd_sheared_counts : FuncData
  F_sheared_counts : Fun K "sheared_counts" "sheared_counts" s_sheared_counts f_sheared_counts fd_sheared_counts
  b_sheared_counts : Binds K fd_sheared_counts ["k", "d", "h", "columns"] []
  g_sheared_counts : mg "sheared_counts" = some (.ref f_sheared_counts)
  f_counts_down : Addr
  fd_counts_down : FuncData
  F_counts_down : Fun K "counts_down" "counts_down" s_counts_down f_counts_down fd_counts_down
  b_counts_down : Binds K fd_counts_down ["columns", "h"] []
  g_counts_down : mg "counts_down" = some (.ref f_counts_down)
  f_counts_across : Addr
  fd_counts_across : FuncData
  F_counts_across : Fun K "counts_across" "counts_across" s_counts_across f_counts_across fd_counts_across
  b_counts_across : Binds K fd_counts_across ["columns"] []
  g_counts_across : mg "counts_across" = some (.ref f_counts_across)
  f_ahead_of_first_above : Addr
  fd_ahead_of_first_above : FuncData
  F_ahead_of_first_above : Fun K "ahead_of_first_above" "ahead_of_first_above" s_ahead_of_first_above f_ahead_of_first_above fd_ahead_of_first_above
  b_ahead_of_first_above : Binds K fd_ahead_of_first_above ["counts", "most"] []
  g_ahead_of_first_above : mg "ahead_of_first_above" = some (.ref f_ahead_of_first_above)
  f_st_margins : Addr
  fd_st_margins : FuncData
  F_st_margins : Fun K "st_margins" "st_margins" s_st_margins f_st_margins fd_st_margins
  b_st_margins : Binds K fd_st_margins ["most", "w", "h", "x"] []
  g_st_margins : mg "st_margins" = some (.ref f_st_margins)
  m_len : mg "len" = none
  m_list : mg "list" = none
  m_range : mg "range" = none
  m_reversed : mg "reversed" = none
section
variable {P : Program} {w : World} {K : PySem.W.Frag} {mg : Str → Option Value} {base : Heap}
/-! ### lists of numbers, changed -/
theorem rep_zero (n : Nat) : (List.replicate n [V.int 0]).flatten = vN (List.replicate n 0) := by
  induction n with
  | zero => rfl
  | succ n ih =>
    rw [List.replicate_succ, List.flatten_cons, ih]
    rfl
theorem vN_set (l : List Nat) (j n : Nat) : (vN l).set j (V.int (n : Int)) = vN (l.set j n) := by
  unfold vN
  rw [List.map_set]
theorem ixN_nat {n j : Nat} {z : Int} (e : z = (j : Int)) (h : j < n) : ixN n z = some j := by
  subst e
  unfold ixN
  simp [h]
/-! ### lists handed in -/
theorem map_range_succ {α : Type} (f : Nat → α) (n : Nat) : (List.range (n + 1)).map f = (List.range n).map f ++ [f n] := by
  rw [List.range_succ, List.map_append]
  rfl
theorem vI_nats {x : List Int} (h : ∀ z ∈ x, 0 ≤ z) : vI x = vN (natsOf x) := by
  unfold vI vN natsOf Sh57Neutral.nats
  rw [List.map_map]
  refine List.map_congr_left fun z hz => ?_
  have := h z hz
  show V.int z = V.int ((z.toNat : Nat) : Int)
  rw [Int.toNat_of_nonneg this]
theorem vI_ofNat (l : List Nat) : vI (l.map Int.ofNat) = vN l := by
  unfold vI vN
  rw [List.map_map]
  rfl
theorem vN_getD {l : List Nat} {i : Nat} (h : i < l.length) : (vN l)[i]? = some (V.int ((l.getD i 0 : Nat) : Int)) := by
  unfold vN
  rw [List.getElem?_map, List.getD_eq_getElem?_getD, List.getElem?_eq_getElem h]
  rfl
theorem vN_append (a b : List Nat) : vN (a ++ b) = vN a ++ vN b := by
  unfold vN
  rw [List.map_append]
/-! ### side_in_range -/
def sideB (n : Int) : Bool := decide (1 ≤ n ∧ n ≤ 256)
def spSide : Sp := fun vs H Q _ => ∃ n : Int, vs = [.int n] ∧ Q (.bl (sideB n)) H
theorem scSide : FnScope ["side"] ["side"] (defScope s_side_in_range) := ⟨rfl, rfl, rfl, by decide +kernel, rfl, by decide +kernel, by decide +kernel⟩
theorem ok_side {k : Nat} (T : Txt K mg) : FnOk P w K mg base CX0 (k + 1) T.f_side_in_range T.fd_side_in_range ["side"] spSide := by
  refine T.F_side_in_range.ok scSide (fun vs H Q E h => ?_) (fun cdv A outer s H vs Q E hr h => ?_)
  · obtain ⟨n, rfl, _⟩ := h
    rfl
  · obtain ⟨n, rfl, q⟩ := h
    refine ⟨_, pss_one (ps_ret (pe_chain op_le op_le pe_int (pv 0) (pe_gi rfl T.LARGEST_SIDE))), ?_⟩
    refine ⟨_, rfl, _, _, rfl, rfl, _, rfl, ite2 (fun e => ?_) (fun e => ?_)⟩
    · have e : (1 : Int) ≤ n := of_decide_eq_true e
      refine ⟨_, _, rfl, rfl, ?_⟩
      have e2 : sideB n = decide (n ≤ 256) := by
        unfold sideB
        exact decide_eq_decide.mpr ⟨fun z => z.2, fun z => ⟨e, z⟩⟩
      rw [e2] at q
      exact q
    · have e : ¬ (1 : Int) ≤ n := fun z => e (decide_eq_true z)
      have e2 : sideB n = false := decide_eq_false fun z => e z.1
      rw [e2] at q
      exact q
/-! ### shear_move -/
def spMove : Sp := fun vs H Q _ => ∃ (k : Int) (d w c : Nat), vs = [.int k, .int (d : Int), .int (w : Int), .int (c : Int)] ∧ (-4096 ≤ k ∧ k ≤ 4096) ∧ (1 ≤ d ∧ d ≤ 4096) ∧ Q (.int (Sh57.shift w k d c)) H
theorem scMove : FnScope ["k", "d", "w", "c"] ["k", "d", "w", "c"] (defScope s_shear_move) := ⟨rfl, rfl, rfl, by decide +kernel, rfl, by decide +kernel, by decide +kernel⟩
theorem ok_move {k : Nat} (T : Txt K mg) : FnOk P w K mg base CX0 (k + 1) T.f_shear_move T.fd_shear_move ["k", "d", "w", "c"] spMove := by
  refine T.F_shear_move.ok scMove (fun vs H Q E h => ?_) (fun cdv A outer s H vs Q E hr h => ?_)
  · obtain ⟨k, d, w, c, rfl, _⟩ := h
    rfl
  · obtain ⟨k, d, w, c, rfl, hk, hd, q⟩ := h
    refine ⟨_, pss_one (ps_ret (pe_op op_fdivN (pe_op op_add (pe_op op_mul (pv 0) (pe_op op_sub (pe_op op_mul pe_int (pv 3)) (pe_op op_sub (pv 2) pe_int))) (pv 1)) (pe_op op_mul pe_int (pv 1)))), ?_⟩
    refine ⟨_, rfl, _, rfl, _, _, rfl, rfl, .inl ⟨by decide, by decide⟩, _, rfl, _, _, rfl, rfl, _, _, rfl, rfl, _, _, rfl, rfl, .inl ⟨by omega, by omega⟩, _, rfl, _, _, rfl, rfl, _, rfl, _, _, rfl, rfl, .inl ⟨by decide, by decide⟩, _, _, rfl, rfl, ⟨by omega, by omega⟩, ?_⟩
    exact q
/-! ### shear_moves -/
def movesL (k : Int) (d n : Nat) : List V := (List.range n).map fun c => V.int (Sh57.shift n k d c)
def spMoves : Sp := fun vs H Q _ => ∃ (k : Int) (d n : Nat), vs = [.int k, .int (d : Int), .int (n : Int)] ∧ (-4096 ≤ k ∧ k ≤ 4096) ∧ (1 ≤ d ∧ d ≤ 4096) ∧ n ≤ 4096 ∧
  ∀ H' p, Same H H' → H p = none → H' p = some (.lst (movesL k d n)) → Q (.ref p) H'
theorem scMoves : FnScope ["k", "d", "w", "c"] ["k", "d", "w"] (defScope s_shear_moves) := ⟨rfl, rfl, rfl, by decide +kernel, rfl, by decide +kernel, by decide +kernel⟩
theorem ok_moves {k : Nat} (T : Txt K mg) : FnOk P w K mg base CX0 (k + 2) T.f_shear_moves T.fd_shear_moves ["k", "d", "w"] spMoves := by
  refine T.F_shear_moves.ok scMoves (fun vs H Q E h => ?_) (fun cdv A outer s H vs Q E hr h => ?_)
  · obtain ⟨k, d, n, rfl, _⟩ := h
    rfl
  · obtain ⟨k, d, n, rfl, hk, hd, hn, q⟩ := h
    refine ⟨_, pss_one (ps_ret (pe_lc (own := [("c", 3)]) (g := gName 3) (tt := tYes) rfl scMoves.nd (pi_range1 rfl T.m_range (pa_cons (pv 2) pa_nil)) (blkOk_by (N := ["k", "d", "w", "c"]) (sc := defScope s_shear_moves) (by decide +kernel))
      (fun _ _ _ _ _ => pg_name (i := 3) scMoves.nd rfl (Or.inl rfl)) (fun _ _ _ _ _ => pts_nil)
      (fun _ _ _ _ _ => pe_call (ok_move T) hr rfl T.g_shear_move T.F_shear_move.kp T.b_shear_move .nil pass0 (pa_cons (pv 0) (pa_cons (pv 1) (pa_cons (pv 2) (pa_cons (pv 3) pa_nil))))))), ?_⟩
    refine ⟨_, rfl, (n : Int), rfl, by omega, by omega, fun D hD => ?_⟩
    refine lc_range (lo := 0) (n := n) (fun i H' => Same H H' ∧ H' D = some (.lst ((List.range i).map fun c => V.int (Sh57.shift n k d c)))) ⟨same_upd hD, upd_same⟩ (fun i H' hi ⟨sm, e⟩ => ?_) (fun H' ⟨sm, e⟩ => q H' D sm hD e)
    refine ⟨rfl, ?_⟩
    refine ⟨_, rfl, _, rfl, _, rfl, _, rfl, k, d, n, i, ?_, hk, hd, _, e, ?_, ?_, ?_⟩
    · rw [Int.zero_add]
      rfl
    · rw [List.length_map, List.length_range]
      exact small (m := 4096) (by omega) (by decide)
    · exact fun b o z => by
        rw [upd_ne (ne_of_none z hD)]
        exact sm b o z
    · rw [upd_same, map_range_succ]
/-! ### words_in_row -/
def spWide : Sp := fun vs H Q _ => ∃ n : Nat, vs = [.int (n : Int)] ∧ Q (.int ((Sh57.wide n : Nat) : Int)) H
theorem scWide : FnScope ["w"] ["w"] (defScope s_words_in_row) := ⟨rfl, rfl, rfl, by decide +kernel, rfl, by decide +kernel, by decide +kernel⟩
theorem ok_wide {k : Nat} (T : Txt K mg) : FnOk P w K mg base CX0 (k + 1) T.f_words_in_row T.fd_words_in_row ["w"] spWide := by
  refine T.F_words_in_row.ok scWide (fun vs H Q E h => ?_) (fun cdv A outer s H vs Q E hr h => ?_)
  · obtain ⟨n, rfl, _⟩ := h
    rfl
  · obtain ⟨n, rfl, q⟩ := h
    refine ⟨_, pss_one (ps_ret (pe_op op_fdiv (pe_op op_sub (pe_op op_add (pv 0) (pe_gi rfl T.WORD_BITS)) pe_int) (pe_gi rfl T.WORD_BITS))), ?_⟩
    refine ⟨_, rfl, _, _, rfl, rfl, _, _, rfl, rfl, _, _, rfl, rfl, ⟨by decide, by decide⟩, ?_⟩
    have e : ((n : Int) + 32 - 1) / 32 = ((Sh57.wide n : Nat) : Int) := by
      unfold Sh57.wide
      omega
    rw [← e] at q
    exact q
/-! ### dot_at -/
def spDot (K : PySem.W.Frag) : Sp := fun vs H Q _ => ∃ (a : Addr) (x : List Nat) (w h : Nat) (c r : Int), vs = [.ref a, .int (w : Int), .int (h : Int), .int c, .int r] ∧ SqL K H a (vN x) ∧ x.length = h * Sh57.wide w ∧ h ≤ 4096 ∧ Q (.int (b2 (at_ x w h c r))) H
theorem scDot : FnScope ["x", "w", "h", "c", "r", "word"] ["x", "w", "h", "c", "r"] (defScope s_dot_at) := ⟨rfl, rfl, rfl, by decide +kernel, rfl, by decide +kernel, by decide +kernel⟩
theorem bit_and_one (n m : Nat) : Builtin.bitAnd ((n : Int) / 2 ^ m) 1 = b2 (n / 2 ^ m % 2 == 1) := by
  have e : ((n : Int) / 2 ^ m) = ((n / 2 ^ m : Nat) : Int) := by
    rw [Int.natCast_ediv, Int.natCast_pow]
    rfl
  rw [e, bitAnd_m1]
  unfold b2
  by_cases q : n / 2 ^ m % 2 = 1
  · rw [if_pos (by rw [q]; rfl)]
    omega
  · rw [if_neg (by intro z; exact q (eq_of_beq z))]
    omega
theorem ok_dot {k : Nat} (T : Txt K mg) : FnOk P w K mg base CX0 (k + 2) T.f_dot_at T.fd_dot_at ["x", "w", "h", "c", "r"] (spDot K) := by
  refine T.F_dot_at.ok scDot (fun vs H Q E h => ?_) (fun cdv A outer s H vs Q E hr h => ?_)
  · obtain ⟨a, x, w, h, c, r, rfl, _⟩ := h
    rfl
  · obtain ⟨a, x, w, h, c, r, rfl, hS, hlen, hh, q⟩ := h
    refine ⟨_, pss_cons (ps_if (PW.pt (pw_or (pt_cmpR op_lt (pv 3) pe_int (nomark _)) (pw_or (pt_cmpR op_ge (pv 3) (pv 1) (nomark _)) (pw_or (pt_cmpR op_lt (pv 4) pe_int (nomark _)) (pw_or1 (pt_cmpR op_ge (pv 4) (pv 2) (nomark _)))))))
        (pss_one (ps_ret pe_int)) pss_nil)
      (pss_cons (ps_set (i := 5) scDot.nd rfl (Or.inl rfl) (pe_ix ix_list (pv 0) (pe_op op_add (pe_op op_mul (pv 4) (pe_call (ok_wide T) hr rfl T.g_words_in_row T.F_words_in_row.kp T.b_words_in_row .nil pass0 (pa_cons (pv 1) pa_nil))) (pe_op op_fdiv (pv 3) (pe_gi rfl T.WORD_BITS))) (fun _ _ => rfl)))
      (pss_one (ps_ret (pe_op op_and (pe_op op_shr (pv 5) (pe_op op_mod (pv 3) (pe_gi rfl T.WORD_BITS))) pe_int)))), ?_⟩
    have out : (c < 0 ∨ (w : Int) ≤ c ∨ r < 0 ∨ (h : Int) ≤ r) → Q (.int 0) H := fun z => by
      rw [at_out z] at q
      exact q
    refine ⟨_, rfl, _, _, rfl, rfl, _, rfl, ite2 (fun e => ?_) (fun e => ?_)⟩
    · exact iteT (out (.inl (of_decide_eq_true e)))
    have e1 : ¬ c < 0 := fun z => e (decide_eq_true z)
    refine ⟨_, rfl, _, rfl, _, _, rfl, rfl, _, rfl, ite2 (fun e => ?_) (fun e => ?_)⟩
    · exact iteT (out (.inr (.inl (of_decide_eq_true e))))
    have e2 : ¬ (w : Int) ≤ c := fun z => e (decide_eq_true z)
    refine ⟨_, rfl, _, _, rfl, rfl, _, rfl, ite2 (fun e => ?_) (fun e => ?_)⟩
    · exact iteT (out (.inr (.inr (.inl (of_decide_eq_true e)))))
    have e3 : ¬ r < 0 := fun z => e (decide_eq_true z)
    refine ⟨_, rfl, _, rfl, _, _, rfl, rfl, _, rfl, ite2 (fun e => ?_) (fun e => ?_)⟩
    · exact out (.inr (.inr (.inr (of_decide_eq_true e))))
    have e4 : ¬ (h : Int) ≤ r := fun z => e (decide_eq_true z)
    obtain ⟨cn, rfl⟩ : ∃ cn : Nat, c = (cn : Int) := ⟨c.toNat, by omega⟩
    obtain ⟨rn, rfl⟩ : ∃ rn : Nat, r = (rn : Int) := ⟨r.toNat, by omega⟩
    have hc : cn < w := by omega
    have hr' : rn < h := by omega
    rw [at_in hc hr'] at q
    have pl := place_lt hc hr'
    rw [← hlen] at pl
    have g : (vN x)[rn * Sh57.wide w + cn / 32]? = some (V.int ((x[rn * Sh57.wide w + cn / 32] : Nat) : Int)) := by
      unfold vN
      rw [List.getElem?_map, List.getElem?_eq_getElem pl]
      rfl
    have eg : x.getD (rn * Sh57.wide w + cn / 32) 0 = x[rn * Sh57.wide w + cn / 32] := by
      rw [List.getD_eq_getElem?_getD, List.getElem?_eq_getElem pl]
      rfl
    refine ⟨_, rfl, _, rfl, _, rfl, w, rfl, _, _, rfl, rfl, .inl ⟨by omega, by omega⟩, _, rfl, _, _, rfl, rfl, ⟨by decide, by decide⟩, _, _, rfl, rfl, a, _, _, _, rfl, rfl, hS, at_of (j := rn * Sh57.wide w + cn / 32) ?_ g, ?_⟩
    · rw [Int.natCast_add, Int.natCast_mul]
      rfl
    refine ⟨_, rfl, _, rfl, _, _, rfl, rfl, (by show (0 : Int) < 32; decide), _, _, rfl, rfl, (by show (0 : Int) ≤ (cn : Int) % 32; omega), _, _, rfl, rfl, ?_⟩
    have em : ((cn : Int) % 32).toNat = cn % 32 := by omega
    unfold bitAt at q
    rw [eg, ← bit_and_one, ← em] at q
    exact q
/-! ### a move read -/
theorem movesL_get {k : Int} {d n c : Nat} (h : c < n) : (movesL k d n)[c]? = some (V.int (Sh57.shift n k d c)) := by
  unfold movesL
  rw [List.getElem?_map, List.getElem?_range h]
  rfl
theorem wide_le {w : Nat} (h : w ≤ 256) : Sh57.wide w ≤ 8 := by
  unfold Sh57.wide
  omega
/-! ### columns of dots -/
/-- a list of lists of numbers -/
def Cols (H : Hp) (a : Addr) (cs : List (List Nat)) : Prop := ∃ as : List Addr, H a = some (.lst (as.map V.ref)) ∧ as.length = cs.length ∧ ∀ i p, as[i]? = some p → H p = some (.lst (vN (cs.getD i [])))
theorem Cols.same {H H' : Hp} {a : Addr} {cs : List (List Nat)} (c : Cols H a cs) (s : Same H H') : Cols H' a cs := by
  obtain ⟨as, h1, h2, h3⟩ := c
  exact ⟨as, s _ _ h1, h2, fun i p e => s _ _ (h3 i p e)⟩
theorem Cols.get {H : Hp} {a : Addr} {cs : List (List Nat)} (c : Cols H a cs) {i : Nat} (hi : i < cs.length) : ∃ (vs : List V) (p : Addr), H a = some (.lst vs) ∧ vs[i]? = some (V.ref p) ∧ H p = some (.lst (vN (cs.getD i []))) := by
  obtain ⟨as, h1, h2, h3⟩ := c
  have hi2 : i < as.length := by omega
  have e : as[i]? = some as[i] := List.getElem?_eq_getElem hi2
  refine ⟨_, as[i], h1, ?_, h3 i _ e⟩
  rw [List.getElem?_map, e]
  rfl
theorem Cols.len {H : Hp} {a : Addr} {cs : List (List Nat)} (c : Cols H a cs) : ∃ vs : List V, H a = some (.lst vs) ∧ vs.length = cs.length := by
  obtain ⟨as, h1, h2, h3⟩ := c
  exact ⟨_, h1, by rw [List.length_map]; exact h2⟩
def spDots (K : PySem.W.Frag) : Sp := fun vs H Q _ => ∃ (a : Addr) (x : List Nat) (w h c : Nat), vs = [.ref a, .int (w : Int), .int (h : Int), .int (c : Int)] ∧ SqL K H a (vN x) ∧ x.length = h * Sh57.wide w ∧ h ≤ 4096 ∧
  ∀ H' p, Same H H' → H p = none → H' p = some (.lst (vN (dotsIn x w h c))) → Q (.ref p) H'
theorem scDots : FnScope ["x", "w", "h", "c", "r"] ["x", "w", "h", "c"] (defScope s_dots_in_column) := ⟨rfl, rfl, rfl, by decide +kernel, rfl, by decide +kernel, by decide +kernel⟩
theorem ok_dots {k : Nat} (T : Txt K mg) : FnOk P w K mg base CX0 (k + 3) T.f_dots_in_column T.fd_dots_in_column ["x", "w", "h", "c"] (spDots K) := by
  refine T.F_dots_in_column.ok scDots (fun vs H Q E h => ?_) (fun cdv A outer s H vs Q E hr h => ?_)
  · obtain ⟨a, x, w, h, c, rfl, _⟩ := h
    rfl
  · obtain ⟨a, x, w, h, c, rfl, hS, hlen, hh, q⟩ := h
    refine ⟨_, pss_one (ps_ret (pe_lc (own := [("r", 4)]) (g := gName 4) rfl scDots.nd (pi_range1 rfl T.m_range (pa_cons (pv 2) pa_nil)) (blkOk_by (N := ["x", "w", "h", "c", "r"]) (sc := defScope s_dots_in_column) (by decide +kernel))
      (fun _ _ _ _ _ => pg_name (i := 4) scDots.nd rfl (Or.inl rfl))
      (fun _ _ _ _ _ => pts_one (pt_cmpR op_eq (pe_call (ok_dot (K := K) T) hr rfl T.g_dot_at T.F_dot_at.kp T.b_dot_at .nil pass0 (pa_cons (pv 0) (pa_cons (pv 1) (pa_cons (pv 2) (pa_cons (pv 3) (pa_cons (pv 4) pa_nil)))))) pe_int (nomark _)))
      (fun _ _ _ _ _ => pv 4))), ?_⟩
    refine ⟨_, rfl, (h : Int), rfl, by omega, by omega, fun D hD => ?_⟩
    refine lc_range (lo := 0) (n := h) (fun i H' => Same H H' ∧ H' D = some (.lst (vN ((List.range i).filter fun r => at_ x w h (c : Int) (r : Int))))) ⟨same_upd hD, upd_same⟩ (fun i H' hi ⟨sm, e⟩ => ?_) (fun H' ⟨sm, e⟩ => q H' D sm hD e)
    refine ⟨rfl, ?_⟩
    refine ⟨_, rfl, _, rfl, _, rfl, _, rfl, _, rfl, a, x, w, h, (c : Int), (i : Int), ?_, sm.seq hS, hlen, hh, rfl, _, rfl, ?_⟩
    · rw [Int.zero_add]
      rfl
    refine ite2 (fun z => ?_) (fun z => ?_)
    · have z : at_ x w h (c : Int) (i : Int) = true := by
        have z := of_decide_eq_true z
        cases b : at_ x w h (c : Int) (i : Int) with
        | true => rfl
        | false =>
          rw [b] at z
          cases z
      refine ⟨_, rfl, _, e, ?_, ?_, ?_⟩
      · rw [vN_length]
        exact small (m := 4096) (Nat.le_trans (filter_range_len _ _) (by omega)) (by decide)
      · exact fun b o y => by
          rw [upd_ne (ne_of_none y hD)]
          exact sm b o y
      · rw [upd_same, filter_range_succ, if_pos z, vN_append, Int.zero_add]
        rfl
    · have z : ¬ at_ x w h (c : Int) (i : Int) = true := fun y => z (by
        rw [y]
        rfl)
      refine ⟨sm, ?_⟩
      rw [filter_range_succ, if_neg z, List.append_nil]
      exact e
def spCols (K : PySem.W.Frag) : Sp := fun vs H Q _ => ∃ (a : Addr) (x : List Nat) (w h : Nat), vs = [.ref a, .int (w : Int), .int (h : Int)] ∧ SqL K H a (vN x) ∧ x.length = h * Sh57.wide w ∧ w ≤ 4096 ∧ h ≤ 4096 ∧
  ∀ H' p, Same H H' → H p = none → Cols H' p (colsOf x w h) → Q (.ref p) H'
theorem scCols : FnScope ["x", "w", "h", "c"] ["x", "w", "h"] (defScope s_columns_of_dots) := ⟨rfl, rfl, rfl, by decide +kernel, rfl, by decide +kernel, by decide +kernel⟩
theorem ok_cols {k : Nat} (T : Txt K mg) : FnOk P w K mg base CX0 (k + 4) T.f_columns_of_dots T.fd_columns_of_dots ["x", "w", "h"] (spCols K) := by
  refine T.F_columns_of_dots.ok scCols (fun vs H Q E h => ?_) (fun cdv A outer s H vs Q E hr h => ?_)
  · obtain ⟨a, x, w, h, rfl, _⟩ := h
    rfl
  · obtain ⟨a, x, w, h, rfl, hS, hlen, hw, hh, q⟩ := h
    refine ⟨_, pss_one (ps_ret (pe_lc (own := [("c", 3)]) (g := gName 3) (tt := tYes) rfl scCols.nd (pi_range1 rfl T.m_range (pa_cons (pv 1) pa_nil)) (blkOk_by (N := ["x", "w", "h", "c"]) (sc := defScope s_columns_of_dots) (by decide +kernel))
      (fun _ _ _ _ _ => pg_name (i := 3) scCols.nd rfl (Or.inl rfl)) (fun _ _ _ _ _ => pts_nil)
      (fun _ _ _ _ _ => pe_call (ok_dots (K := K) T) hr rfl T.g_dots_in_column T.F_dots_in_column.kp T.b_dots_in_column .nil pass0 (pa_cons (pv 0) (pa_cons (pv 1) (pa_cons (pv 2) (pa_cons (pv 3) pa_nil))))))), ?_⟩
    refine ⟨_, rfl, (w : Int), rfl, by omega, by omega, fun D hD => ?_⟩
    refine lc_range (lo := 0) (n := w) (fun i H' => Same H H' ∧ ∃ as : List Addr, H' D = some (.lst (as.map V.ref)) ∧ as.length = i ∧ ∀ j p, as[j]? = some p → p ≠ D ∧ H' p = some (.lst (vN (dotsIn x w h j)))) ⟨same_upd hD, [], upd_same, rfl, fun j p e => by simp at e⟩ ?_ ?_
    · rintro i H' hi ⟨sm, as, e1, e2, e3⟩
      refine ⟨rfl, ?_⟩
      refine ⟨_, rfl, _, rfl, _, rfl, _, rfl, a, x, w, h, i, ?_, sm.seq hS, hlen, hh, fun H2 p s2 np ep => ?_⟩
      · rw [Int.zero_add]
        rfl
      have npD : p ≠ D := (ne_of_none e1 np).symm
      refine ⟨_, s2 _ _ e1, ?_, ?_, as ++ [p], ?_, ?_, ?_⟩
      · rw [List.length_map, e2]
        exact small (m := 4096) (by omega) (by decide)
      · exact fun b o y => by
          rw [upd_ne (ne_of_none y hD)]
          exact s2 _ _ (sm b o y)
      · rw [upd_same, List.map_append]
        rfl
      · rw [List.length_append, e2]
        rfl
      · intro j r er
        by_cases hj : j < as.length
        · rw [List.getElem?_append_left hj] at er
          obtain ⟨n1, n2⟩ := e3 j r er
          refine ⟨n1, ?_⟩
          rw [upd_ne n1]
          exact s2 _ _ n2
        · rw [List.getElem?_append_right (by omega)] at er
          have ej : j - as.length = 0 := by
            have := (List.getElem?_eq_some_iff.mp er).1
            simp at this
            omega
          rw [ej] at er
          have er : p = r := by simpa using er
          subst er
          have ej : j = i := by omega
          subst ej
          refine ⟨npD, ?_⟩
          rw [upd_ne npD]
          exact ep
    · rintro H' ⟨sm, as, e1, e2, e3⟩
      refine q H' D sm hD ⟨as, e1, by rw [colsOf_length]; exact e2, fun i p e => ?_⟩
      have hi : i < w := by
        have := (List.getElem?_eq_some_iff.mp e).1
        omega
      have ec : (colsOf x w h).getD i [] = dotsIn x w h i := by
        unfold colsOf
        rw [List.getD_eq_getElem?_getD, List.getElem?_map, List.getElem?_range hi]
        rfl
      rw [ec]
      exact (e3 i p e).2
/-! ### sheared_counts -/
def spShc (K : PySem.W.Frag) : Sp := fun vs H Q _ => ∃ (k : Int) (d h : Nat) (a : Addr) (cs : List (List Nat)), vs = [.int k, .int (d : Int), .int (h : Int), .ref a] ∧ Cols H a cs ∧ (-4096 ≤ k ∧ k ≤ 4096) ∧ (1 ≤ d ∧ d ≤ 4096) ∧ h ≤ 4096 ∧ cs.length ≤ 4096 ∧
  ∀ H' p, Same H H' → H p = none → H' p = some (.lst (vN ((List.range h).map fun j => tally (fun c => Sh57.shift cs.length k d c) cs cs.length j))) → Q (.ref p) H'
theorem scShc : FnScope ["k", "d", "h", "columns", "moves", "counts", "c", "r", "row"] ["k", "d", "h", "columns"] (defScope s_sheared_counts) := ⟨rfl, rfl, rfl, by decide +kernel, rfl, by decide +kernel, by decide +kernel⟩
theorem tab_get {f : Nat → Nat} {h j : Nat} (hj : j < h) : (vN ((List.range h).map f))[j]? = some (V.int ((f j : Nat) : Int)) := by
  unfold vN
  rw [List.getElem?_map, List.getElem?_map, List.getElem?_range hj]
  rfl
theorem hits_take {s : Int} {l : List Nat} {i r : Nat} (e : l[i]? = some r) (j : Nat) : hits s (l.take (i + 1)) j = hits s (l.take i) j + (if (r : Int) + s = (j : Int) then 1 else 0) := by
  rw [take_succ_of e, hits_snoc]
theorem ok_shc {k : Nat} (T : Txt K mg) : FnOk P w K mg base CX0 (k + 3) T.f_sheared_counts T.fd_sheared_counts ["k", "d", "h", "columns"] (spShc K) := by
  refine T.F_sheared_counts.ok scShc (fun vs H Q E h => ?_) (fun cdv A outer s H vs Q E hr h => ?_)
  · obtain ⟨k, d, h, a, cs, rfl, _⟩ := h
    rfl
  · obtain ⟨k, d, h, a, cs, rfl, hC, hk, hd, hh, hn, q⟩ := h
    refine ⟨_, pss_cons (ps_set (i := 4) scShc.nd rfl (Or.inl rfl) (pe_call (ok_moves T) hr rfl T.g_shear_moves T.F_shear_moves.kp T.b_shear_moves .nil pass0 (pa_cons (pv 0) (pa_cons (pv 1) (pa_cons (pe_callB call_len_seq (by rfl) T.m_len PySem.boot_len (pa_cons (pv 3) pa_nil)) pa_nil)))))
      (pss_cons (ps_set (i := 5) scShc.nd rfl (Or.inl rfl) (pe_op op_rep (pe_lst (pa_cons pe_int pa_nil)) (pv 2)))
      (pss_cons (ps_for PassesOwn.never rfl (pi_range1 rfl T.m_range (pa_cons (pe_callB call_len_seq (by rfl) T.m_len PySem.boot_len (pa_cons (pv 3) pa_nil)) pa_nil)) (pg_name (i := 6) scShc.nd rfl (Or.inl rfl))
        (pss_one (ps_for PassesOwn.never rfl (pi_list (pe_ix ix_list (pv 3) (pv 6) (fun _ _ => rfl))) (pg_name (i := 7) scShc.nd rfl (Or.inl rfl))
          (pss_cons (ps_set (i := 8) scShc.nd rfl (Or.inl rfl) (pe_op op_add (pv 7) (pe_ix ix_list (pv 4) (pv 6) (fun _ _ => rfl))))
          (pss_one (ps_if (pt_chain op_le op_lt pe_int (pv 8) (pv 2)) (pss_one (ps_asg (pe_op op_add (pe_ix ix_list (pv 5) (pv 8) (fun _ _ => rfl)) pe_int) (pg_sub (pv 5) (pv 8) set_list))) pss_nil))))))
      (pss_one (ps_ret (pv 5))))), ?_⟩
    obtain ⟨vc, hvc, lvc⟩ := hC.len
    -- moves = shear_moves(k, d, len(columns))
    refine ⟨_, rfl, _, rfl, _, rfl, a, _, rfl, .inl (SqL.of hvc), k, d, cs.length, ?_, hk, hd, hn, fun H1 pm s1 np em => ?_⟩
    · rw [lvc]
      rfl
    -- counts = [0] * h
    refine ⟨(by show 1 ≤ sizeLine; decide), fun l hl => ?_⟩
    have s2 : Same H1 (upd H1 l (.lst [.int 0])) := same_upd hl
    refine ⟨_, rfl, l, _, _, rfl, rfl, upd_same, by omega, by omega, ?_, fun pc hpc => ?_⟩
    · show 1 * (Int.toNat _) ≤ sizeLine
      rw [Int.toNat_natCast]
      exact Nat.le_of_lt (small (m := 4096) (by omega) (by decide))
    have s3 := s2.trans (same_upd (o := .lst ((List.replicate ((h : Nat) : Int).toNat [V.int 0]).flatten)) hpc)
    have s4 := s1.trans s3
    have npcH : H pc = none := s1.free (s2.free hpc)
    have npcm : pm ≠ pc := ne_of_none (s2 _ _ em) hpc
    -- for c in range(len(columns))
    refine ⟨_, rfl, a, _, rfl, .inl (SqL.of (s4 _ _ hvc)), (cs.length : Int), (by rw [lvc]), by omega, by omega, for_range (lo := 0) (n := cs.length) (fun i σ H' => ∃ v v2 v3 : Option V, σ = [some (.int k), some (.int (d : Int)), some (.int (h : Int)), some (.ref a), some (.ref pm), some (.ref pc), v, v2, v3] ∧ Same H H' ∧ H' pm = some (.lst (movesL k d cs.length)) ∧
      H' pc = some (.lst (vN ((List.range h).map fun j => tally (fun c => Sh57.shift cs.length k d c) cs i j)))) ⟨none, none, none, rfl, s4, s3 _ _ em, ?_⟩ ?_ ?_⟩
    · rw [upd_same, Int.toNat_natCast, rep_zero]
      congr 3
      apply List.ext_getElem?
      intro j
      by_cases hj : j < h
      · rw [List.getElem?_replicate, if_pos hj, List.getElem?_map, List.getElem?_range hj]
        rfl
      · rw [List.getElem?_eq_none (by rw [List.length_replicate]; omega), List.getElem?_eq_none (by rw [List.length_map, List.length_range]; omega)]
    · rintro i σ H' hi ⟨v, v2, v3, rfl, sm, e1, e2⟩
      obtain ⟨vs, p, hv, gp, hp⟩ := (hC.same sm).get hi
      obtain ⟨vs0, p0, hv0, gp0, hp0⟩ := hC.get hi
      have ep : p0 = p := by
        have e := sm _ _ hv0
        rw [hv] at e
        cases e
        rw [gp] at gp0
        cases gp0
        rfl
      subst ep
      -- for r in columns[c]
      refine ⟨_, rfl, _, rfl, a, _, _, _, rfl, rfl, SqL.of hv, at_of (j := i) (Int.zero_add _) gp, p0, rfl, ⟨_, SqL.of hp⟩, for_list (xs := vN (cs.getD i [])) (fun n σ H2 => ∃ v2 v3 : Option V, σ = [some (.int k), some (.int (d : Int)), some (.int (h : Int)), some (.ref a), some (.ref pm), some (.ref pc), some (.int (0 + (i : Int))), v2, v3] ∧ Same H H2 ∧ H2 pm = some (.lst (movesL k d cs.length)) ∧
        H2 pc = some (.lst (vN ((List.range h).map fun j => tally (fun c => Sh57.shift cs.length k d c) cs i j + hits (Sh57.shift cs.length k d i) ((cs.getD i []).take n) j)))) ⟨v2, v3, rfl, sm, e1, ?_⟩ ?_ ?_ ?_⟩
      · rw [e2]
        rfl
      · rintro n σ H2 _ ⟨v2, v3, rfl, sm2, _, _⟩
        exact SqL.of (sm2 _ _ hp0)
      · rintro n rv σ H2 hrv ⟨v2, v3, rfl, sm2, e3, e4⟩
        obtain ⟨r, hr1, rfl⟩ : ∃ r : Nat, (cs.getD i [])[n]? = some r ∧ rv = V.int (r : Int) := by
          unfold vN at hrv
          rw [List.getElem?_map] at hrv
          cases eo : (cs.getD i [])[n]? with
          | none =>
            rw [eo] at hrv
            cases hrv
          | some r =>
            rw [eo] at hrv
            cases hrv
            exact ⟨r, rfl, rfl⟩
        refine ⟨_, rfl, _, rfl, _, rfl, pm, _, _, _, rfl, rfl, SqL.of e3, at_of (j := i) (Int.zero_add _) (movesL_get hi), _, _, rfl, rfl, ?_⟩
        refine ⟨_, rfl, _, _, rfl, rfl, _, rfl, ite2 (fun z => ?_) (fun z => ?_)⟩
        · have z : (0 : Int) ≤ (r : Int) + Sh57.shift cs.length k d i := of_decide_eq_true z
          refine ⟨_, rfl, _, _, rfl, rfl, _, rfl, ite2 (fun y => ?_) (fun y => ?_)⟩
          · have y : (r : Int) + Sh57.shift cs.length k d i < (h : Int) := of_decide_eq_true y
            obtain ⟨j, ej⟩ : ∃ j : Nat, (r : Int) + Sh57.shift cs.length k d i = (j : Int) := ⟨((r : Int) + Sh57.shift cs.length k d i).toNat, by omega⟩
            have hj : j < h := by omega
            refine ⟨_, rfl, _, rfl, pc, _, _, _, rfl, rfl, SqL.of e4, at_of (j := j) ej (tab_get hj), _, _, rfl, rfl, _, rfl, _, rfl, pc, _, _, j, rfl, rfl, e4, ixN_nat ej (by rw [vN_length, List.length_map, List.length_range]; exact hj), ?_⟩
            refine ⟨_, _, rfl, fun b o z => (by rw [upd_ne (ne_of_none z npcH)]; exact sm2 b o z), (by rw [upd_ne npcm]; exact e3), ?_⟩
            rw [upd_same]
            have ev : V.int (((tally (fun c => Sh57.shift cs.length k d c) cs i j + hits (Sh57.shift cs.length k d i) ((cs.getD i []).take n) j : Nat) : Int) + 1) = V.int ((tally (fun c => Sh57.shift cs.length k d c) cs i j + hits (Sh57.shift cs.length k d i) ((cs.getD i []).take n) j + 1 : Nat) : Int) := rfl
            dsimp only
            rw [ev, vN_set, set_range_map]
            congr 3
            refine List.map_congr_left fun m _ => ?_
            rw [hits_take hr1]
            by_cases em : m = j
            · rw [if_pos em, if_pos (by rw [em]; exact ej), em]
              omega
            · rw [if_neg em, if_neg (by intro y; omega)]
              omega
          · have y : ¬ (r : Int) + Sh57.shift cs.length k d i < (h : Int) := fun u => y (decide_eq_true u)
            refine ⟨_, _, rfl, sm2, e3, ?_⟩
            rw [e4]
            congr 3
            refine List.map_congr_left fun m hm => ?_
            have hm := List.mem_range.mp hm
            rw [hits_take hr1, if_neg (by intro y; omega)]
            rfl
        · have z : ¬ (0 : Int) ≤ (r : Int) + Sh57.shift cs.length k d i := fun u => z (decide_eq_true u)
          refine ⟨_, rfl, iteF ⟨_, _, rfl, sm2, e3, ?_⟩⟩
          rw [e4]
          congr 3
          refine List.map_congr_left fun m hm => ?_
          rw [hits_take hr1, if_neg (by intro y; omega)]
          rfl
      · rintro σ H2 ⟨v2, v3, rfl, sm2, e3, e4⟩
        refine ⟨_, _, _, rfl, sm2, e3, ?_⟩
        rw [e4, vN_length]
        congr 3
        refine List.map_congr_left fun m hm => ?_
        rw [tally_succ, List.take_of_length_le (Nat.le_refl _)]
    · rintro σ H' ⟨v, v2, v3, rfl, sm, e1, e2⟩
      exact ⟨_, rfl, q H' pc sm npcH e2⟩
/-! ### within a comprehension -/
def rLenQ (K : PySem.W.Frag) : List V → Hp → VK → Prop := fun xs H Q => ∃ p ys, xs = [.ref p] ∧ (SqL K H p ys ∨ SqT K H p ys) ∧ Q (.int ys.length) H
theorem call_len_seqK {X : Cx} {K : PySem.W.Frag} (h : X.K = K) : CallR X (.builtin "len") (rLenQ K) := by
  subst h
  exact call_len_seq
theorem take_map_succ {α : Type} (F : α → Nat) {l : List α} {i : Nat} {x : α} (e : l[i]? = some x) : vN ((l.take (i + 1)).map F) = vN ((l.take i).map F) ++ [V.int ((F x : Nat) : Int)] := by
  rw [take_succ_of e, List.map_append]
  exact vN_append _ _
/-! ### counts_down, counts_across -/
def spDown (K : PySem.W.Frag) : Sp := fun vs H Q _ => ∃ (a : Addr) (cs : List (List Nat)) (h : Nat), vs = [.ref a, .int (h : Int)] ∧ Cols H a cs ∧ h ≤ 4096 ∧ cs.length ≤ 4096 ∧
  ∀ H' p, Same H H' → H p = none → H' p = some (.lst (vN ((List.range h).map fun j => tally (fun c => Sh57.shift cs.length 0 1 c) cs cs.length j))) → Q (.ref p) H'
theorem scDown : FnScope ["columns", "h"] ["columns", "h"] (defScope s_counts_down) := ⟨rfl, rfl, rfl, by decide +kernel, rfl, by decide +kernel, by decide +kernel⟩
theorem ok_down {k : Nat} (T : Txt K mg) : FnOk P w K mg base CX0 (k + 4) T.f_counts_down T.fd_counts_down ["columns", "h"] (spDown K) := by
  refine T.F_counts_down.ok scDown (fun vs H Q E h => ?_) (fun cdv A outer s H vs Q E hr h => ?_)
  · obtain ⟨a, cs, h, rfl, _⟩ := h
    rfl
  · obtain ⟨a, cs, h, rfl, hC, hh, hn, q⟩ := h
    refine ⟨_, pss_one (ps_ret (pe_call (ok_shc (k := k) T) hr rfl T.g_sheared_counts T.F_sheared_counts.kp T.b_sheared_counts .nil pass0 (pa_cons pe_int (pa_cons pe_int (pa_cons (pv 1) (pa_cons (pv 0) pa_nil)))))), ?_⟩
    exact ⟨_, rfl, _, rfl, 0, 1, h, a, cs, rfl, hC, ⟨by omega, by omega⟩, by omega, hh, hn, q⟩
def spAcross (K : PySem.W.Frag) : Sp := fun vs H Q _ => ∃ (a : Addr) (cs : List (List Nat)), vs = [.ref a] ∧ Cols H a cs ∧ cs.length ≤ 4096 ∧ ∀ H' p, Same H H' → H p = none → H' p = some (.lst (vN (cs.map List.length))) → Q (.ref p) H'
theorem scAcross : FnScope ["columns", "rows"] ["columns"] (defScope s_counts_across) := ⟨rfl, rfl, rfl, by decide +kernel, rfl, by decide +kernel, by decide +kernel⟩
theorem ok_across {k : Nat} (T : Txt K mg) : FnOk P w K mg base CX0 (k + 1) T.f_counts_across T.fd_counts_across ["columns"] (spAcross K) := by
  refine T.F_counts_across.ok scAcross (fun vs H Q E h => ?_) (fun cdv A outer s H vs Q E hr h => ?_)
  · obtain ⟨a, cs, rfl, _⟩ := h
    rfl
  · obtain ⟨a, cs, rfl, hC, hn, q⟩ := h
    refine ⟨_, pss_one (ps_ret (pe_lc (own := [("rows", 1)]) (g := gName 1) (tt := tYes) rfl scAcross.nd (pi_list (pv 0)) (blkOk_by (N := ["columns", "rows"]) (sc := defScope s_counts_across) (by decide +kernel))
      (fun _ _ _ _ _ => pg_name (i := 1) scAcross.nd rfl (Or.inl rfl)) (fun _ _ _ _ _ => pts_nil) (fun _ _ _ _ _ => pe_callB (call_len_seqK (K := K) rfl) (by rfl) T.m_len PySem.boot_len (pa_cons (pv 1) pa_nil)))), ?_⟩
    obtain ⟨vc, hvc, lvc⟩ := hC.len
    refine ⟨_, rfl, a, rfl, ⟨_, SqL.of hvc⟩, fun D hD => ?_⟩
    refine lc_list (K := K) (a := a) (xs := vc) (fun i H' => Same H H' ∧ H' D = some (.lst (vN ((cs.take i).map List.length)))) ⟨same_upd hD, upd_same⟩ (fun i H' _ ⟨sm, _⟩ => SqL.of (sm _ _ hvc)) ?_ ?_
    · rintro i xv H' hx ⟨sm, e2⟩
      have hi : i < cs.length := by
        rw [← lvc]
        exact (List.getElem?_eq_some_iff.mp hx).1
      obtain ⟨vs, p, hv, gp, hp⟩ := (hC.same sm).get hi
      have ev : vs = vc := by
        have := sm _ _ hvc
        rw [hv] at this
        cases this
        rfl
      subst ev
      rw [gp] at hx
      cases hx
      have eg : cs[i]? = some (cs.getD i []) := by
        rw [List.getD_eq_getElem?_getD, List.getElem?_eq_getElem hi]
        rfl
      refine ⟨rfl, _, rfl, p, _, rfl, .inl (SqL.of hp), _, e2, ?_, ?_, ?_⟩
      · rw [vN_length, List.length_map, List.length_take]
        exact small (m := 4096) (by omega) (by decide)
      · exact fun b o u => by
          rw [upd_ne (ne_of_none u hD)]
          exact sm b o u
      · rw [upd_same, take_map_succ _ eg, vN_length]
    · rintro H2 ⟨s2, e2⟩
      rw [lvc, List.take_of_length_le (Nat.le_refl _)] at e2
      exact q H2 D s2 hD e2
/-! ### ahead_of_first_above -/
def spAhead (K : PySem.W.Frag) : Sp := fun vs H Q _ => ∃ (a : Addr) (l : List Nat) (most : Nat), vs = [.ref a, .int (most : Int)] ∧ SqL K H a (vN l) ∧ l.length ≤ 4096 ∧ Q (.int ((Sh57.margin most l : Nat) : Int)) H
theorem scAhead : FnScope ["counts", "most", "i"] ["counts", "most"] (defScope s_ahead_of_first_above) := ⟨rfl, rfl, rfl, by decide +kernel, rfl, by decide +kernel, by decide +kernel⟩
theorem ok_ahead {k : Nat} (T : Txt K mg) : FnOk P w K mg base CX0 (k + 1) T.f_ahead_of_first_above T.fd_ahead_of_first_above ["counts", "most"] (spAhead K) := by
  refine T.F_ahead_of_first_above.ok scAhead (fun vs H Q E h => ?_) (fun cdv A outer s H vs Q E hr h => ?_)
  · obtain ⟨a, l, most, rfl, _⟩ := h
    rfl
  · obtain ⟨a, l, most, rfl, hS, hn, q⟩ := h
    refine ⟨_, pss_cons (ps_for PassesOwn.never rfl (pi_range1 rfl T.m_range (pa_cons (pe_callB call_len_seq (by rfl) T.m_len PySem.boot_len (pa_cons (pv 0) pa_nil)) pa_nil)) (pg_name (i := 2) scAhead.nd rfl (Or.inl rfl))
        (pss_one (ps_if (pt_cmpR op_gt (pe_ix ix_list (pv 0) (pv 2) (fun _ _ => rfl)) (pv 1) (nomark _)) (pss_one (ps_ret (pv 2))) pss_nil)))
      (pss_one (ps_ret (pe_callB call_len_seq (by rfl) T.m_len PySem.boot_len (pa_cons (pv 0) pa_nil)))), ?_⟩
    refine ⟨_, rfl, a, _, rfl, .inl hS, (l.length : Int), (by rw [vN_length]), by omega, by omega, for_range (lo := 0) (n := l.length) (fun i σ H' => ∃ v : Option V, σ = [some (.ref a), some (.int (most : Int)), v] ∧ H' = H ∧ ∀ j b, j < i → l[j]? = some b → b ≤ most) ⟨none, rfl, rfl, fun j b hj => absurd hj (by omega)⟩ ?_ ?_⟩
    · rintro i σ H' hi ⟨v, rfl, rfl, lo⟩
      have hl : l[i]? = some (l.getD i 0) := by
        rw [List.getD_eq_getElem?_getD, List.getElem?_eq_getElem hi]
        rfl
      refine ⟨_, rfl, _, rfl, a, _, _, _, rfl, rfl, hS, at_of (j := i) (Int.zero_add _) (vN_getD hi), _, rfl, _, _, rfl, rfl, _, rfl, ite2 (fun z => ?_) (fun z => ?_)⟩
      · have z : ((l.getD i 0 : Nat) : Int) > (most : Int) := of_decide_eq_true z
        have e : Sh57.margin most l = i := margin_is (by omega) lo fun b hb => by
          rw [hl] at hb
          cases hb
          omega
        refine ⟨_, rfl, ?_⟩
        rw [e] at q
        rw [Int.zero_add]
        exact q
      · have z : ¬ ((l.getD i 0 : Nat) : Int) > (most : Int) := fun y => z (decide_eq_true y)
        refine ⟨_, rfl, rfl, fun j b hj hb => ?_⟩
        by_cases ej : j < i
        · exact lo j b ej hb
        · have ej : j = i := by omega
          rw [ej, hl] at hb
          cases hb
          omega
    · rintro σ H' ⟨v, rfl, rfl, lo⟩
      have e : Sh57.margin most l = l.length := margin_is (Nat.le_refl _) lo fun b hb => by
        rw [List.getElem?_eq_none (Nat.le_refl _)] at hb
        cases hb
      refine ⟨_, rfl, a, _, rfl, .inl hS, ?_⟩
      rw [vN_length, ← e]
      exact q
/-! ### st_margins -/
/-- what the row lets be handed in -/
structure PageP (most w h : Int) (x : List Int) : Prop where
  hm : 0 ≤ most
  hw : 0 ≤ w
  hh : 0 ≤ h
  hx : ∀ z ∈ x, 0 ≤ z
  len : okP w h = true → x.length = h.toNat * Sh57.wide w.toNat
def spMain (K : PySem.W.Frag) : Sp := fun vs H Q _ => ∃ (most w h : Int) (a : Addr) (x : List Int), vs = [.int most, .int w, .int h, .ref a] ∧ SqL K H a (vI x) ∧ PageP most w h x ∧
  ∀ (H' : Hp) (p : Addr), H' p = some (.lst (vI (PySh57.st_margins most w h x))) → Q (.ref p) H'
theorem scMain : FnScope ["most", "w", "h", "x", "columns", "across", "down", "sides", "counts"] ["most", "w", "h", "x"] (defScope s_st_margins) := ⟨rfl, rfl, rfl, by decide +kernel, rfl, by decide +kernel, by decide +kernel⟩
theorem ok_main (T : Txt K mg) : FnOk P w K mg base CX0 5 T.f_st_margins T.fd_st_margins ["most", "w", "h", "x"] (spMain K) := by
  refine T.F_st_margins.ok scMain (fun vs H Q E h => ?_) (fun cdv A outer s H vs Q E hr h => ?_)
  · obtain ⟨most, w, h, a, x, rfl, _⟩ := h
    rfl
  · obtain ⟨most, w, h, a, x, rfl, hS, A, q⟩ := h
    refine ⟨_, pss_cons (ps_if (PW.pt (pw_or (pt_not (pt_val (pe_call (ok_side (k := 3) T) hr rfl T.g_side_in_range T.F_side_in_range.kp T.b_side_in_range .nil pass0 (pa_cons (pv 1) pa_nil)))) (pw_or1 (pt_not (pt_val (pe_call (ok_side (k := 3) T) hr rfl T.g_side_in_range T.F_side_in_range.kp T.b_side_in_range .nil pass0 (pa_cons (pv 2) pa_nil))))))) (pss_one (ps_ret (pe_lst (pa_cons (pe_un un_neg pe_int) pa_nil)))) pss_nil)
      (pss_cons (ps_set (i := 4) scMain.nd rfl (Or.inl rfl) (pe_call (ok_cols (k := 0) T) hr rfl T.g_columns_of_dots T.F_columns_of_dots.kp T.b_columns_of_dots .nil pass0 (pa_cons (pv 3) (pa_cons (pv 1) (pa_cons (pv 2) pa_nil)))))
      (pss_cons (ps_set (i := 5) scMain.nd rfl (Or.inl rfl) (pe_call (ok_across (k := 3) T) hr rfl T.g_counts_across T.F_counts_across.kp T.b_counts_across .nil pass0 (pa_cons (pv 4) pa_nil)))
      (pss_cons (ps_set (i := 6) scMain.nd rfl (Or.inl rfl) (pe_call (ok_down (k := 0) T) hr rfl T.g_counts_down T.F_counts_down.kp T.b_counts_down .nil pass0 (pa_cons (pv 4) (pa_cons (pv 2) pa_nil))))
      (pss_cons (ps_set (i := 7) scMain.nd rfl (Or.inl rfl) (pe_lst (pa_cons (pv 5) (pa_cons (pv 6) (pa_cons (pe_listRev rfl rfl T.m_list rfl T.m_reversed (pv 5)) (pa_cons (pe_listRev rfl rfl T.m_list rfl T.m_reversed (pv 6)) pa_nil))))))
      (pss_one (ps_ret (pe_op op_cat (pe_lst (pa_cons pe_int pa_nil)) (pe_lc (own := [("counts", 8)]) (g := gName 8) (tt := tYes) rfl scMain.nd (pi_list (pv 7)) (blkOk_by (N := ["most", "w", "h", "x", "columns", "across", "down", "sides", "counts"]) (sc := defScope s_st_margins) (by decide +kernel))
        (fun _ _ _ _ _ => pg_name (i := 8) scMain.nd rfl (Or.inl rfl)) (fun _ _ _ _ _ => pts_nil) (fun _ _ _ _ _ => pe_call (ok_ahead (K := K) (k := 3) T) hr rfl T.g_ahead_of_first_above T.F_ahead_of_first_above.kp T.b_ahead_of_first_above .nil pass0 (pa_cons (pv 8) (pa_cons (pv 0) pa_nil))))))))))), ?_⟩
    have bad : okP w h = false → ∀ p, H p = none → Q (.ref p) (upd H p (.lst [.int (-2)])) := fun e p hp => by
      refine q _ p ?_
      rw [upd_same, margins_bad e]
      rfl
    have okI := okP_iff A.hw A.hh
    refine ⟨_, rfl, w, rfl, _, rfl, ite2 (fun e => ?_) (fun e => ?_)⟩
    · have e : sideB w = false := by simpa using e
      have e := of_decide_eq_false e
      refine iteT ⟨2, rfl, (by show 1 ≤ sizeLine; decide), fun p hp => bad ?_ p hp⟩
      rw [← Bool.not_eq_true, okI]
      exact fun z => e z.1
    have e : sideB w = true := by simpa using e
    have e := of_decide_eq_true e
    refine ⟨_, rfl, h, rfl, _, rfl, ite2 (fun e1 => ?_) (fun e1 => ?_)⟩
    · have e1 : sideB h = false := by simpa using e1
      have e1 := of_decide_eq_false e1
      refine ⟨2, rfl, (by show 1 ≤ sizeLine; decide), fun p hp => bad ?_ p hp⟩
      rw [← Bool.not_eq_true, okI]
      exact fun z => e1 z.2
    have e1 : sideB h = true := by simpa using e1
    have e1 := of_decide_eq_true e1
    have ok : okP w h = true := okI.mpr ⟨e, e1⟩
    have hlen := A.len ok
    have hm0 := A.hm
    rw [vI_nats A.hx] at hS
    rw [margins_ok ok] at q
    have hwn : w = ((w.toNat : Nat) : Int) := by omega
    have hhn : h = ((h.toNat : Nat) : Int) := by omega
    have hmn : most = ((most.toNat : Nat) : Int) := by omega
    have hl2 : (natsOf x).length = h.toNat * Sh57.wide w.toNat := by
      unfold natsOf Sh57Neutral.nats
      rw [List.length_map, hlen]
    clear bad okI A ok hlen
    generalize w.toNat = wn at *
    generalize h.toNat = hn at *
    generalize most.toNat = mn at *
    generalize natsOf x = xs at *
    subst hwn hhn hmn
    -- columns
    refine ⟨_, rfl, _, rfl, _, rfl, a, xs, wn, hn, rfl, hS, hl2, by omega, by omega, fun H1 pc s1 n1 c1 => ?_⟩
    -- across
    refine ⟨_, rfl, pc, colsOf xs wn hn, rfl, c1, by rw [colsOf_length]; omega, fun H2 D s2 hD e2 => ?_⟩
    rw [across_eq] at e2
    have lA := columnCounts_length xs wn hn
    have lB := rowCounts_length xs wn hn
    -- down
    refine ⟨_, rfl, _, rfl, pc, colsOf xs wn hn, hn, rfl, c1.same s2, by omega, by rw [colsOf_length]; omega, fun H3 pd s3 n3 e3 => ?_⟩
    rw [colsOf_length, tally_shear, down_eq] at e3
    have e2 := s3 _ _ e2
    have hmg : Sh57.margins wn hn mn (Sh57.page wn hn xs) = [Sh57.margin mn (Sh57.columnCounts wn hn (Sh57.page wn hn xs)), Sh57.margin mn (Sh57.rowCounts wn hn (Sh57.page wn hn xs)), Sh57.margin mn (Sh57.columnCounts wn hn (Sh57.page wn hn xs)).reverse, Sh57.margin mn (Sh57.rowCounts wn hn (Sh57.page wn hn xs)).reverse] := rfl
    rw [hmg] at q
    clear hmg
    generalize Sh57.columnCounts wn hn (Sh57.page wn hn xs) = ca at *
    generalize Sh57.rowCounts wn hn (Sh57.page wn hn xs) = cb at *
    -- sides
    have rv : ∀ l : List Nat, (vN l).reverse = vN l.reverse := fun l => by
      unfold vN
      rw [List.map_reverse]
    refine ⟨_, rfl, _, rfl, _, rfl, D, _, rfl, SqL.of e2, fun p4 n4 => ?_⟩
    have s4 : Same H3 (upd H3 p4 (.lst (vN ca).reverse)) := same_upd n4
    refine ⟨_, rfl, pd, _, rfl, SqL.of (s4 _ _ e3), fun p5 n5 => ?_⟩
    have s5 := s4.trans (same_upd (o := .lst (vN cb).reverse) n5)
    refine ⟨(by show 4 ≤ sizeLine; decide), fun p6 n6 => ?_⟩
    have s6 := s5.trans (same_upd (o := .lst [.ref D, .ref pd, .ref p4, .ref p5]) n6)
    have k1 := s6 _ _ e2
    have k2 := s6 _ _ e3
    have k3 := same_upd (o := .lst [.ref D, .ref pd, .ref p4, .ref p5]) n6 _ _ (same_upd (o := .lst (vN cb).reverse) n5 _ _ (upd_same (H := H3) (a := p4) (o := .lst (vN ca).reverse)))
    have k4 := same_upd (o := .lst [.ref D, .ref pd, .ref p4, .ref p5]) n6 _ _ (upd_same (H := upd H3 p4 (.lst (vN ca).reverse)) (a := p5) (o := .lst (vN cb).reverse))
    have k5 := upd_same (H := upd (upd H3 p4 (.lst (vN ca).reverse)) p5 (.lst (vN cb).reverse)) (a := p6) (o := .lst [.ref D, .ref pd, .ref p4, .ref p5])
    generalize upd (upd (upd H3 p4 (.lst (vN ca).reverse)) p5 (.lst (vN cb).reverse)) p6 (.lst [.ref D, .ref pd, .ref p4, .ref p5]) = H6 at *
    rw [rv] at k3 k4
    -- the answer
    refine ⟨(by show 1 ≤ sizeLine; decide), fun p7 n7 => ?_⟩
    have s7 : Same H6 (upd H6 p7 (.lst [.int 0])) := same_upd n7
    refine ⟨_, rfl, p6, rfl, ⟨_, SqL.of (s7 _ _ k5)⟩, fun D2 hD2 => ?_⟩
    have item : ∀ (i : Nat) (xv : V), ([.ref D, .ref pd, .ref p4, .ref p5] : List V)[i]? = some xv → ∃ (t : Addr) (l : List Nat), xv = .ref t ∧ [ca, cb, ca.reverse, cb.reverse][i]? = some l ∧ H6 t = some (.lst (vN l)) ∧ l.length ≤ 256
      | 0, xv, e => ⟨D, ca, (Option.some.inj e).symm, rfl, k1, by omega⟩
      | 1, xv, e => ⟨pd, cb, (Option.some.inj e).symm, rfl, k2, by omega⟩
      | 2, xv, e => ⟨p4, ca.reverse, (Option.some.inj e).symm, rfl, k3, by rw [List.length_reverse]; omega⟩
      | 3, xv, e => ⟨p5, cb.reverse, (Option.some.inj e).symm, rfl, k4, by rw [List.length_reverse]; omega⟩
      | n + 4, xv, e => by simp at e
    refine lc_list (K := K) (a := p6) (xs := [.ref D, .ref pd, .ref p4, .ref p5]) (fun i H' => Same (upd H6 p7 (.lst [.int 0])) H' ∧ H' D2 = some (.lst (vN (([ca, cb, ca.reverse, cb.reverse].take i).map (Sh57.margin mn))))) ⟨same_upd hD2, upd_same⟩ (fun i H' _ ⟨sm, _⟩ => SqL.of (sm _ _ (s7 _ _ k5))) ?_ ?_
    · rintro i xv H' hx ⟨sm, e7⟩
      obtain ⟨t, l, rfl, el, ht, hl⟩ := item i xv hx
      refine ⟨rfl, _, rfl, _, rfl, t, l, mn, rfl, SqL.of (sm _ _ (s7 _ _ ht)), by omega, _, e7, ?_, ?_, ?_⟩
      · rw [vN_length, List.length_map, List.length_take]
        exact small (m := 4) (Nat.min_le_right _ _) (by decide)
      · exact fun b o u => by
          rw [upd_ne (ne_of_none u hD2)]
          exact sm b o u
      · rw [upd_same, take_map_succ _ el]
    · rintro H8 ⟨s8, e8⟩
      refine ⟨p7, D2, _, _, rfl, rfl, s8 _ _ upd_same, e8, ?_, fun p9 n9 => ?_⟩
      · show 1 + 4 ≤ sizeLine
        decide
      · refine q _ p9 ?_
        rw [upd_same]
        rfl
end
/-! ### the request: numbers ahead of one list -/
theorem req1 {K : PySem.W.Frag} {H : Hp} {xs : List V} {x : List Int} (hx : DwAll K H xs [.list (x.map PySem.W.WData.int)]) : ∃ a, xs = [.ref a] ∧ SqL K H a (vI x) := by
  cases hx with
  | cons h1 hx =>
  cases hx
  cases h1 with
  | lst hs ha =>
    have e := ints_dw x _ ha
    subst e
    exact ⟨_, rfl, hs⟩
theorem req_int {K : PySem.W.Frag} {H : Hp} {xs : List V} {k : Int} {r : List PySem.W.WData} (hx : DwAll K H xs (.int k :: r)) : ∃ ys, xs = .int k :: ys ∧ DwAll K H ys r := by
  cases hx with
  | cons h1 hx =>
  cases h1
  exact ⟨_, rfl, hx⟩
theorem list_of {x : List Int} {m : Nat} {b : Int} (q : (Codec.inLen 0 m x && x.all (Codec.inInt 0 b)) = true) : x.length ≤ m ∧ ∀ z ∈ x, 0 ≤ z ∧ z ≤ b := by
  simp only [Bool.and_eq_true, List.all_eq_true, Codec.inInt_iff] at q
  refine ⟨?_, fun z hz => q.2 z hz⟩
  have := q.1
  unfold Codec.inLen Codec.inNat at this
  simp only [Bool.and_eq_true, decide_eq_true_eq] at this
  exact this.2
theorem pageP_of {most w h : Int} {x : List Int} (qa : Sh57Neutral.asked [[8, most, w, h], x] = true)
    (q : (Codec.inInt 0 4294967295 most && (Codec.inInt 0 4294967295 w && (Codec.inInt 0 4294967295 h && ((Codec.inLen 0 2313 x && x.all (Codec.inInt 0 4294967295)) && true)))) = true) : PageP most w h x := by
  simp only [Bool.and_eq_true, Codec.inInt_iff, List.all_eq_true] at q
  exact ⟨q.1.1, q.2.1.1, q.2.2.1.1, fun z hz => (q.2.2.2.1.2 z hz).1, fun ok => asked_lenP qa ok⟩
/-! ### the end -/
theorem all_mk {P : Program} {w : World} {K : PySem.W.Frag} {h : Heap} {mg : Str → Option Value} {fa f1 f2 f3 f4 f5 f6 f7 f8 f9 f10 f11 f12 : Addr} (X : K.In h) (G : h.Ns mainGlobals mg) (hfa : mg "st_margins" = some (.ref fa))
    {od1 an1 od2 an2 od3 an3 od4 an4 od5 an5 od6 an6 od7 an7 od8 an8 od9 an9 od10 an10 od11 an11 od12 an12 : Option Addr} {sl1 sl2 sl3 sl4 sl5 sl6 sl7 sl8 sl9 sl10 sl11 sl12 : Array (Option Value)} {oc1 kV1 dc1 pm1 cd1 ct1 oc2 kV2 dc2 pm2 cd2 ct2 oc3 kV3 dc3 pm3 cd3 ct3 oc4 kV4 dc4 pm4 cd4 ct4 oc5 kV5 dc5 pm5 cd5 ct5 oc6 kV6 dc6 pm6 cd6 ct6 oc7 kV7 dc7 pm7 cd7 ct7 oc8 kV8 dc8 pm8 cd8 ct8 oc9 kV9 dc9 pm9 cd9 ct9 oc10 kV10 dc10 pm10 cd10 ct10 oc11 kV11 dc11 pm11 cd11 ct11 oc12 kV12 dc12 pm12 cd12 ct12 : Value} {u1 : Tok} {u2 : Tok}
    (a1 : PySem.W.nsIn K mainGlobals "side_in_range" = some (some (.ref f1))) (l1 : K.lookup f1 = some ⟨oc1, od1, .func (PySem.W.fnOf "side_in_range" "side_in_range" (defArgs s_side_in_range) (defBody s_side_in_range) (defScope s_side_in_range) .none kV1 dc1 pm1 an1 cd1 ct1), sl1⟩) (c1 : PySem.W.codeIn K cd1 "side_in_range" = true) (k1 : PySem.W.keepIn K (.ref f1) = true)
    (a2 : PySem.W.nsIn K mainGlobals "shear_move" = some (some (.ref f2))) (l2 : K.lookup f2 = some ⟨oc2, od2, .func (PySem.W.fnOf "shear_move" "shear_move" (defArgs s_shear_move) (defBody s_shear_move) (defScope s_shear_move) .none kV2 dc2 pm2 an2 cd2 ct2), sl2⟩) (c2 : PySem.W.codeIn K cd2 "shear_move" = true) (k2 : PySem.W.keepIn K (.ref f2) = true)
    (a3 : PySem.W.nsIn K mainGlobals "shear_moves" = some (some (.ref f3))) (l3 : K.lookup f3 = some ⟨oc3, od3, .func (PySem.W.fnOf "shear_moves" "shear_moves" (defArgs s_shear_moves) (defBody s_shear_moves) (defScope s_shear_moves) .none kV3 dc3 pm3 an3 cd3 ct3), sl3⟩) (c3 : PySem.W.codeIn K cd3 "shear_moves" = true) (k3 : PySem.W.keepIn K (.ref f3) = true)
    (a4 : PySem.W.nsIn K mainGlobals "words_in_row" = some (some (.ref f4))) (l4 : K.lookup f4 = some ⟨oc4, od4, .func (PySem.W.fnOf "words_in_row" "words_in_row" (defArgs s_words_in_row) (defBody s_words_in_row) (defScope s_words_in_row) .none kV4 dc4 pm4 an4 cd4 ct4), sl4⟩) (c4 : PySem.W.codeIn K cd4 "words_in_row" = true) (k4 : PySem.W.keepIn K (.ref f4) = true)
    (a5 : PySem.W.nsIn K mainGlobals "dot_at" = some (some (.ref f5))) (l5 : K.lookup f5 = some ⟨oc5, od5, .func (PySem.W.fnOf "dot_at" "dot_at" (defArgs s_dot_at) (defBody s_dot_at) (defScope s_dot_at) .none kV5 dc5 pm5 an5 cd5 ct5), sl5⟩) (c5 : PySem.W.codeIn K cd5 "dot_at" = true) (k5 : PySem.W.keepIn K (.ref f5) = true)
    (a6 : PySem.W.nsIn K mainGlobals "dots_in_column" = some (some (.ref f6))) (l6 : K.lookup f6 = some ⟨oc6, od6, .func (PySem.W.fnOf "dots_in_column" "dots_in_column" (defArgs s_dots_in_column) (defBody s_dots_in_column) (defScope s_dots_in_column) .none kV6 dc6 pm6 an6 cd6 ct6), sl6⟩) (c6 : PySem.W.codeIn K cd6 "dots_in_column" = true) (k6 : PySem.W.keepIn K (.ref f6) = true)
    (a7 : PySem.W.nsIn K mainGlobals "columns_of_dots" = some (some (.ref f7))) (l7 : K.lookup f7 = some ⟨oc7, od7, .func (PySem.W.fnOf "columns_of_dots" "columns_of_dots" (defArgs s_columns_of_dots) (defBody s_columns_of_dots) (defScope s_columns_of_dots) .none kV7 dc7 pm7 an7 cd7 ct7), sl7⟩) (c7 : PySem.W.codeIn K cd7 "columns_of_dots" = true) (k7 : PySem.W.keepIn K (.ref f7) = true)
    (a8 : PySem.W.nsIn K mainGlobals "sheared_counts" = some (some (.ref f8))) (l8 : K.lookup f8 = some ⟨oc8, od8, .func (PySem.W.fnOf "sheared_counts" "sheared_counts" (defArgs s_sheared_counts) (defBody s_sheared_counts) (defScope s_sheared_counts) .none kV8 dc8 pm8 an8 cd8 ct8), sl8⟩) (c8 : PySem.W.codeIn K cd8 "sheared_counts" = true) (k8 : PySem.W.keepIn K (.ref f8) = true)
    (a9 : PySem.W.nsIn K mainGlobals "counts_down" = some (some (.ref f9))) (l9 : K.lookup f9 = some ⟨oc9, od9, .func (PySem.W.fnOf "counts_down" "counts_down" (defArgs s_counts_down) (defBody s_counts_down) (defScope s_counts_down) .none kV9 dc9 pm9 an9 cd9 ct9), sl9⟩) (c9 : PySem.W.codeIn K cd9 "counts_down" = true) (k9 : PySem.W.keepIn K (.ref f9) = true)
    (a10 : PySem.W.nsIn K mainGlobals "counts_across" = some (some (.ref f10))) (l10 : K.lookup f10 = some ⟨oc10, od10, .func (PySem.W.fnOf "counts_across" "counts_across" (defArgs s_counts_across) (defBody s_counts_across) (defScope s_counts_across) .none kV10 dc10 pm10 an10 cd10 ct10), sl10⟩) (c10 : PySem.W.codeIn K cd10 "counts_across" = true) (k10 : PySem.W.keepIn K (.ref f10) = true)
    (a11 : PySem.W.nsIn K mainGlobals "ahead_of_first_above" = some (some (.ref f11))) (l11 : K.lookup f11 = some ⟨oc11, od11, .func (PySem.W.fnOf "ahead_of_first_above" "ahead_of_first_above" (defArgs s_ahead_of_first_above) (defBody s_ahead_of_first_above) (defScope s_ahead_of_first_above) .none kV11 dc11 pm11 an11 cd11 ct11), sl11⟩) (c11 : PySem.W.codeIn K cd11 "ahead_of_first_above" = true) (k11 : PySem.W.keepIn K (.ref f11) = true)
    (a12 : PySem.W.nsIn K mainGlobals "st_margins" = some (some (.ref f12))) (l12 : K.lookup f12 = some ⟨oc12, od12, .func (PySem.W.fnOf "st_margins" "st_margins" (defArgs s_st_margins) (defBody s_st_margins) (defScope s_st_margins) .none kV12 dc12 pm12 an12 cd12 ct12), sl12⟩) (c12 : PySem.W.codeIn K cd12 "st_margins" = true) (k12 : PySem.W.keepIn K (.ref f12) = true)
    (n1 : PySem.W.nsIn K mainGlobals "WORD_BITS" = some (some (.int 32 u1)))
    (n2 : PySem.W.nsIn K mainGlobals "LARGEST_SIDE" = some (some (.int 256 u2)))
    (z1 : PySem.W.nsIn K mainGlobals "len" = some none)
    (z2 : PySem.W.nsIn K mainGlobals "list" = some none)
    (z3 : PySem.W.nsIn K mainGlobals "range" = some none)
    (z4 : PySem.W.nsIn K mainGlobals "reversed" = some none) :
    ∃ fd : FuncData, (∀ (s : Shared) (us : List Value), us.length = (["most", "w", "h", "x"] : List Str).length → BindsTo s fd ⟨us, []⟩ ((["most", "w", "h", "x"] : List Str).zip us)) ∧ ∀ base : Heap, K.In base → base.Ns mainGlobals mg → FnOk P w K mg base CX0 5 fa fd ["most", "w", "h", "x"] (spMain K) := by
  have e := hfa.symm.trans (PySem.W.mg_of X G a12)
  cases e
  have F1 := fun_mk (st := s_side_in_range) l1 c1 k1
  have b1 := F1.binds (ps := ["side"]) fun _ _ _ _ _ _ us hl => match us, hl with | [_], _ => rfl
  have F2 := fun_mk (st := s_shear_move) l2 c2 k2
  have b2 := F2.binds (ps := ["k", "d", "w", "c"]) fun _ _ _ _ _ _ us hl => match us, hl with | [_, _, _, _], _ => rfl
  have F3 := fun_mk (st := s_shear_moves) l3 c3 k3
  have b3 := F3.binds (ps := ["k", "d", "w"]) fun _ _ _ _ _ _ us hl => match us, hl with | [_, _, _], _ => rfl
  have F4 := fun_mk (st := s_words_in_row) l4 c4 k4
  have b4 := F4.binds (ps := ["w"]) fun _ _ _ _ _ _ us hl => match us, hl with | [_], _ => rfl
  have F5 := fun_mk (st := s_dot_at) l5 c5 k5
  have b5 := F5.binds (ps := ["x", "w", "h", "c", "r"]) fun _ _ _ _ _ _ us hl => match us, hl with | [_, _, _, _, _], _ => rfl
  have F6 := fun_mk (st := s_dots_in_column) l6 c6 k6
  have b6 := F6.binds (ps := ["x", "w", "h", "c"]) fun _ _ _ _ _ _ us hl => match us, hl with | [_, _, _, _], _ => rfl
  have F7 := fun_mk (st := s_columns_of_dots) l7 c7 k7
  have b7 := F7.binds (ps := ["x", "w", "h"]) fun _ _ _ _ _ _ us hl => match us, hl with | [_, _, _], _ => rfl
  have F8 := fun_mk (st := s_sheared_counts) l8 c8 k8
  have b8 := F8.binds (ps := ["k", "d", "h", "columns"]) fun _ _ _ _ _ _ us hl => match us, hl with | [_, _, _, _], _ => rfl
  have F9 := fun_mk (st := s_counts_down) l9 c9 k9
  have b9 := F9.binds (ps := ["columns", "h"]) fun _ _ _ _ _ _ us hl => match us, hl with | [_, _], _ => rfl
  have F10 := fun_mk (st := s_counts_across) l10 c10 k10
  have b10 := F10.binds (ps := ["columns"]) fun _ _ _ _ _ _ us hl => match us, hl with | [_], _ => rfl
  have F11 := fun_mk (st := s_ahead_of_first_above) l11 c11 k11
  have b11 := F11.binds (ps := ["counts", "most"]) fun _ _ _ _ _ _ us hl => match us, hl with | [_, _], _ => rfl
  have F12 := fun_mk (st := s_st_margins) l12 c12 k12
  have b12 := F12.binds (ps := ["most", "w", "h", "x"]) fun _ _ _ _ _ _ us hl => match us, hl with | [_, _, _, _], _ => rfl
  exact ⟨_, fun s us hu => match us, hu with | [_, _, _, _], _ => .of_eq rfl, fun base _ _ => ok_main (⟨u1, PySem.W.mg_of X G n1, u2, PySem.W.mg_of X G n2, _, _, F1, b1, PySem.W.mg_of X G a1, _, _, F2, b2, PySem.W.mg_of X G a2, _, _, F3, b3, PySem.W.mg_of X G a3, _, _, F4, b4, PySem.W.mg_of X G a4, _, _, F5, b5, PySem.W.mg_of X G a5, _, _, F6, b6, PySem.W.mg_of X G a6, _, _, F7, b7, PySem.W.mg_of X G a7, _, _, F8, b8, PySem.W.mg_of X G a8, _, _, F9, b9, PySem.W.mg_of X G a9, _, _, F10, b10, PySem.W.mg_of X G a10, _, _, F11, b11, PySem.W.mg_of X G a11, _, _, F12, b12, PySem.W.mg_of X G a12, PySem.W.mg_none_of X G z1, PySem.W.mg_none_of X G z2, PySem.W.mg_none_of X G z3, PySem.W.mg_none_of X G z4⟩ : Txt K mg)⟩
end Pg
open PySem PySem.W PyProof.Rows
set_option maxRecDepth 100000 in
set_option maxHeartbeats 0 in
theorem PySem.Challenge.cw_pagestraight_s09_st_margins_holds : PySem.Challenge.rw_pagestraight_s09_st_margins.Holds := by
  w_on; k_headS; (case hw => exact ⟨[.int 0, .int 0, .int 0, .list []], by decide +kernel, by decide +kernel⟩)
  k_fillS
  refine L2.walk_specK (r := PySem.Challenge.rw_pagestraight_s09_st_margins) (k := 5) (CX := L2.CX0) (ps := ["most", "w", "h", "x"]) (sp := Pg.spMain) (by decide +kernel) rfl rfl ⟨rfl, by decide, by decide⟩ (fun w h Y => PySem.W.kIn_of Y) ?F ?S (fun _ _ _ _ z => z)
  case F =>
    intro w mg fa h Y KX G hmg
    refine' Pg.all_mk KX G hmg ?a1 ?l1 ?c1 ?k1 ?a2 ?l2 ?c2 ?k2 ?a3 ?l3 ?c3 ?k3 ?a4 ?l4 ?c4 ?k4 ?a5 ?l5 ?c5 ?k5 ?a6 ?l6 ?c6 ?k6 ?a7 ?l7 ?c7 ?k7 ?a8 ?l8 ?c8 ?k8 ?a9 ?l9 ?c9 ?k9 ?a10 ?l10 ?c10 ?k10 ?a11 ?l11 ?c11 ?k11 ?a12 ?l12 ?c12 ?k12 ?n1 ?n2 ?z1 ?z2 ?z3 ?z4
    (case a1 => k_is)
    (case l1 => k_is)
    (case c1 => k_is)
    (case k1 => k_is)
    (case a2 => k_is)
    (case l2 => k_is)
    (case c2 => k_is)
    (case k2 => k_is)
    (case a3 => k_is)
    (case l3 => k_is)
    (case c3 => k_is)
    (case k3 => k_is)
    (case a4 => k_is)
    (case l4 => k_is)
    (case c4 => k_is)
    (case k4 => k_is)
    (case a5 => k_is)
    (case l5 => k_is)
    (case c5 => k_is)
    (case k5 => k_is)
    (case a6 => k_is)
    (case l6 => k_is)
    (case c6 => k_is)
    (case k6 => k_is)
    (case a7 => k_is)
    (case l7 => k_is)
    (case c7 => k_is)
    (case k7 => k_is)
    (case a8 => k_is)
    (case l8 => k_is)
    (case c8 => k_is)
    (case k8 => k_is)
    (case a9 => k_is)
    (case l9 => k_is)
    (case c9 => k_is)
    (case k9 => k_is)
    (case a10 => k_is)
    (case l10 => k_is)
    (case c10 => k_is)
    (case k10 => k_is)
    (case a11 => k_is)
    (case l11 => k_is)
    (case c11 => k_is)
    (case k11 => k_is)
    (case a12 => k_is)
    (case l12 => k_is)
    (case c12 => k_is)
    (case k12 => k_is)
    (case n1 => k_is)
    (case n2 => k_is)
    (case z1 => k_is)
    (case z2 => k_is)
    (case z3 => k_is)
    (case z4 => k_is)
  case S =>
    intro K H xs a hO hwi hask hx
    obtain ⟨most, w, h, x, u⟩ := a
    obtain ⟨ys, e1, hx1⟩ := Pg.req_int (k := most) hx
    obtain ⟨zs, e2, hx2⟩ := Pg.req_int (k := w) hx1
    obtain ⟨ts, e3, hx3⟩ := Pg.req_int (k := h) hx2
    obtain ⟨p, e4, hS⟩ := Pg.req1 (x := x) hx3
    have A := Pg.pageP_of (show Sh57Neutral.asked [[8, most, w, h], x] = true from hask) hwi
    exact ⟨most, w, h, p, x, e1.trans (congrArg _ (e2.trans (congrArg _ (e3.trans (congrArg _ e4))))), hS, A, fun H' p hp => .lst (L2.SqL.of hp) (L2.dw_ints _)⟩
#print axioms PySem.Challenge.cw_pagestraight_s09_st_margins_holds
