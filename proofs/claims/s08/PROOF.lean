import PyProof.Rows.All
import Wide.All
import OpenK.AllK
import Wide.FinOn
import Open.SpecLaws
import KE.OsHead
import KE.OsGo
import HandS.ForSpec
import HandS.Comp
import HandS.Text
import PySem.Challenge.RW_pagestraight_s08_st_bands
set_option Elab.async false
set_option linter.all false
set_option maxRecDepth 100000
set_option maxHeartbeats 2000000
/-! The mathematics of pages: a page as rows of words, and back. Plain Lean alone. -/
namespace Pg
open Sh57
/-! ### sums of bits -/
def bitsum (p : Nat → Bool) (n : Nat) : Nat := ((List.range n).map fun j => if p j = true then 2 ^ j else 0).sum
theorem bitsum_zero (p : Nat → Bool) : bitsum p 0 = 0 := rfl
theorem bitsum_succ (p : Nat → Bool) (n : Nat) : bitsum p (n + 1) = bitsum p n + (if p n = true then 2 ^ n else 0) := by
  unfold bitsum
  rw [List.range_succ, List.map_append, List.sum_append]
  simp
theorem bitsum_lt (p : Nat → Bool) : ∀ n, bitsum p n < 2 ^ n
  | 0 => Nat.one_pos
  | n + 1 => by
    have ih := bitsum_lt p n
    rw [bitsum_succ, Nat.pow_succ]
    split <;> omega
theorem bitsum_congr {p q : Nat → Bool} : ∀ {n : Nat}, (∀ j, j < n → p j = q j) → bitsum p n = bitsum q n
  | 0, _ => rfl
  | n + 1, h => by
    rw [bitsum_succ, bitsum_succ, bitsum_congr (n := n) fun j hj => h j (by omega), h n (by omega)]
theorem bitsum_cut {p : Nat → Bool} {m : Nat} : ∀ {n : Nat}, (∀ j, m ≤ j → j < n → p j = false) → m ≤ n → bitsum p n = bitsum p m
  | 0, _, hm => by
    have e : m = 0 := by omega
    rw [e]
  | n + 1, h, hm => by
    by_cases e : m = n + 1
    · rw [e]
    · rw [bitsum_succ, bitsum_cut (n := n) (fun j h1 h2 => h j h1 (by omega)) (by omega), h n (by omega) (by omega)]
      simp
theorem bitsum_put {p q : Nat → Bool} {m : Nat} : ∀ {n : Nat}, m < n → (∀ j, j ≠ m → q j = p j) → p m = false → bitsum q n = bitsum p n + (if q m = true then 2 ^ m else 0)
  | 0, hm, _, _ => by omega
  | n + 1, hm, h, hp => by
    rw [bitsum_succ, bitsum_succ]
    by_cases e : m = n
    · subst e
      rw [bitsum_congr (p := q) (q := p) fun j hj => h j (by omega), hp]
      simp
    · rw [bitsum_put (n := n) (by omega) h hp, h n (fun z => e z.symm)]
      omega
/-! ### a row of dots as words -/
def word (bs : List Bool) (k : Nat) : Nat := bitsum (fun j => bs.getD (32 * k + j) false) 32
def rowL (bs : List Bool) : List Nat := (List.range (wide bs.length)).map (word bs)
theorem rowL_length (bs : List Bool) : (rowL bs).length = wide bs.length := by
  unfold rowL
  simp
theorem word_nil (k : Nat) : word [] k = 0 := by
  unfold word
  rw [bitsum_cut (m := 0) (fun j _ _ => by simp) (by omega)]
  rfl
theorem getD_take (bs : List Bool) (c i : Nat) : (bs.take c).getD i false = if i < c then bs.getD i false else false := by
  rw [List.getD_eq_getElem?_getD, List.getD_eq_getElem?_getD, List.getElem?_take]
  split <;> rfl
/-- bits of a word at or behind the place that is next aren't set -/
theorem word_take_lt (bs : List Bool) (c : Nat) : word (bs.take c) (c / 32) < 2 ^ (c % 32) := by
  unfold word
  rw [bitsum_cut (m := c % 32) (fun j h1 h2 => ?_) (by omega)]
  · exact bitsum_lt _ _
  · rw [getD_take, if_neg (by omega)]
theorem word_take_same (bs : List Bool) (c : Nat) : word (bs.take (c + 1)) (c / 32) = word (bs.take c) (c / 32) + (if bs.getD c false = true then 2 ^ (c % 32) else 0) := by
  unfold word
  have h1 : ∀ j, j ≠ c % 32 → (bs.take (c + 1)).getD (32 * (c / 32) + j) false = (bs.take c).getD (32 * (c / 32) + j) false := fun j hj => by
    rw [getD_take, getD_take]
    by_cases h : 32 * (c / 32) + j < c
    · rw [if_pos h, if_pos (by omega)]
    · rw [if_neg h, if_neg (by omega)]
  have h2 : (bs.take c).getD (32 * (c / 32) + c % 32) false = false := by
    rw [getD_take, if_neg (by omega)]
  have h3 : (bs.take (c + 1)).getD (32 * (c / 32) + c % 32) false = bs.getD c false := by
    have e : 32 * (c / 32) + c % 32 = c := by omega
    rw [e, getD_take, if_pos (by omega)]
  have h4 := bitsum_put (p := fun j => (bs.take c).getD (32 * (c / 32) + j) false) (q := fun j => (bs.take (c + 1)).getD (32 * (c / 32) + j) false) (m := c % 32) (n := 32) (by omega) h1 h2
  rw [h4, h3]
theorem word_take_other (bs : List Bool) (c k : Nat) (hk : k ≠ c / 32) : word (bs.take (c + 1)) k = word (bs.take c) k := by
  unfold word
  refine bitsum_congr fun j hj => ?_
  rw [getD_take, getD_take]
  by_cases h : 32 * k + j < c
  · rw [if_pos h, if_pos (by omega)]
  · rw [if_neg h, if_neg (by omega)]
/-- the words of the dots ahead of place c, as many as the whole row has -/
def rowTo (bs : List Bool) (c : Nat) : List Nat := (List.range (wide bs.length)).map (word (bs.take c))
theorem rowTo_zero (bs : List Bool) : rowTo bs 0 = List.replicate (wide bs.length) 0 := by
  unfold rowTo
  refine List.ext_getElem (by simp) fun i h1 h2 => ?_
  simp [word_nil]
theorem rowTo_all (bs : List Bool) : rowTo bs bs.length = rowL bs := by
  unfold rowTo rowL
  rw [List.take_length]
theorem rowTo_length (bs : List Bool) (c : Nat) : (rowTo bs c).length = wide bs.length := by
  unfold rowTo
  simp
theorem div_lt_wide {c n : Nat} (h : c < n) : c / 32 < wide n := by
  unfold wide
  omega
theorem rowTo_get (bs : List Bool) {c k : Nat} (h : k < wide bs.length) : (rowTo bs c)[k]? = some (word (bs.take c) k) := by
  unfold rowTo
  rw [List.getElem?_map, List.getElem?_range h]
  rfl
theorem rowTo_succ (bs : List Bool) {c : Nat} : rowTo bs (c + 1) = (rowTo bs c).set (c / 32) (word (bs.take c) (c / 32) + (if bs.getD c false = true then 2 ^ (c % 32) else 0)) := by
  refine List.ext_getElem? fun k => ?_
  by_cases hk : k < wide bs.length
  · rw [rowTo_get bs hk]
    by_cases e : k = c / 32
    · subst e
      rw [List.getElem?_set_self (by rw [rowTo_length]; exact hk), word_take_same]
    · rw [List.getElem?_set_ne (fun z => e z.symm), rowTo_get bs hk, word_take_other bs c k e]
  · rw [List.getElem?_eq_none (by rw [rowTo_length]; omega), List.getElem?_eq_none (by rw [List.length_set, rowTo_length]; omega)]
/-! ### pages -/
theorem each_length (w : Nat) (f : Nat → Nat → Bool) : ∀ h, (each w h f).length = h * w
  | 0 => by simp [each]
  | h + 1 => by
    have ih := each_length w f h
    unfold each at ih ⊢
    rw [List.range_succ, List.flatMap_append, List.length_append, ih, Nat.succ_mul]
    simp
theorem each_get (w : Nat) (f : Nat → Nat → Bool) {c : Nat} (hc : c < w) : ∀ {h r : Nat}, r < h → (each w h f)[r * w + c]? = some (f c r)
  | 0, r, hr => by omega
  | h + 1, r, hr => by
    have e : each w (h + 1) f = each w h f ++ (List.range w).map fun c => f c h := by
      unfold each
      rw [List.range_succ, List.flatMap_append]
      simp
    rw [e]
    by_cases q : r < h
    · have l : r * w + c < (each w h f).length := by
        rw [each_length]
        have := Nat.mul_le_mul_right w (show r + 1 ≤ h from q)
        rw [Nat.succ_mul] at this
        omega
      rw [List.getElem?_append_left l]
      exact each_get w f hc q
    · have er : r = h := by omega
      subst er
      rw [List.getElem?_append_right (by rw [each_length]; omega), each_length, Nat.add_sub_cancel_left, List.getElem?_map, List.getElem?_range hc]
      rfl
theorem dot_each (w h : Nat) (f : Nat → Nat → Bool) (c r : Nat) : dot w h (each w h f).toArray c r = (decide (c < w) && (decide (r < h) && f c r)) := by
  unfold dot
  by_cases hc : c < w
  · by_cases hr : r < h
    · have e : (each w h f).toArray.getD (r * w + c) false = f c r := by
        rw [Array.getD_eq_getD_getElem?, List.getElem?_toArray, each_get w f hc hr]
        rfl
      rw [e]
    · simp [hr]
  · simp [hc]
theorem words_each (w h : Nat) (f : Nat → Nat → Bool) : words w h (each w h f) = (List.range h).flatMap fun r => rowL ((List.range w).map fun c => f c r) := by
  unfold words rowL
  have go : ∀ (l : List Nat) (F G : Nat → List Nat), (∀ r ∈ l, F r = G r) → l.flatMap F = l.flatMap G := by
    intro l F G hfg
    induction l with
    | nil => rfl
    | cons a l ih =>
      rw [List.flatMap_cons, List.flatMap_cons, hfg a (by simp), ih fun r hr => hfg r (by simp [hr])]
  refine go _ _ _ fun r hr => ?_
  have hr : r < h := List.mem_range.mp hr
  rw [List.length_map, List.length_range]
  refine List.map_congr_left fun k _ => ?_
  unfold word
  show bitsum (fun j => dot w h (each w h f).toArray (32 * k + j) r) 32 = _
  refine bitsum_congr fun j _ => ?_
  rw [dot_each, List.getD_eq_getElem?_getD, List.getElem?_map]
  by_cases hc : 32 * k + j < w
  · rw [List.getElem?_range hc]
    simp [hc, hr]
  · rw [List.getElem?_eq_none (by rw [List.length_range]; omega)]
    simp [hc]
/-- the bit of a row's word -/
def bitAt (x : List Nat) (w c r : Nat) : Bool := x.getD (r * wide w + c / 32) 0 / 2 ^ (c % 32) % 2 == 1
theorem page_each (w h : Nat) (x : List Nat) : page w h x = each w h (bitAt x w) := by
  unfold page each bitAt
  dsimp only
  congr 1
  funext r
  congr 1
  funext c
  rw [Array.getD_eq_getD_getElem?, List.getElem?_toArray, List.getD_eq_getElem?_getD]
theorem dot_page (w h : Nat) (x : List Nat) (c r : Nat) : dot w h (page w h x).toArray c r = (decide (c < w) && (decide (r < h) && bitAt x w c r)) := by
  rw [page_each, dot_each]
/-- what stands at a place of a page of words, white beyond -/
def at_ (x : List Nat) (w h : Nat) (c r : Int) : Bool := there w h (page w h x).toArray c r
theorem at_out {x : List Nat} {w h : Nat} {c r : Int} (q : c < 0 ∨ (w : Int) ≤ c ∨ r < 0 ∨ (h : Int) ≤ r) : at_ x w h c r = false := by
  unfold at_ there
  rw [dot_page]
  rcases q with q | q | q | q
  · simp [show ¬ (0 ≤ c) by omega]
  · simp [show ¬ (c.toNat < w) by omega]
  · simp [show ¬ (0 ≤ r) by omega]
  · simp [show ¬ (r.toNat < h) by omega]
theorem at_in {x : List Nat} {w h c r : Nat} (hc : c < w) (hr : r < h) : at_ x w h (c : Int) (r : Int) = bitAt x w c r := by
  unfold at_ there
  rw [dot_page]
  simp [hc, hr]
theorem place_lt {w h c r : Nat} (hc : c < w) (hr : r < h) : r * wide w + c / 32 < h * wide w := by
  have h1 := div_lt_wide hc
  have h2 := Nat.mul_le_mul_right (wide w) (show r + 1 ≤ h from hr)
  rw [Nat.succ_mul] at h2
  omega
theorem flatMap_congr' {α β : Type} {l : List α} {F G : α → List β} (hfg : ∀ r ∈ l, F r = G r) : l.flatMap F = l.flatMap G := by
  induction l with
  | nil => rfl
  | cons a l ih =>
    rw [List.flatMap_cons, List.flatMap_cons, hfg a (by simp), ih fun r hr => hfg r (by simp [hr])]
/-- the rows of an answer -/
def rowsOf (w h : Nat) (g : Nat → Nat → Bool) : List Nat := (List.range h).flatMap fun r => rowL ((List.range w).map fun c => g c r)
theorem rowsOf_succ (w h : Nat) (g : Nat → Nat → Bool) : rowsOf w (h + 1) g = rowsOf w h g ++ rowL ((List.range w).map fun c => g c h) := by
  unfold rowsOf
  rw [List.range_succ, List.flatMap_append]
  simp
theorem rowsOf_length (w : Nat) (g : Nat → Nat → Bool) : ∀ h, (rowsOf w h g).length = h * wide w
  | 0 => by simp [rowsOf]
  | h + 1 => by
    rw [rowsOf_succ, List.length_append, rowsOf_length w g h, rowL_length, Nat.succ_mul]
    simp
theorem one_each (w h : Nat) (g : Nat → Nat → Bool) : Sh57Neutral.told (one w h (each w h g)) = 0 :: (rowsOf w h g).map Int.ofNat := by
  unfold one
  rw [words_each]
  rfl
/-! ### the calls of stage 1 -/
def kOf (k : Int) : Int := Sh57Neutral.int32 k.toNat
def okS (k d w h : Int) : Bool := shearOk (kOf k) d.toNat w.toNat h.toNat
def natsOf (x : List Int) : List Nat := Sh57Neutral.nats x
theorem kOf_eq {k : Int} (h : 0 ≤ k) : kOf k = if k < 2147483648 then k else k - 4294967296 := by
  unfold kOf Sh57Neutral.int32
  by_cases q : k < 2147483648
  · rw [if_pos q, if_pos (show k.toNat < 2 ^ 31 by omega)]
    omega
  · rw [if_neg q, if_neg (show ¬ k.toNat < 2 ^ 31 by omega)]
    omega
theorem okS_iff {k d w h : Int} (hd : 0 ≤ d) (hw : 0 ≤ w) (hh : 0 ≤ h) : okS k d w h = true ↔ (-4096 ≤ kOf k ∧ kOf k ≤ 4096) ∧ (1 ≤ d ∧ d ≤ 4096) ∧ (1 ≤ w ∧ w ≤ 256) ∧ (1 ≤ h ∧ h ≤ 256) := by
  unfold okS shearOk sized among
  simp only [Bool.and_eq_true, decide_eq_true_eq]
  omega
def shearG (x : List Nat) (k : Int) (d w h : Nat) (c r : Nat) : Bool := at_ x w h (c : Int) ((r : Int) - shift w k d c)
def slantG (x : List Nat) (k : Int) (d w h : Nat) (c r : Nat) : Bool := at_ x w h ((c : Int) - shift h k d r) (r : Int)
def rollG (x : List Nat) (k : Int) (d w h : Nat) (c r : Nat) : Bool := at_ x w h (c : Int) (((r : Int) - shift w k d c) % (h : Int))
theorem shear_bad {k d w h : Int} {x : List Int} (q : okS k d w h = false) : PySh57.st_shear k d w h x = [-2] := by
  show Sh57Neutral.told (answer (if okS k d w h = true then _ else .bad)) = _
  rw [q]
  rfl
theorem slant_bad {k d w h : Int} {x : List Int} (q : okS k d w h = false) : PySh57.st_slant k d w h x = [-2] := by
  show Sh57Neutral.told (answer (if okS k d w h = true then _ else .bad)) = _
  rw [q]
  rfl
theorem roll_bad {k d w h : Int} {x : List Int} (q : okS k d w h = false) : PySh57.st_roll k d w h x = [-2] := by
  show Sh57Neutral.told (answer (if okS k d w h = true then _ else .bad)) = _
  rw [q]
  rfl
theorem shear_ok {k d w h : Int} {x : List Int} (q : okS k d w h = true) : PySh57.st_shear k d w h x = 0 :: (rowsOf w.toNat h.toNat (shearG (natsOf x) (kOf k) d.toNat w.toNat h.toNat)).map Int.ofNat := by
  show Sh57Neutral.told (answer (if okS k d w h = true then .shear (kOf k) d.toNat w.toNat h.toNat (natsOf x) else .bad)) = _
  rw [q, if_pos rfl]
  exact one_each _ _ _
theorem slant_ok {k d w h : Int} {x : List Int} (q : okS k d w h = true) : PySh57.st_slant k d w h x = 0 :: (rowsOf w.toNat h.toNat (slantG (natsOf x) (kOf k) d.toNat w.toNat h.toNat)).map Int.ofNat := by
  show Sh57Neutral.told (answer (if okS k d w h = true then .slant (kOf k) d.toNat w.toNat h.toNat (natsOf x) else .bad)) = _
  rw [q, if_pos rfl]
  exact one_each _ _ _
theorem roll_at {x : List Nat} {k : Int} {d w h c r : Nat} (hh : 0 < h) : dot w h (page w h x).toArray c (((r : Int) - shift w k d c) % (h : Int)).toNat = rollG x k d w h c r := by
  unfold rollG at_ there
  have h1 : (0 : Int) ≤ ((r : Int) - shift w k d c) % (h : Int) := Int.emod_nonneg _ (by omega)
  simp [h1]
theorem roll_ok {k d w h : Int} {x : List Int} (q : okS k d w h = true) (hh : 0 < h.toNat) : PySh57.st_roll k d w h x = 0 :: (rowsOf w.toNat h.toNat (rollG (natsOf x) (kOf k) d.toNat w.toNat h.toNat)).map Int.ofNat := by
  show Sh57Neutral.told (answer (if okS k d w h = true then .roll (kOf k) d.toNat w.toNat h.toNat (natsOf x) else .bad)) = _
  rw [q, if_pos rfl]
  refine (one_each _ _ _).trans ?_
  have e : (fun (c r : Nat) => dot w.toNat h.toNat (page w.toNat h.toNat (natsOf x)).toArray c (((r : Int) - shift w.toNat (kOf k) d.toNat c) % (h.toNat : Int)).toNat) = rollG (natsOf x) (kOf k) d.toNat w.toNat h.toNat := by
    funext c r
    exact roll_at hh
  show 0 :: List.map Int.ofNat (rowsOf w.toNat h.toNat (fun (c r : Nat) => dot w.toNat h.toNat (page w.toNat h.toNat (natsOf x)).toArray c (((r : Int) - shift w.toNat (kOf k) d.toNat c) % (h.toNat : Int)).toNat)) = _
  rw [e]
/-- what is asked of a page's call: the list's length where its numbers are in their ranges -/
theorem asked_len {n : Int} {k d w h : Int} {x : List Int} (hn : n = 0 ∨ n = 1 ∨ n = 2 ∨ n = 3) (q : Sh57Neutral.asked [[n, k, d, w, h], x] = true) (ok : okS k d w h = true) : x.length = h.toNat * wide w.toNat := by
  have q1 : Sh57Neutral.asked1 [[n, k, d, w, h], x] = true := by
    unfold Sh57Neutral.asked at q
    rw [Bool.and_eq_true] at q
    exact q.1
  have q2 : (if okS k d w h = true then x.length == h.toNat * ((w.toNat + 31) / 32) else (x.isEmpty) || (x.length == h.toNat * ((w.toNat + 31) / 32))) = true := by
    rcases hn with rfl | rfl | rfl | rfl <;>
    · simp only [Sh57Neutral.asked1, Bool.and_eq_true] at q1
      exact q1.2.2.2.2.2
  rw [ok, if_pos rfl] at q2
  exact eq_of_beq q2
end Pg
/-! Counts, sharpness, the straightest shear, gaps, bands, margins, by recursions and by what tells them apart. Plain Lean alone. -/
namespace Pg
open Sh57
/-! ### counts -/
def cnt (bs : List Bool) : Nat := many bs
theorem cnt_nil : cnt [] = 0 := rfl
theorem cnt_snoc (bs : List Bool) (b : Bool) : cnt (bs ++ [b]) = cnt bs + (if b = true then 1 else 0) := by
  unfold cnt many
  rw [List.filter_append, List.length_append]
  cases b <;> rfl
theorem cnt_le (bs : List Bool) : cnt bs ≤ bs.length := List.length_filter_le _ _
theorem cnt_range_succ (g : Nat → Bool) (n : Nat) : cnt ((List.range (n + 1)).map g) = cnt ((List.range n).map g) + (if g n = true then 1 else 0) := by
  rw [List.range_succ, List.map_append]
  exact cnt_snoc _ _
theorem rowCounts_each (w h : Nat) (g : Nat → Nat → Bool) : rowCounts w h (each w h g) = (List.range h).map fun r => cnt ((List.range w).map fun c => g c r) := by
  unfold rowCounts cnt
  dsimp only
  refine List.map_congr_left fun r hr => ?_
  have hr : r < h := List.mem_range.mp hr
  congr 1
  refine List.map_congr_left fun c hc => ?_
  have hc : c < w := List.mem_range.mp hc
  rw [dot_each]
  simp [hc, hr]
theorem columnCounts_each (w h : Nat) (g : Nat → Nat → Bool) : columnCounts w h (each w h g) = (List.range w).map fun c => cnt ((List.range h).map fun r => g c r) := by
  unfold columnCounts cnt
  dsimp only
  refine List.map_congr_left fun c hc => ?_
  have hc : c < w := List.mem_range.mp hc
  congr 1
  refine List.map_congr_left fun r hr => ?_
  have hr : r < h := List.mem_range.mp hr
  rw [dot_each]
  simp [hc, hr]
def countsOf (w h : Nat) (g : Nat → Nat → Bool) : List Nat := (List.range h).map fun r => cnt ((List.range w).map fun c => g c r)
theorem shearCounts_at (w h : Nat) (k : Int) (d : Nat) (x : List Nat) : shearCounts w h k d (page w h x) = countsOf w h (shearG x k d w h) := by
  unfold shearCounts sheared
  exact rowCounts_each w h _
theorem rowCounts_page (w h : Nat) (x : List Nat) : rowCounts w h (page w h x) = countsOf w h (bitAt x w) := by
  rw [page_each]
  exact rowCounts_each w h _
theorem columnCounts_page (w h : Nat) (x : List Nat) : columnCounts w h (page w h x) = (List.range w).map fun c => cnt ((List.range h).map fun r => bitAt x w c r) := by
  rw [page_each]
  exact columnCounts_each w h _
theorem countsOf_length (w h : Nat) (g : Nat → Nat → Bool) : (countsOf w h g).length = h := by
  unfold countsOf
  rw [List.length_map, List.length_range]
theorem countsOf_le {w h : Nat} {g : Nat → Nat → Bool} {n : Nat} (hn : n ∈ countsOf w h g) : n ≤ w := by
  unfold countsOf at hn
  obtain ⟨r, _, rfl⟩ := List.mem_map.mp hn
  have := cnt_le ((List.range w).map fun c => g c r)
  rw [List.length_map, List.length_range] at this
  exact this
/-! ### sharpness -/
def sq (a b : Nat) : Nat := (max a b - min a b) * (max a b - min a b)
theorem sq_int (a b : Nat) : ((sq a b : Nat) : Int) = ((b : Int) - (a : Int)) * ((b : Int) - (a : Int)) := by
  unfold sq
  by_cases h : a ≤ b
  · rw [Nat.max_eq_right h, Nat.min_eq_left h, Int.natCast_mul, Int.natCast_sub h]
  · have h : b ≤ a := by omega
    rw [Nat.max_eq_left h, Nat.min_eq_right h, Int.natCast_mul, Int.natCast_sub h]
    have e : ((b : Int) - (a : Int)) = -((a : Int) - (b : Int)) := by omega
    rw [e, Int.neg_mul_neg]
theorem sq_comm (a b : Nat) : sq a b = sq b a := by
  unfold sq
  rw [Nat.max_comm, Nat.min_comm]
theorem sharp_nil : sharp [] = 0 := rfl
theorem sharp_one (a : Nat) : sharp [a] = 0 := rfl
theorem sharp_cons (a b : Nat) (l : List Nat) : sharp (a :: b :: l) = sq a b + sharp (b :: l) := by
  unfold sharp sq
  simp [List.sum_cons]
/-- one more at the end -/
theorem sharp_snoc : ∀ (l : List Nat) (a b : Nat), sharp (l ++ [a, b]) = sharp (l ++ [a]) + sq a b
  | [], a, b => by
    show sharp [a, b] = sharp [a] + sq a b
    rw [sharp_cons, sharp_one, sharp_one, Nat.zero_add, Nat.add_zero]
  | [c], a, b => by
    show sharp [c, a, b] = sharp [c, a] + sq a b
    rw [sharp_cons, sharp_cons, sharp_cons, sharp_one, sharp_one]
    omega
  | c :: d :: l, a, b => by
    have ih := sharp_snoc (d :: l) a b
    show sharp (c :: d :: (l ++ [a, b])) = sharp (c :: d :: (l ++ [a])) + sq a b
    rw [sharp_cons, sharp_cons, show d :: (l ++ [a, b]) = (d :: l) ++ [a, b] from rfl, ih]
    show sq c d + (sharp (d :: (l ++ [a])) + sq a b) = _
    omega
theorem take_succ_of {α : Type} {l : List α} {i : Nat} {x : α} (h : l[i]? = some x) : l.take (i + 1) = l.take i ++ [x] := by
  rw [List.take_add_one, h]
  rfl
/-- how sharp the first i + 2 are -/
theorem sharp_take {l : List Nat} {i a b : Nat} (ha : l[i]? = some a) (hb : l[i + 1]? = some b) : sharp (l.take (i + 2)) = sharp (l.take (i + 1)) + sq a b := by
  rw [take_succ_of hb, take_succ_of ha, List.append_assoc]
  exact sharp_snoc _ _ _
theorem sharp_take_one (l : List Nat) : sharp (l.take 1) = 0 := by
  cases l with
  | nil => rfl
  | cons a l => rfl
theorem sharp_take_zero (l : List Nat) : sharp (l.take 0) = 0 := rfl
theorem sq_le {a b m : Nat} (ha : a ≤ m) (hb : b ≤ m) : sq a b ≤ m * m := by
  unfold sq
  exact Nat.mul_le_mul (by omega) (by omega)
theorem sharp_le {m : Nat} : ∀ (l : List Nat), (∀ n ∈ l, n ≤ m) → sharp l ≤ l.length * (m * m)
  | [], _ => Nat.zero_le _
  | [a], _ => Nat.zero_le _
  | a :: b :: l, h => by
    have ih := sharp_le (b :: l) fun n hn => h n (List.mem_cons_of_mem _ hn)
    have q := sq_le (h a (by simp)) (h b (by simp))
    rw [sharp_cons, List.length_cons, Nat.succ_mul]
    omega
/-! ### the straightest -/
theorem nearer_iff (a b : Int) : nearer a b = true ↔ a.natAbs < b.natAbs ∨ (a.natAbs = b.natAbs ∧ a < b) := by
  unfold nearer
  simp
theorem nearer_irrefl (a : Int) : nearer a a = false := by
  cases h : nearer a a with
  | false => rfl
  | true =>
    have := (nearer_iff a a).mp h
    omega
theorem nearer_total {a b : Int} (h : a ≠ b) : nearer a b = true ∨ nearer b a = true := by
  rw [nearer_iff, nearer_iff]
  omega
/-- (k, s) goes ahead of b -/
def ahead (b : Int × Nat) (k : Int) (s : Nat) : Prop := b.2 < s ∨ (b.2 = s ∧ nearer k b.1 = true)
instance (b : Int × Nat) (k : Int) (s : Nat) : Decidable (ahead b k s) := by
  unfold ahead
  exact inferInstance
/-- the best of a list of shears, S telling how sharp each is -/
def bestOf (S : Int → Nat) (l : List Int) (b : Int × Nat) : Int × Nat := l.foldl (fun b k => if ahead b k (S k) then (k, S k) else b) b
structure Best (S : Int → Nat) (p : Int → Prop) (b : Int × Nat) : Prop where
  mem : p b.1
  val : b.2 = S b.1
  top : ∀ k, p k → ¬ ahead b k (S k)
theorem Best.unique {S : Int → Nat} {p : Int → Prop} {a b : Int × Nat} (A : Best S p a) (B : Best S p b) : a = b := by
  have h1 := A.top b.1 B.mem
  have h2 := B.top a.1 A.mem
  unfold ahead at h1 h2
  rw [← B.val] at h1
  rw [← A.val] at h2
  have e2 : a.2 = b.2 := by omega
  have e1 : a.1 = b.1 := Decidable.byContradiction fun z => by
    rcases nearer_total z with q | q
    · exact h2 (.inr ⟨e2.symm, q⟩)
    · exact h1 (.inr ⟨e2, q⟩)
  exact Prod.ext e1 e2
theorem ahead_trans {S : Int → Nat} {b : Int × Nat} {j k : Int} (h1 : ahead b j (S j)) (h2 : ahead (j, S j) k (S k)) : ahead b k (S k) := by
  unfold ahead at *
  rcases h1 with h1 | ⟨h1, h3⟩ <;> rcases h2 with h2 | ⟨h2, h4⟩
  · exact .inl (Nat.lt_trans h1 h2)
  · exact .inl (by
      have : S j = S k := h2
      omega)
  · exact .inl (by
      have : S j < S k := h2
      omega)
  · refine .inr ⟨h1.trans h2, ?_⟩
    rw [nearer_iff] at *
    have h4 : k.natAbs < j.natAbs ∨ k.natAbs = j.natAbs ∧ k < j := h4
    omega
theorem Best.one {S : Int → Nat} (k : Int) : Best S (fun j => j = k) (k, S k) := ⟨rfl, rfl, fun j e => by
  subst e
  unfold ahead
  rw [nearer_irrefl]
  simp⟩
theorem Best.step {S : Int → Nat} {p : Int → Prop} {b : Int × Nat} (B : Best S p b) (k : Int) : Best S (fun j => p j ∨ j = k) (if ahead b k (S k) then (k, S k) else b) := by
  by_cases h : ahead b k (S k)
  · rw [if_pos h]
    refine ⟨.inr rfl, rfl, fun j hj z => ?_⟩
    rcases hj with hj | rfl
    · exact B.top j hj (ahead_trans h z)
    · unfold ahead at z
      rw [nearer_irrefl] at z
      simp at z
  · rw [if_neg h]
    refine ⟨.inl B.mem, B.val, fun j hj => ?_⟩
    rcases hj with hj | rfl
    · exact B.top j hj
    · exact h
theorem Best.congr {S : Int → Nat} {p q : Int → Prop} {b : Int × Nat} (B : Best S p b) (h : ∀ k, p k ↔ q k) : Best S q b := ⟨(h _).mp B.mem, B.val, fun k hk => B.top k ((h k).mpr hk)⟩
theorem Best.run {S : Int → Nat} : ∀ (l : List Int) {p : Int → Prop} {b : Int × Nat}, Best S p b → Best S (fun k => p k ∨ k ∈ l) (bestOf S l b)
  | [], p, b, B => B.congr fun k => by simp
  | j :: l, p, b, B => by
    refine (Best.run l (B.step j)).congr fun k => ?_
    simp only [List.mem_cons]
    constructor
    · rintro ((h | h) | h)
      · exact .inl h
      · exact .inr (.inl h)
      · exact .inr (.inr h)
    · rintro (h | h | h)
      · exact .inl (.inl h)
      · exact .inl (.inr h)
      · exact .inr h
/-- how sharp the counts of a shear by k are -/
def sharpBy (w h d : Nat) (x : List Nat) (k : Int) : Nat := sharp (countsOf w h (shearG x k d w h))
theorem shift_zero {w d c : Nat} (hd : 1 ≤ d) : shift w 0 d c = 0 := by
  unfold shift
  rw [Int.zero_mul, Int.zero_add, Int.fdiv_eq_ediv_of_nonneg _ (by omega)]
  exact Int.ediv_eq_zero_of_lt (by omega) (by omega)
theorem shearG_zero {x : List Nat} {d w h c r : Nat} (hd : 1 ≤ d) (hc : c < w) (hr : r < h) : shearG x 0 d w h c r = bitAt x w c r := by
  unfold shearG
  rw [shift_zero hd, Int.sub_zero, at_in hc hr]
theorem sharpBy_zero {w h d : Nat} {x : List Nat} (hd : 1 ≤ d) : sharpBy w h d x 0 = sharp (rowCounts w h (page w h x)) := by
  unfold sharpBy
  rw [rowCounts_page]
  congr 1
  unfold countsOf
  refine List.map_congr_left fun r hr => ?_
  have hr : r < h := List.mem_range.mp hr
  congr 1
  refine List.map_congr_left fun c hc => ?_
  have hc : c < w := List.mem_range.mp hc
  exact shearG_zero hd hc hr
theorem straightest_best {w h m d : Nat} {x : List Nat} (hd : 1 ≤ d) : Best (sharpBy w h d x) (fun k => k.natAbs ≤ m) (straightest w h m d (page w h x)) := by
  have e : straightest w h m d (page w h x) = bestOf (sharpBy w h d x) ((List.range (2 * m + 1)).map fun (j : Nat) => (j : Int) - (m : Int)) (0, sharpBy w h d x 0) := by
    unfold straightest bestOf
    rw [List.foldl_map, sharpBy_zero hd]
    congr 1
    funext b j
    dsimp only
    rw [shearCounts_at]
    rfl
  rw [e]
  refine (Best.run _ (Best.one 0)).congr fun k => ?_
  rw [List.mem_map]
  constructor
  · rintro (h | ⟨j, hj, rfl⟩)
    · rw [h]
      exact Nat.zero_le _
    · have := List.mem_range.mp hj
      omega
  · intro h
    exact .inr ⟨(k + (m : Int)).toNat, List.mem_range.mpr (by omega), by omega⟩
/-! ### gaps -/
def gapStep (most : Nat) (g : List (Nat × Nat)) (a : Nat × Nat) : List (Nat × Nat) := if most < a.1 then g else match g with
  | [] => [(a.2, 1)]
  | p :: q => if p.1 + p.2 = a.2 then (p.1, p.2 + 1) :: q else (a.2, 1) :: g
/-- the gaps among the first i, the last first -/
def gapsTo (most : Nat) (l : List Nat) (i : Nat) : List (Nat × Nat) := (l.zipIdx.take i).foldl (gapStep most) []
theorem gaps_eq (most : Nat) (l : List Nat) : gaps most l = (gapsTo most l l.length).reverse := by
  unfold gapsTo
  rw [List.take_of_length_le (by rw [List.length_zipIdx]; exact Nat.le_refl _)]
  rfl
theorem gapsTo_zero (most : Nat) (l : List Nat) : gapsTo most l 0 = [] := rfl
theorem gapsTo_succ {most : Nat} {l : List Nat} {i a : Nat} (h : l[i]? = some a) : gapsTo most l (i + 1) = gapStep most (gapsTo most l i) (a, i) := by
  unfold gapsTo
  have e : l.zipIdx[i]? = some (a, i) := by
    rw [List.getElem?_zipIdx, h]
    simp
  rw [take_succ_of e, List.foldl_append]
  rfl
theorem gapsTo_above {most : Nat} {l : List Nat} {i a : Nat} (h : l[i]? = some a) (q : most < a) : gapsTo most l (i + 1) = gapsTo most l i := by
  rw [gapsTo_succ h]
  unfold gapStep
  rw [if_pos q]
/-- the last gap ends at i just where the number ahead of i isn't above most -/
def Open (most : Nat) (l : List Nat) (i : Nat) : Prop := ∃ a, 0 < i ∧ l[i - 1]? = some a ∧ a ≤ most
theorem gapsTo_ends {most : Nat} {l : List Nat} : ∀ {i : Nat}, i ≤ l.length → (∀ p ∈ gapsTo most l i, 1 ≤ p.2 ∧ p.1 + p.2 ≤ i) ∧ (Open most l i → ∃ s n q, gapsTo most l i = (s, n) :: q ∧ s + n = i) ∧ (¬ Open most l i → ∀ p ∈ gapsTo most l i, p.1 + p.2 < i ∨ i = 0)
  | 0, _ => ⟨fun p hp => by simp [gapsTo_zero] at hp, fun ⟨a, h, _⟩ => absurd h (by omega), fun _ p hp => by simp [gapsTo_zero] at hp⟩
  | i + 1, hi => by
    have ih := gapsTo_ends (most := most) (l := l) (i := i) (by omega)
    obtain ⟨a, ha⟩ : ∃ a, l[i]? = some a := ⟨_, List.getElem?_eq_getElem (by omega)⟩
    have op : Open most l (i + 1) ↔ a ≤ most := by
      unfold Open
      constructor
      · rintro ⟨b, _, hb, h⟩
        have e : b = a := Option.some.inj (hb.symm.trans ha)
        rw [← e]
        exact h
      · exact fun h => ⟨a, by omega, ha, h⟩
    by_cases q : most < a
    · rw [gapsTo_above ha q]
      refine ⟨fun p hp => ⟨(ih.1 p hp).1, Nat.le_succ_of_le (ih.1 p hp).2⟩, fun z => absurd (op.mp z) (by omega), fun _ p hp => .inl (Nat.lt_succ_of_le (ih.1 p hp).2)⟩
    · rw [gapsTo_succ ha]
      unfold gapStep
      rw [if_neg q]
      have hop : Open most l (i + 1) := op.mpr (by omega)
      cases e : gapsTo most l i with
      | nil =>
        refine ⟨fun p hp => ?_, fun _ => ⟨i, 1, [], rfl, rfl⟩, fun z => absurd hop z⟩
        have hp : p = (i, 1) := by simpa using hp
        subst hp
        exact ⟨Nat.le_refl _, Nat.le_refl _⟩
      | cons p q2 =>
        rw [e] at ih
        dsimp only
        by_cases z : p.1 + p.2 = i
        · rw [if_pos z]
          refine ⟨fun r hr => ?_, fun _ => ⟨p.1, p.2 + 1, q2, rfl, by omega⟩, fun z => absurd hop z⟩
          rcases List.mem_cons.mp hr with rfl | hr
          · exact ⟨by show 1 ≤ p.2 + 1; omega, by show p.1 + (p.2 + 1) ≤ i + 1; omega⟩
          · have := ih.1 r (List.mem_cons_of_mem _ hr)
            exact ⟨this.1, by omega⟩
        · rw [if_neg z]
          refine ⟨fun r hr => ?_, fun _ => ⟨i, 1, _, rfl, rfl⟩, fun z => absurd hop z⟩
          rcases List.mem_cons.mp hr with rfl | hr
          · exact ⟨Nat.le_refl _, Nat.le_refl _⟩
          · have := ih.1 r hr
            exact ⟨this.1, by omega⟩
/-- a gap begins at i -/
theorem gapsTo_new {most : Nat} {l : List Nat} {i a : Nat} (h : l[i]? = some a) (q : a ≤ most) (n : ¬ Open most l i) : gapsTo most l (i + 1) = (i, 1) :: gapsTo most l i := by
  have hi : i < l.length := (List.getElem?_eq_some_iff.mp h).1
  have E := (gapsTo_ends (most := most) (l := l) (i := i) (by omega))
  rw [gapsTo_succ h]
  unfold gapStep
  rw [if_neg (by show ¬ most < a; omega)]
  cases e : gapsTo most l i with
  | nil => rfl
  | cons p r =>
    dsimp only
    have h1 := E.1 p (by rw [e]; simp)
    have h2 := E.2.2 n p (by rw [e]; simp)
    rw [if_neg (by omega)]
/-- the open gap goes on -/
theorem gapsTo_on {most : Nat} {l : List Nat} {i a s n : Nat} {r : List (Nat × Nat)} (h : l[i]? = some a) (q : a ≤ most) (e : gapsTo most l i = (s, n) :: r) (z : s + n = i) : gapsTo most l (i + 1) = (s, n + 1) :: r := by
  rw [gapsTo_succ h, e]
  unfold gapStep
  rw [if_neg (by show ¬ most < a; omega)]
  dsimp only
  rw [if_pos z]
theorem gapsTo_length_le {most : Nat} {l : List Nat} : ∀ {i : Nat}, i ≤ l.length → (gapsTo most l i).length ≤ i
  | 0, _ => Nat.le_refl _
  | i + 1, hi => by
    have ih := gapsTo_length_le (most := most) (l := l) (i := i) (by omega)
    obtain ⟨a, ha⟩ : ∃ a, l[i]? = some a := ⟨_, List.getElem?_eq_getElem (by omega)⟩
    rw [gapsTo_succ ha]
    unfold gapStep
    split
    · omega
    · split
      · exact Nat.succ_le_succ (Nat.zero_le _)
      · rename_i p q e
        rw [e, List.length_cons] at ih
        split
        · rw [List.length_cons]
          omega
        · rw [e, List.length_cons, List.length_cons]
          omega
/-! ### bands -/
def piece (b e : Nat) : List (Nat × Nat) := if b < e then [(b, e - b)] else []
def bandsFrom (n : Nat) : Nat → List (Nat × Nat) → List (Nat × Nat)
  | b, [] => piece b n
  | b, g :: r => piece b g.1 ++ bandsFrom n (g.1 + g.2) r
theorem bandsFrom_eq (n : Nat) : ∀ (cuts : List (Nat × Nat)) (b : Nat), ((((b :: cuts.map fun g => g.1 + g.2).zip ((cuts.map fun g => g.1) ++ [n])).filter fun p => decide (p.1 < p.2)).map fun p => (p.1, p.2 - p.1)) = bandsFrom n b cuts
  | [], b => by
    show (([(b, n)].filter fun p => decide (p.1 < p.2)).map fun p => (p.1, p.2 - p.1)) = piece b n
    unfold piece
    by_cases h : b < n <;> simp [h]
  | g :: r, b => by
    have ih := bandsFrom_eq n r (g.1 + g.2)
    show ((((b, g.1) :: ((g.1 + g.2) :: r.map fun g => g.1 + g.2).zip ((r.map fun g => g.1) ++ [n])).filter fun p => decide (p.1 < p.2)).map fun p => (p.1, p.2 - p.1)) = piece b g.1 ++ bandsFrom n (g.1 + g.2) r
    rw [← ih, List.filter_cons]
    unfold piece
    by_cases h : b < g.1
    · simp [h]
    · simp [h]
theorem bands_eq (most least : Nat) (l : List Nat) : bands most least l = bandsFrom l.length 0 ((gaps most l).filter fun g => decide (least ≤ g.2)) := by
  unfold bands
  exact bandsFrom_eq l.length _ 0
/-! ### margins -/
theorem margin_is {most : Nat} : ∀ {l : List Nat} {j : Nat}, j ≤ l.length → (∀ i a, i < j → l[i]? = some a → a ≤ most) → (∀ a, l[j]? = some a → most < a) → margin most l = j
  | [], j, h, _, _ => by
    have e : j = 0 := by simpa using h
    rw [e]
    rfl
  | b :: l, 0, _, _, h2 => by
    have := h2 b rfl
    unfold margin
    rw [List.takeWhile_cons, if_neg (by simp; omega)]
    rfl
  | b :: l, j + 1, h, h1, h2 => by
    have hb := h1 0 b (by omega) rfl
    have ih := margin_is (most := most) (l := l) (j := j) (by simpa using h) (fun i a hi ha => h1 (i + 1) a (by omega) ha) (fun a ha => h2 a ha)
    unfold margin at *
    rw [List.takeWhile_cons, if_pos (by simp; omega), List.length_cons, ih]
theorem margin_all {most : Nat} {l : List Nat} (h : ∀ a ∈ l, a ≤ most) : margin most l = l.length :=
  margin_is (Nat.le_refl _) (fun i a _ ha => h a (List.mem_of_getElem? ha)) fun a ha => by
    rw [List.getElem?_eq_none (Nat.le_refl _)] at ha
    cases ha
end Pg
/-! Columns of dots, and what a shear makes of them. Plain Lean alone. -/
namespace Pg
open Sh57
theorem range_snoc {α : Type} (f : Nat → α) (n : Nat) : (List.range (n + 1)).map f = (List.range n).map f ++ [f n] := by
  rw [List.range_succ, List.map_append]
  rfl
/-- the rows of the dots of column c -/
def dotsIn (x : List Nat) (w h c : Nat) : List Nat := (List.range h).filter fun r => at_ x w h (c : Int) (r : Int)
def colsOf (x : List Nat) (w h : Nat) : List (List Nat) := (List.range w).map (dotsIn x w h)
theorem colsOf_length (x : List Nat) (w h : Nat) : (colsOf x w h).length = w := by
  unfold colsOf
  rw [List.length_map, List.length_range]
theorem filter_range_succ (p : Nat → Bool) (n : Nat) : (List.range (n + 1)).filter p = (List.range n).filter p ++ (if p n = true then [n] else []) := by
  rw [List.range_succ, List.filter_append]
  congr 1
  by_cases h : p n = true
  · rw [if_pos h, List.filter_cons, if_pos h]
    rfl
  · rw [if_neg h, List.filter_cons, if_neg h]
    rfl
theorem filter_range_len (p : Nat → Bool) (n : Nat) : ((List.range n).filter p).length ≤ n := by
  have := List.length_filter_le p (List.range n)
  rw [List.length_range] at this
  exact this
/-- how many of l are moved by s to row j -/
def hits (s : Int) (l : List Nat) (j : Nat) : Nat := l.countP fun (r : Nat) => decide ((r : Int) + s = (j : Int))
theorem hits_nil (s : Int) (j : Nat) : hits s [] j = 0 := rfl
theorem hits_snoc (s : Int) (l : List Nat) (r j : Nat) : hits s (l ++ [r]) j = hits s l j + (if (r : Int) + s = (j : Int) then 1 else 0) := by
  unfold hits
  rw [List.countP_append, List.countP_singleton]
  by_cases h : (r : Int) + s = (j : Int) <;> simp [h]
theorem hits_le (s : Int) (l : List Nat) (j : Nat) : hits s l j ≤ l.length := List.countP_le_length
/-- .. of the first n columns -/
def tally (S : Nat → Int) (cs : List (List Nat)) (n j : Nat) : Nat := ((List.range n).map fun c => hits (S c) (cs.getD c []) j).sum
theorem tally_zero (S : Nat → Int) (cs : List (List Nat)) (j : Nat) : tally S cs 0 j = 0 := rfl
theorem tally_succ (S : Nat → Int) (cs : List (List Nat)) (n j : Nat) : tally S cs (n + 1) j = tally S cs n j + hits (S n) (cs.getD n []) j := by
  unfold tally
  rw [range_snoc, List.sum_append, List.sum_cons, List.sum_nil, Nat.add_zero]
theorem countP_one (p : Nat → Bool) (z : Int) : ∀ n : Nat, ((List.range n).filter p).countP (fun (r : Nat) => decide ((r : Int) = z)) = if 0 ≤ z ∧ z < (n : Int) ∧ p z.toNat = true then 1 else 0
  | 0 => by
    rw [if_neg (by omega)]
    rfl
  | n + 1 => by
    rw [filter_range_succ, List.countP_append, countP_one p z n]
    by_cases e : (n : Int) = z
    · have e2 : z.toNat = n := by omega
      rw [if_neg (by omega), e2]
      by_cases q : p n = true
      · rw [if_pos q, if_pos ⟨by omega, by omega, q⟩, List.countP_singleton]
        simp [e]
      · rw [if_neg q, if_neg (by intro z; exact q z.2.2)]
        rfl
    · have e3 : (if p n = true then [n] else []).countP (fun (r : Nat) => decide ((r : Int) = z)) = 0 := by
        split
        · rw [List.countP_singleton]
          simp [e]
        · rfl
      rw [e3, Nat.add_zero]
      by_cases q : 0 ≤ z ∧ z < (n : Int) ∧ p z.toNat = true
      · rw [if_pos q, if_pos ⟨q.1, by omega, q.2.2⟩]
      · rw [if_neg q, if_neg (by intro y; exact q ⟨y.1, by omega, y.2.2⟩)]
theorem hits_dots (x : List Nat) (w h c : Nat) (s : Int) (j : Nat) : hits s (dotsIn x w h c) j = if at_ x w h (c : Int) ((j : Int) - s) = true then 1 else 0 := by
  unfold hits dotsIn
  have e : (fun r : Nat => decide ((r : Int) + s = (j : Int))) = fun r : Nat => decide ((r : Int) = (j : Int) - s) := by
    funext r
    exact decide_eq_decide.mpr ⟨fun z => by omega, fun z => by omega⟩
  rw [e, countP_one]
  by_cases q : 0 ≤ (j : Int) - s ∧ (j : Int) - s < (h : Int)
  · have e2 : (((j : Int) - s).toNat : Int) = (j : Int) - s := by omega
    rw [e2]
    by_cases p : at_ x w h (c : Int) ((j : Int) - s) = true
    · rw [if_pos p, if_pos ⟨q.1, q.2, p⟩]
    · rw [if_neg p, if_neg (fun z => p z.2.2)]
  · rw [if_neg (fun z => q ⟨z.1, z.2.1⟩), at_out (by omega), if_neg (by simp)]
theorem tally_cols (x : List Nat) (w h : Nat) (S : Nat → Int) (j : Nat) : ∀ n, n ≤ w → tally S (colsOf x w h) n j = cnt ((List.range n).map fun (c : Nat) => at_ x w h (c : Int) ((j : Int) - S c))
  | 0, _ => rfl
  | n + 1, hn => by
    rw [tally_succ, tally_cols x w h S j n (by omega), cnt_range_succ]
    congr 1
    have e : (colsOf x w h).getD n [] = dotsIn x w h n := by
      unfold colsOf
      rw [List.getD_eq_getElem?_getD, List.getElem?_map, List.getElem?_range (by omega)]
      rfl
    rw [e, hits_dots]
theorem tally_shear (x : List Nat) (k : Int) (d w h : Nat) : ((List.range h).map fun (j : Nat) => tally (fun c => shift w k d c) (colsOf x w h) w j) = countsOf w h (shearG x k d w h) := by
  unfold countsOf
  refine List.map_congr_left fun j _ => ?_
  rw [tally_cols x w h _ j w (Nat.le_refl _)]
  rfl
theorem set_range_map {α : Type} {h j : Nat} (f : Nat → α) (v : α) : ((List.range h).map f).set j v = (List.range h).map fun i => if i = j then v else f i := by
  apply List.ext_getElem?
  intro i
  rw [List.getElem?_set, List.length_map, List.length_range, List.getElem?_map, List.getElem?_map]
  by_cases e : j = i
  · subst e
    rw [if_pos rfl]
    by_cases q : j < h
    · rw [if_pos q, List.getElem?_range q]
      simp
    · rw [if_neg q, List.getElem?_eq_none (by rw [List.length_range]; omega)]
      rfl
  · rw [if_neg e]
    by_cases q : i < h
    · rw [List.getElem?_range q]
      show some (f i) = some (if i = j then v else f i)
      rw [if_neg (fun z => e z.symm)]
    · rw [List.getElem?_eq_none (by rw [List.length_range]; omega)]
      rfl
end Pg
/-! Runs of places at which something holds; gaps and bands as such runs. Plain Lean alone. -/
namespace Pg
open Sh57
/-- what is told already, and how long the open run is -/
def runStep (i : Nat) (b : Bool) (s : List (Nat × Nat) × Nat) : List (Nat × Nat) × Nat := if b = true then (s.1, s.2 + 1) else if 0 < s.2 then (s.1 ++ [(i - s.2, s.2)], 0) else s
def runsAt (f : Nat → Bool) : Nat → List (Nat × Nat) × Nat
  | 0 => ([], 0)
  | i + 1 => runStep i (f i) (runsAt f i)
def runsEnd (n : Nat) (s : List (Nat × Nat) × Nat) : List (Nat × Nat) := if 0 < s.2 then s.1 ++ [(n - s.2, s.2)] else s.1
def runsOf (f : Nat → Bool) (n : Nat) : List (Nat × Nat) := runsEnd n (runsAt f n)
theorem runStep_true (i : Nat) (s : List (Nat × Nat) × Nat) : runStep i true s = (s.1, s.2 + 1) := rfl
theorem runStep_cut {i : Nat} {s : List (Nat × Nat) × Nat} (h : 0 < s.2) : runStep i false s = (s.1 ++ [(i - s.2, s.2)], 0) := by
  unfold runStep
  rw [if_neg (by simp), if_pos h]
theorem runStep_none {i : Nat} {s : List (Nat × Nat) × Nat} (h : ¬ 0 < s.2) : runStep i false s = s := by
  unfold runStep
  rw [if_neg (by simp), if_neg h]
theorem runStep_false (i : Nat) (s : List (Nat × Nat) × Nat) : runStep i false s = (runsEnd i s, 0) := by
  unfold runsEnd
  by_cases h : 0 < s.2
  · rw [runStep_cut h, if_pos h]
  · rw [runStep_none h, if_neg h]
    exact Prod.ext rfl (by show s.2 = 0; omega)
theorem runsAt_succ (f : Nat → Bool) (i : Nat) : runsAt f (i + 1) = runStep i (f i) (runsAt f i) := rfl
theorem runsAt_congr {f g : Nat → Bool} : ∀ {n : Nat}, (∀ i, i < n → f i = g i) → runsAt f n = runsAt g n
  | 0, _ => rfl
  | n + 1, h => by
    rw [runsAt_succ, runsAt_succ, runsAt_congr (n := n) fun i hi => h i (by omega), h n (by omega)]
theorem runsOf_congr {f g : Nat → Bool} {n : Nat} (h : ∀ i, i < n → f i = g i) : runsOf f n = runsOf g n := by
  unfold runsOf
  rw [runsAt_congr h]
/-- one behind the other from b on, none of them empty -/
def Asc : Nat → List (Nat × Nat) → Prop
  | _, [] => True
  | b, g :: r => b ≤ g.1 ∧ 1 ≤ g.2 ∧ Asc (g.1 + g.2) r
theorem Asc.mono : ∀ {l : List (Nat × Nat)} {b c : Nat}, Asc b l → c ≤ b → Asc c l
  | [], _, _, _, _ => trivial
  | _ :: _, _, _, h, hc => ⟨Nat.le_trans hc h.1, h.2.1, h.2.2⟩
theorem Asc.snoc {s n : Nat} (hn : 1 ≤ n) : ∀ {l : List (Nat × Nat)} {b : Nat}, Asc b l → (∀ g ∈ l, g.1 + g.2 ≤ s) → b ≤ s → Asc b (l ++ [(s, n)])
  | [], _, _, _, hb => ⟨hb, hn, trivial⟩
  | g :: _, _, h, hl, _ => ⟨h.1, h.2.1, Asc.snoc hn h.2.2 (fun x hx => hl x (List.mem_cons_of_mem _ hx)) (hl g (by simp))⟩
theorem Asc.filter (p : Nat × Nat → Bool) : ∀ {l : List (Nat × Nat)} {b : Nat}, Asc b l → Asc b (l.filter p)
  | [], _, _ => trivial
  | g :: r, b, h => by
    have ih := Asc.filter p h.2.2
    rw [List.filter_cons]
    split
    · exact ⟨h.1, h.2.1, ih⟩
    · exact ih.mono (by have := h.1; omega)
theorem Asc.ge : ∀ {l : List (Nat × Nat)} {b : Nat}, Asc b l → ∀ g ∈ l, b ≤ g.1
  | [], _, _, _, hg => by cases hg
  | x :: r, b, h, g, hg => by
    rcases List.mem_cons.mp hg with e | hm
    · rw [e]
      exact h.1
    · have := Asc.ge h.2.2 g hm
      have := h.1
      omega
theorem runsAt_good (f : Nat → Bool) : ∀ i, Asc 0 (runsAt f i).1 ∧ (∀ g ∈ (runsAt f i).1, g.1 + g.2 + (runsAt f i).2 ≤ i) ∧ (runsAt f i).2 ≤ i ∧ (runsAt f i).1.length ≤ i
  | 0 => ⟨trivial, (fun g hg => by cases hg), Nat.le_refl _, Nat.le_refl _⟩
  | i + 1 => by
    obtain ⟨h1, h2, h3, h4⟩ := runsAt_good f i
    rw [runsAt_succ]
    generalize runsAt f i = s at *
    cases f i with
    | true =>
      rw [runStep_true]
      exact ⟨h1, fun g hg => by have := h2 g hg; show g.1 + g.2 + (s.2 + 1) ≤ i + 1; omega, by show s.2 + 1 ≤ i + 1; omega, by show s.1.length ≤ i + 1; omega⟩
    | false =>
      by_cases h : 0 < s.2
      · rw [runStep_cut h]
        refine ⟨h1.snoc h (fun g hg => by have := h2 g hg; omega) (Nat.zero_le _), fun g hg => ?_, Nat.zero_le _, by show (s.1 ++ [_]).length ≤ i + 1; rw [List.length_append]; show s.1.length + 1 ≤ i + 1; omega⟩
        rcases List.mem_append.mp hg with hm | hm
        · have := h2 g hm
          show g.1 + g.2 + 0 ≤ i + 1
          omega
        · have e : g = (i - s.2, s.2) := by simpa using hm
          rw [e]
          show i - s.2 + s.2 + 0 ≤ i + 1
          omega
      · rw [runStep_none h]
        exact ⟨h1, fun g hg => by have := h2 g hg; omega, by omega, by omega⟩
theorem runsOf_good (f : Nat → Bool) (n : Nat) : Asc 0 (runsOf f n) ∧ (∀ g ∈ runsOf f n, g.1 + g.2 ≤ n) ∧ (runsOf f n).length ≤ n + 1 := by
  obtain ⟨h1, h2, h3, h4⟩ := runsAt_good f n
  unfold runsOf runsEnd
  generalize runsAt f n = s at *
  by_cases h : 0 < s.2
  · rw [if_pos h]
    refine ⟨h1.snoc h (fun g hg => by have := h2 g hg; omega) (Nat.zero_le _), fun g hg => ?_, by rw [List.length_append]; show s.1.length + 1 ≤ n + 1; omega⟩
    rcases List.mem_append.mp hg with hm | hm
    · have := h2 g hm
      omega
    · have e : g = (n - s.2, s.2) := by simpa using hm
      rw [e]
      show n - s.2 + s.2 ≤ n
      omega
  · rw [if_neg h]
    exact ⟨h1, fun g hg => by have := h2 g hg; omega, by omega⟩
/-! ### gaps -/
def lowAt (most : Nat) (l : List Nat) (i : Nat) : Bool := decide (l.getD i 0 ≤ most)
theorem gapsTo_runs (most : Nat) (l : List Nat) : ∀ i, i ≤ l.length → (gapsTo most l i).reverse = runsEnd i (runsAt (lowAt most l) i) ∧ (Open most l i ↔ 0 < (runsAt (lowAt most l) i).2)
  | 0, _ => ⟨rfl, ⟨fun ⟨_, h, _⟩ => absurd h (by omega), fun h => absurd h (by show ¬ 0 < 0; omega)⟩⟩
  | i + 1, hi => by
    obtain ⟨h1, h2⟩ := gapsTo_runs most l i (by omega)
    obtain ⟨-, -, h3, -⟩ := runsAt_good (lowAt most l) i
    have ha : l[i]? = some (l.getD i 0) := by
      rw [List.getD_eq_getElem?_getD, List.getElem?_eq_getElem (by omega)]
      rfl
    have op : Open most l (i + 1) ↔ l.getD i 0 ≤ most := by
      unfold Open
      constructor
      · rintro ⟨b, _, hb, h⟩
        have e : b = l.getD i 0 := Option.some.inj (hb.symm.trans ha)
        rw [← e]
        exact h
      · exact fun h => ⟨_, by omega, ha, h⟩
    rw [runsAt_succ, op]
    generalize es : runsAt (lowAt most l) i = s at *
    by_cases q : l.getD i 0 ≤ most
    · have e : lowAt most l i = true := decide_eq_true q
      rw [e, runStep_true]
      refine ⟨?_, ⟨fun _ => Nat.succ_pos _, fun _ => q⟩⟩
      unfold runsEnd at h1 ⊢
      rw [if_pos (Nat.succ_pos _)]
      by_cases z : 0 < s.2
      · obtain ⟨b, n, r, e1, e2⟩ := (gapsTo_ends (most := most) (l := l) (i := i) (by omega)).2.1 (h2.mpr z)
        rw [if_pos z, e1, List.reverse_cons] at h1
        obtain ⟨k1, k2⟩ := List.append_inj' h1 rfl
        have k3 : (b, n) = (i - s.2, s.2) := by simpa using k2
        have k4 : b = i - s.2 := congrArg Prod.fst k3
        have k5 : n = s.2 := congrArg Prod.snd k3
        rw [gapsTo_on ha q e1 e2, List.reverse_cons, k1, k4, k5]
        show s.1 ++ [(i - s.2, s.2 + 1)] = s.1 ++ [(i + 1 - (s.2 + 1), s.2 + 1)]
        rw [Nat.add_sub_add_right]
      · rw [if_neg z] at h1
        rw [gapsTo_new ha q (fun y => z (h2.mp y)), List.reverse_cons, h1]
        have e0 : s.2 = 0 := by omega
        rw [e0]
        rfl
    · have e : lowAt most l i = false := decide_eq_false q
      rw [e, runStep_false, gapsTo_above ha (by omega)]
      exact ⟨h1, ⟨fun y => absurd y q, fun y => absurd y (by show ¬ 0 < 0; omega)⟩⟩
theorem gaps_runs (most : Nat) (l : List Nat) : gaps most l = runsOf (lowAt most l) l.length := by
  rw [gaps_eq]
  exact (gapsTo_runs most l l.length (Nat.le_refl _)).1
theorem gaps_good (most : Nat) (l : List Nat) : Asc 0 (gaps most l) ∧ (∀ g ∈ gaps most l, g.1 + g.2 ≤ l.length) ∧ (gaps most l).length ≤ l.length + 1 := by
  rw [gaps_runs]
  exact runsOf_good _ _
/-! ### bands -/
def inOne (g : Nat × Nat) (i : Nat) : Bool := decide (g.1 ≤ i) && decide (i < g.1 + g.2)
theorem runs_true {f : Nat → Bool} {b : Nat} : ∀ {t : Nat}, (∀ i, b ≤ i → i < b + t → f i = true) → runsAt f (b + t) = ((runsAt f b).1, (runsAt f b).2 + t)
  | 0, _ => rfl
  | t + 1, h => by
    show runsAt f (b + t + 1) = _
    rw [runsAt_succ, runs_true (t := t) fun i h1 h2 => h i h1 (by omega), h (b + t) (by omega) (by omega)]
    rfl
theorem runs_false {f : Nat → Bool} {c : Nat} : ∀ {m : Nat}, (∀ i, c ≤ i → i < c + (m + 1) → f i = false) → runsAt f (c + (m + 1)) = (runsEnd c (runsAt f c), 0)
  | 0, h => by
    show runsAt f (c + 1) = _
    rw [runsAt_succ, h c (by omega) (by omega), runStep_false]
  | m + 1, h => by
    show runsAt f (c + (m + 1) + 1) = _
    rw [runsAt_succ, runs_false (m := m) fun i h1 h2 => h i h1 (by omega), h (c + (m + 1)) (by omega) (by omega)]
    exact runStep_none (by show ¬ 0 < 0; omega)
theorem piece_end (D : List (Nat × Nat)) {b e : Nat} : runsEnd e (D, e - b) = D ++ piece b e := by
  unfold runsEnd piece
  by_cases h : b < e
  · rw [if_pos (by show 0 < e - b; omega), if_pos h]
    show D ++ [(e - (e - b), e - b)] = _
    rw [show e - (e - b) = b by omega]
  · rw [if_neg (by show ¬ 0 < e - b; omega), if_neg h, List.append_nil]
theorem bands_walk {f : Nat → Bool} {n : Nat} : ∀ (cuts : List (Nat × Nat)) (b : Nat) (D : List (Nat × Nat)), Asc b cuts → (∀ g ∈ cuts, g.1 + g.2 ≤ n) → b ≤ n → runsAt f b = (D, 0) →
    (∀ i, b ≤ i → i < n → f i = !(cuts.any fun g => inOne g i)) → runsOf f n = D ++ bandsFrom n b cuts
  | [], b, D, _, _, hb, h0, hf => by
    have e : runsAt f n = (D, n - b) := by
      have := runs_true (f := f) (b := b) (t := n - b) fun i h1 h2 => by
        rw [hf i h1 (by omega)]
        rfl
      rw [show b + (n - b) = n by omega, h0] at this
      rw [this]
      exact Prod.ext rfl (Nat.zero_add _)
    unfold runsOf
    rw [e]
    exact piece_end D
  | g :: r, b, D, ha, he, hb, h0, hf => by
    have hg := he g (by simp)
    have a1 := ha.1
    have a2 := ha.2.1
    have e1 : runsAt f g.1 = (D, g.1 - b) := by
      have := runs_true (f := f) (b := b) (t := g.1 - b) fun i h1 h2 => by
        rw [hf i h1 (by omega)]
        have : ((g :: r).any fun g => inOne g i) = false := by
          rw [List.any_eq_false]
          intro x hx
          have hx1 : g.1 ≤ x.1 := by
            rcases List.mem_cons.mp hx with e | hm
            · rw [e]
              exact Nat.le_refl _
            · have := ha.2.2.ge x hm
              omega
          unfold inOne
          rw [decide_eq_false (by omega)]
          simp
        rw [this]
        rfl
      rw [show b + (g.1 - b) = g.1 by omega, h0] at this
      rw [this]
      exact Prod.ext rfl (Nat.zero_add _)
    have e2 : runsAt f (g.1 + g.2) = (D ++ piece b g.1, 0) := by
      have := runs_false (f := f) (c := g.1) (m := g.2 - 1) fun i h1 h2 => by
        rw [hf i (by omega) (by omega), List.any_cons]
        have : inOne g i = true := by
          unfold inOne
          rw [decide_eq_true (by omega), decide_eq_true (by omega)]
          rfl
        rw [this]
        rfl
      rw [show g.1 + (g.2 - 1 + 1) = g.1 + g.2 by omega, e1, piece_end] at this
      exact this
    have ih := bands_walk (f := f) (n := n) r (g.1 + g.2) (D ++ piece b g.1) ha.2.2 (fun x hx => he x (List.mem_cons_of_mem _ hx)) hg e2 fun i h1 h2 => by
      rw [hf i (by omega) h2, List.any_cons]
      have : inOne g i = false := by
        unfold inOne
        rw [decide_eq_false (p := i < g.1 + g.2) (by omega), Bool.and_false]
      rw [this, Bool.false_or]
    rw [ih, List.append_assoc]
    rfl
/-- a place that no gap of that length takes away -/
def leftAt (least : Nat) (gs : List (Nat × Nat)) (i : Nat) : Bool := !(gs.any fun g => decide (least ≤ g.2) && inOne g i)
theorem bands_runs (most least : Nat) (l : List Nat) : bands most least l = runsOf (leftAt least (gaps most l)) l.length := by
  obtain ⟨h1, h2, _⟩ := gaps_good most l
  rw [bands_eq]
  have := bands_walk (f := leftAt least (gaps most l)) (n := l.length) ((gaps most l).filter fun g => decide (least ≤ g.2)) 0 [] (h1.filter _) (fun g hg => h2 g (List.mem_filter.mp hg).1) (Nat.zero_le _) rfl fun i _ _ => by
    unfold leftAt
    rw [List.any_filter]
  rw [this]
  rfl
end Pg
namespace Pg
open PySem PySem.Spec PyProof.Rows L2
open PySem.W (Codec)
/-! ### the text by places -/
def top (i : Nat) : Stmt := PySem.Challenge.pw_pagestraight_s08_st_bands.main.body.getD i (.Pass ⟨0, 0, 0, 0⟩)
abbrev s_runs_of_true : Stmt := top 2
abbrev s_gaps_in : Stmt := top 3
abbrev s_bands_in : Stmt := top 4
abbrev s_tell_runs : Stmt := top 5
abbrev s_st_bands : Stmt := top 6
/-! ### small things -/
theorem same_upd {H : Hp} {p : Addr} {o : HO} (h : H p = none) : Same H (upd H p o) := fun b x e => by
  rw [upd_ne (ne_of_none e h)]
  exact e
def b2 (b : Bool) : Int := if b = true then 1 else 0
/-- natural numbers as values -/
def vN (l : List Nat) : List V := l.map fun (n : Nat) => V.int (n : Int)
def vB (l : List Bool) : List V := l.map fun b => V.int (b2 b)
def vI (l : List Int) : List V := l.map V.int
theorem vN_length (l : List Nat) : (vN l).length = l.length := by
  unfold vN
  rw [List.length_map]
theorem vB_length (l : List Bool) : (vB l).length = l.length := by
  unfold vB
  rw [List.length_map]
theorem vI_length (l : List Int) : (vI l).length = l.length := by
  unfold vI
  rw [List.length_map]
theorem small {n m : Nat} (h : n ≤ m) (hm : m < sizeLine) : n < sizeLine := Nat.lt_of_le_of_lt h hm
theorem line_big : 10000000 < sizeLine := by decide
/-- a number of the file's top -/
theorem pe_gi {X : Cx} {x : Str} {i : Int} {t : Tok} {pos : Pos} (hg : Gl X x) (hm : X.mg x = some (.int i t)) (hd : (x == ("__debug__" : Str)) = false := by decide) : PE X (.Name x pos) (tC (.int i)) := pe_glob (v := .int i) hg hm ⟨_, rfl⟩ hd
/-- within a comprehension: the written part is the def's own -/
theorem ix_listK {X : Cx} {K : PySem.W.Frag} (h : X.K = K) : IxR X (rIxL K) := by
  subst h
  exact ix_list
/-! ### what the top has written -/
structure Txt (K : PySem.W.Frag) (mg : Str → Option Value) where
  t_MOST_NUMBERS : Tok
  MOST_NUMBERS : mg "MOST_NUMBERS" = some (.int 4096 t_MOST_NUMBERS)
  f_runs_of_true : Addr
  fd_runs_of_true : FuncData
  F_runs_of_true : Fun K "runs_of_true" "runs_of_true" s_runs_of_true f_runs_of_true fd_runs_of_true
  b_runs_of_true : Binds K fd_runs_of_true ["marks"] []
  g_runs_of_true : mg "runs_of_true" = some (.ref f_runs_of_true)
  f_gaps_in : Addr
  fd_gaps_in : FuncData
  F_gaps_in : Fun K "gaps_in" "gaps_in" s_gaps_in f_gaps_in fd_gaps_in
  b_gaps_in : Binds K fd_gaps_in ["l", "most"] []
  g_gaps_in : mg "gaps_in" = some (.ref f_gaps_in)
  f_bands_in : Addr
  fd_bands_in : FuncData
  F_bands_in : Fun K "bands_in" "bands_in" s_bands_in f_bands_in fd_bands_in
  b_bands_in : Binds K fd_bands_in ["l", "most", "least"] []
  g_bands_in : mg "bands_in" = some (.ref f_bands_in)
  f_tell_runs : Addr
  fd_tell_runs : FuncData
  F_tell_runs : Fun K "tell_runs" "tell_runs" s_tell_runs f_tell_runs fd_tell_runs
  b_tell_runs : Binds K fd_tell_runs ["runs"] []
  g_tell_runs : mg "tell_runs" = some (.ref f_tell_runs)
  f_st_bands : Addr
  fd_st_bands : FuncData
  F_st_bands : Fun K "st_bands" "st_bands" s_st_bands f_st_bands fd_st_bands
  b_st_bands : Binds K fd_st_bands ["most", "least", "l"] []
  g_st_bands : mg "st_bands" = some (.ref f_st_bands)
  m_len : mg "len" = none
  m_range : mg "range" = none
section
variable {P : Program} {w : World} {K : PySem.W.Frag} {mg : Str → Option Value} {base : Heap}
/-! ### lists of numbers, changed -/
theorem rep_zero (n : Nat) : (List.replicate n [V.int 0]).flatten = vN (List.replicate n 0) := by
  induction n with
  | zero => rfl
  | succ n ih =>
    rw [List.replicate_succ, List.flatten_cons, ih]
    rfl
theorem vN_set (l : List Nat) (j n : Nat) : (vN l).set j (V.int (n : Int)) = vN (l.set j n) := by
  unfold vN
  rw [List.map_set]
theorem ixN_nat {n j : Nat} {z : Int} (e : z = (j : Int)) (h : j < n) : ixN n z = some j := by
  subst e
  unfold ixN
  simp [h]
/-! ### lists handed in -/
theorem map_range_succ {α : Type} (f : Nat → α) (n : Nat) : (List.range (n + 1)).map f = (List.range n).map f ++ [f n] := by
  rw [List.range_succ, List.map_append]
  rfl
theorem vI_nats {x : List Int} (h : ∀ z ∈ x, 0 ≤ z) : vI x = vN (natsOf x) := by
  unfold vI vN natsOf Sh57Neutral.nats
  rw [List.map_map]
  refine List.map_congr_left fun z hz => ?_
  have := h z hz
  show V.int z = V.int ((z.toNat : Nat) : Int)
  rw [Int.toNat_of_nonneg this]
theorem vI_ofNat (l : List Nat) : vI (l.map Int.ofNat) = vN l := by
  unfold vI vN
  rw [List.map_map]
  rfl
theorem vN_getD {l : List Nat} {i : Nat} (h : i < l.length) : (vN l)[i]? = some (V.int ((l.getD i 0 : Nat) : Int)) := by
  unfold vN
  rw [List.getElem?_map, List.getD_eq_getElem?_getD, List.getElem?_eq_getElem h]
  rfl
theorem vN_append (a b : List Nat) : vN (a ++ b) = vN a ++ vN b := by
  unfold vN
  rw [List.map_append]
/-! ### runs: a list of pairs -/
def Runs (H : Hp) (a : Addr) (rs : List (Nat × Nat)) : Prop := ∃ as : List Addr, H a = some (.lst (as.map V.ref)) ∧ as.length = rs.length ∧ ∀ i t, as[i]? = some t → H t = some (.tup [.int ((rs.getD i (0, 0)).1 : Int), .int ((rs.getD i (0, 0)).2 : Int)])
theorem Runs.same {H H' : Hp} {a : Addr} {rs : List (Nat × Nat)} (c : Runs H a rs) (s : Same H H') : Runs H' a rs := by
  obtain ⟨as, h1, h2, h3⟩ := c
  exact ⟨as, s _ _ h1, h2, fun i p e => s _ _ (h3 i p e)⟩
theorem Runs.nil {H : Hp} {a : Addr} : Runs (upd H a (.lst [])) a [] := ⟨[], upd_same, rfl, fun i t e => by simp at e⟩
theorem tup_ne {H : Hp} {a t : Addr} {xs ys : List V} (h : H a = some (.lst xs)) (q : H t = some (.tup ys)) : t ≠ a := fun e => by
  rw [e, h] at q
  cases q
theorem Runs.snoc {H : Hp} {a : Addr} {rs : List (Nat × Nat)} (c : Runs H a rs) : ∃ vs : List V, H a = some (.lst vs) ∧ vs.length = rs.length ∧
    ∀ (t : Addr) (s n : Nat), H t = none → Runs (upd (upd H t (.tup [.int (s : Int), .int (n : Int)])) a (.lst (vs ++ [.ref t]))) a (rs ++ [(s, n)]) := by
  obtain ⟨as, h1, h2, h3⟩ := c
  refine ⟨_, h1, by rw [List.length_map]; exact h2, fun t s n ht => ⟨as ++ [t], ?_, ?_, fun i u e => ?_⟩⟩
  · rw [upd_same, List.map_append]
    rfl
  · rw [List.length_append, List.length_append, h2]
    rfl
  · have nta : t ≠ a := (ne_of_none h1 ht).symm
    by_cases hi : i < as.length
    · rw [List.getElem?_append_left hi] at e
      have k := h3 i u e
      have ed : (rs ++ [(s, n)]).getD i (0, 0) = rs.getD i (0, 0) := by
        rw [List.getD_eq_getElem?_getD, List.getElem?_append_left (by omega), ← List.getD_eq_getElem?_getD]
      rw [upd_ne (tup_ne h1 k), upd_ne (ne_of_none k ht), ed]
      exact k
    · rw [List.getElem?_append_right (by omega)] at e
      have ei : i - as.length = 0 := by
        have := (List.getElem?_eq_some_iff.mp e).1
        simp at this
        omega
      rw [ei] at e
      have e : t = u := by simpa using e
      subst e
      have ed : (rs ++ [(s, n)]).getD i (0, 0) = (s, n) := by
        rw [List.getD_eq_getElem?_getD, List.getElem?_append_right (by omega), show i - rs.length = 0 by omega]
        rfl
      rw [upd_ne nta, upd_same, ed]
theorem Runs.len {H : Hp} {a : Addr} {rs : List (Nat × Nat)} (c : Runs H a rs) : ∃ vs : List V, H a = some (.lst vs) ∧ vs.length = rs.length := by
  obtain ⟨as, h1, h2, _⟩ := c
  exact ⟨_, h1, by rw [List.length_map]; exact h2⟩
/-- a list of marks -/
def vM (f : Nat → Bool) (n : Nat) : List V := (List.range n).map fun i => V.bl (f i)
theorem vM_length (f : Nat → Bool) (n : Nat) : (vM f n).length = n := by
  unfold vM
  rw [List.length_map, List.length_range]
theorem vM_get {f : Nat → Bool} {n i : Nat} (h : i < n) : (vM f n)[i]? = some (V.bl (f i)) := by
  unfold vM
  rw [List.getElem?_map, List.getElem?_range h]
  rfl
theorem vM_succ (f : Nat → Bool) (n : Nat) : vM f (n + 1) = vM f n ++ [V.bl (f n)] := map_range_succ _ _
/-! ### runs_of_true -/
def spRuns (K : PySem.W.Frag) : Sp := fun vs H Q _ => ∃ (a : Addr) (f : Nat → Bool) (n : Nat), vs = [.ref a] ∧ SqL K H a (vM f n) ∧ n ≤ 8192 ∧ ∀ H' p, Same H H' → H p = none → Runs H' p (runsOf f n) → Q (.ref p) H'
theorem scRuns : FnScope ["marks", "runs", "length", "i"] ["marks"] (defScope s_runs_of_true) := ⟨rfl, rfl, rfl, by decide +kernel, rfl, by decide +kernel, by decide +kernel⟩
theorem ok_runs {k : Nat} (T : Txt K mg) : FnOk P w K mg base CX0 (k + 1) T.f_runs_of_true T.fd_runs_of_true ["marks"] (spRuns K) := by
  refine T.F_runs_of_true.ok scRuns (fun vs H Q E h => ?_) (fun cdv A outer s H vs Q E hr h => ?_)
  · obtain ⟨a, f, n, rfl, _⟩ := h
    rfl
  · obtain ⟨a, f, n, rfl, hS, hn, q⟩ := h
    refine ⟨_, pss_cons (ps_set (i := 1) scRuns.nd rfl (Or.inl rfl) (pe_lst pa_nil))
      (pss_cons (ps_set (i := 2) scRuns.nd rfl (Or.inl rfl) pe_int)
      (pss_cons (ps_for PassesOwn.never rfl (pi_range1 rfl T.m_range (pa_cons (pe_callB call_len_seq (by rfl) T.m_len PySem.boot_len (pa_cons (pv 0) pa_nil)) pa_nil)) (pg_name (i := 3) scRuns.nd rfl (Or.inl rfl))
        (pss_one (ps_if (pt_val (pe_ix ix_list (pv 0) (pv 3) (fun _ _ => rfl)))
          (pss_one (ps_set (i := 2) scRuns.nd rfl (Or.inl rfl) (pe_op op_add (pv 2) pe_int)))
          (pss_one (ps_if (pt_cmpR op_gt (pv 2) pe_int (nomark _))
            (pss_cons (ps_expr (pe_bm PySem.F.plainAttrs_list PySem.F.slot_list_append PySem.F.type_list_append mt_append (pv 1) (pa_cons (pe_tup (pa_cons (pe_op op_sub (pv 3) (pv 2)) (pa_cons (pv 2) pa_nil))) pa_nil)))
            (pss_one (ps_set (i := 2) scRuns.nd rfl (Or.inl rfl) pe_int))) pss_nil)))))
      (pss_cons (ps_if (pt_cmpR op_gt (pv 2) pe_int (nomark _))
        (pss_one (ps_expr (pe_bm PySem.F.plainAttrs_list PySem.F.slot_list_append PySem.F.type_list_append mt_append (pv 1) (pa_cons (pe_tup (pa_cons (pe_op op_sub (pe_callB call_len_seq (by rfl) T.m_len PySem.boot_len (pa_cons (pv 0) pa_nil)) (pv 2)) (pa_cons (pv 2) pa_nil))) pa_nil)))) pss_nil)
      (pss_one (ps_ret (pv 1)))))), ?_⟩
    -- runs = []
    refine ⟨(by show 0 ≤ sizeLine; exact Nat.zero_le _), fun pr hpr => ?_⟩
    have s1 : Same H (upd H pr (.lst [])) := same_upd hpr
    -- for i in range(len(marks))
    refine ⟨_, rfl, a, _, rfl, .inl (s1.seq hS), (n : Int), (by rw [vM_length]), by omega, by omega, for_range (lo := 0) (n := n) (fun i σ H' => ∃ v : Option V, σ = [some (.ref a), some (.ref pr), some (.int ((runsAt f i).2 : Int)), v] ∧ Same H H' ∧ Runs H' pr (runsAt f i).1) ⟨none, rfl, s1, Runs.nil⟩ ?_ ?_⟩
    · rintro i σ H' hi ⟨v, rfl, sm, e⟩
      obtain ⟨g1, g2, g3, g4⟩ := runsAt_good f i
      refine ⟨_, rfl, _, rfl, a, _, _, _, rfl, rfl, sm.seq hS, at_of (j := i) (Int.zero_add _) (vM_get hi), _, rfl, ite2 (fun z => ?_) (fun z => ?_)⟩
      · refine ⟨_, rfl, _, _, rfl, rfl, ?_⟩
        rw [runsAt_succ, z, runStep_true]
        exact ⟨_, rfl, sm, e⟩
      · have z : f i = false := by simpa using z
        rw [runsAt_succ, z]
        refine ⟨_, rfl, _, _, rfl, rfl, _, rfl, ite2 (fun y => ?_) (fun y => ?_)⟩
        · have y : ((runsAt f i).2 : Int) > 0 := of_decide_eq_true y
          have y : 0 < (runsAt f i).2 := by omega
          rw [runStep_cut y]
          obtain ⟨vs, k1, k2, k3⟩ := e.snoc
          refine ⟨_, rfl, .inl ⟨rfl, _, SqL.of k1⟩, _, rfl, _, rfl, _, _, rfl, rfl, _, rfl, (by show 2 ≤ sizeLine; decide), fun t ht => ?_⟩
          have k4 := k3 t (i - (runsAt f i).2) (runsAt f i).2 ht
          have ei : ((i - (runsAt f i).2 : Nat) : Int) = 0 + (i : Int) - ((runsAt f i).2 : Int) := by omega
          rw [ei] at k4
          refine ⟨pr, _, _, rfl, rfl, same_upd ht _ _ k1, ?_, ⟨_, rfl, ?_, k4⟩⟩
          · rw [k2]
            exact small (m := 8192) (by omega) (by decide)
          · exact fun b o u => by
              rw [upd_ne (ne_of_none u hpr)]
              exact same_upd ht _ _ (sm b o u)
        · have y : ¬ ((runsAt f i).2 : Int) > 0 := fun u => y (decide_eq_true u)
          rw [runStep_none (by omega)]
          exact ⟨_, rfl, sm, e⟩
    · rintro σ H' ⟨v, rfl, sm, e⟩
      obtain ⟨g1, g2, g3, g4⟩ := runsAt_good f n
      refine ⟨_, rfl, _, _, rfl, rfl, _, rfl, ite2 (fun y => ?_) (fun y => ?_)⟩
      · have y : ((runsAt f n).2 : Int) > 0 := of_decide_eq_true y
        have y : 0 < (runsAt f n).2 := by omega
        obtain ⟨vs, k1, k2, k3⟩ := e.snoc
        refine ⟨_, rfl, .inl ⟨rfl, _, SqL.of k1⟩, _, rfl, a, _, rfl, .inl (sm.seq hS), _, rfl, _, _, rfl, rfl, _, rfl, (by show 2 ≤ sizeLine; decide), fun t ht => ?_⟩
        have k4 := k3 t (n - (runsAt f n).2) (runsAt f n).2 ht
        have ei : ((n - (runsAt f n).2 : Nat) : Int) = ((vM f n).length : Int) - ((runsAt f n).2 : Int) := by
          rw [vM_length]
          omega
        rw [ei] at k4
        refine ⟨pr, _, _, rfl, rfl, same_upd ht _ _ k1, ?_, ⟨_, rfl, q _ pr ?_ hpr ?_⟩⟩
        · rw [k2]
          exact small (m := 8192) (by omega) (by decide)
        · exact fun b o u => by
            rw [upd_ne (ne_of_none u hpr)]
            exact same_upd ht _ _ (sm b o u)
        · unfold runsOf runsEnd
          rw [if_pos y]
          exact k4
      · have y : ¬ ((runsAt f n).2 : Int) > 0 := fun u => y (decide_eq_true u)
        refine ⟨_, rfl, q H' pr sm hpr ?_⟩
        unfold runsOf runsEnd
        rw [if_neg (by omega)]
        exact e
/-! ### gaps_in -/
def spGapsIn (K : PySem.W.Frag) : Sp := fun vs H Q _ => ∃ (a : Addr) (l : List Nat) (most : Nat), vs = [.ref a, .int (most : Int)] ∧ SqL K H a (vN l) ∧ l.length ≤ 8192 ∧ ∀ H' p, Same H H' → H p = none → Runs H' p (Sh57.gaps most l) → Q (.ref p) H'
theorem scGapsIn : FnScope ["l", "most", "number"] ["l", "most"] (defScope s_gaps_in) := ⟨rfl, rfl, rfl, by decide +kernel, rfl, by decide +kernel, by decide +kernel⟩
theorem ok_gaps_in {k : Nat} (T : Txt K mg) : FnOk P w K mg base CX0 (k + 2) T.f_gaps_in T.fd_gaps_in ["l", "most"] (spGapsIn K) := by
  refine T.F_gaps_in.ok scGapsIn (fun vs H Q E h => ?_) (fun cdv A outer s H vs Q E hr h => ?_)
  · obtain ⟨a, l, most, rfl, _⟩ := h
    rfl
  · obtain ⟨a, l, most, rfl, hS, hn, q⟩ := h
    refine ⟨_, pss_one (ps_ret (pe_call (ok_runs T) hr rfl T.g_runs_of_true T.F_runs_of_true.kp T.b_runs_of_true .nil pass0 (pa_cons
      (pe_lc (own := [("number", 2)]) (g := gName 2) (tt := tYes) rfl scGapsIn.nd (pi_list (pv 0)) (blkOk_by (N := ["l", "most", "number"]) (sc := defScope s_gaps_in) (by decide +kernel))
        (fun _ _ _ _ _ => pg_name (i := 2) scGapsIn.nd rfl (Or.inl rfl)) (fun _ _ _ _ _ => pts_nil) (fun _ _ _ _ _ => pe_cmpR op_le (pv 2) (pv 1) (nomark _))) pa_nil))), ?_⟩
    refine ⟨_, rfl, a, rfl, ⟨_, hS⟩, fun D hD => ?_⟩
    refine lc_list (K := K) (a := a) (xs := vN l) (fun i H' => Same H H' ∧ H' D = some (.lst (vM (lowAt most l) i))) ⟨same_upd hD, upd_same⟩ (fun i H' _ ⟨sm, _⟩ => sm.seq hS) ?_ ?_
    · rintro i x H' hx ⟨sm, e⟩
      have hi : i < l.length := by
        have := (List.getElem?_eq_some_iff.mp hx).1
        rw [vN_length] at this
        exact this
      have ex : x = V.int ((l.getD i 0 : Nat) : Int) := Option.some.inj (hx.symm.trans (vN_getD hi))
      subst ex
      refine ⟨rfl, ?_⟩
      refine ⟨_, rfl, _, rfl, _, _, rfl, rfl, _, e, ?_, ?_, ?_⟩
      · rw [vM_length]
        exact small (m := 8192) (by omega) (by decide)
      · exact fun b o u => by
          rw [upd_ne (ne_of_none u hD)]
          exact sm b o u
      · rw [upd_same, vM_succ]
        have ed : lowAt most l i = decide (((l.getD i 0 : Nat) : Int) ≤ (most : Int)) := decide_eq_decide.mpr (by omega)
        rw [ed]
    · rintro H' ⟨sm, e⟩
      rw [vN_length] at e
      refine ⟨D, lowAt most l, l.length, rfl, SqL.of e, hn, fun H2 p s2 np R => ?_⟩
      rw [← gaps_runs] at R
      exact q H2 p (sm.trans s2) (sm.free np) R
/-! ### tell_runs -/
def toldRuns (rs : List (Nat × Nat)) : List V := [.int (rs.length : Int), .int (rs.length : Int)] ++ vN (rs.map fun g => g.1) ++ [.int (rs.length : Int)] ++ vN (rs.map fun g => g.2)
def spTell (K : PySem.W.Frag) : Sp := fun vs H Q _ => ∃ (a : Addr) (rs : List (Nat × Nat)), vs = [.ref a] ∧ Runs H a rs ∧ rs.length ≤ 8192 ∧ ∀ (H' : Hp) (p : Addr), H' p = some (.lst (toldRuns rs)) → Q (.ref p) H'
theorem scTell : FnScope ["runs", "begins", "lengths", "begin", "length"] ["runs"] (defScope s_tell_runs) := ⟨rfl, rfl, rfl, by decide +kernel, rfl, by decide +kernel, by decide +kernel⟩
theorem take_map_succ {α : Type} (F : α → Nat) {l : List α} {i : Nat} {x : α} (e : l[i]? = some x) : vN ((l.take (i + 1)).map F) = vN ((l.take i).map F) ++ [V.int ((F x : Nat) : Int)] := by
  rw [take_succ_of e, List.map_append]
  exact vN_append _ _
theorem Runs.item {H : Hp} {a : Addr} {rs : List (Nat × Nat)} {vs : List V} (c : Runs H a rs) (h : H a = some (.lst vs)) {i : Nat} {x : V} (e : vs[i]? = some x) : ∃ (t : Addr) (g : Nat × Nat), x = .ref t ∧ rs[i]? = some g ∧ H t = some (.tup [.int (g.1 : Int), .int (g.2 : Int)]) := by
  obtain ⟨as, h1, h2, h3⟩ := c
  rw [h] at h1
  cases h1
  rw [List.getElem?_map] at e
  cases eo : as[i]? with
  | none =>
    rw [eo] at e
    cases e
  | some t =>
    rw [eo] at e
    cases e
    have hi : i < rs.length := by
      have := (List.getElem?_eq_some_iff.mp eo).1
      omega
    refine ⟨t, rs.getD i (0, 0), rfl, ?_, h3 i t eo⟩
    rw [List.getD_eq_getElem?_getD, List.getElem?_eq_getElem hi]
    rfl
theorem ok_tell {k : Nat} (T : Txt K mg) : FnOk P w K mg base CX0 (k + 1) T.f_tell_runs T.fd_tell_runs ["runs"] (spTell K) := by
  refine T.F_tell_runs.ok scTell (fun vs H Q E h => ?_) (fun cdv A outer s H vs Q E hr h => ?_)
  · obtain ⟨a, rs, rfl, _⟩ := h
    rfl
  · obtain ⟨a, rs, rfl, R, hn, q⟩ := h
    refine ⟨_, pss_cons (ps_setLc (i := 1) (own := [("begin", 3), ("length", 4)]) (g := gTup K 2 (gCons (gName 3) (gCons (gName 4) gNil))) (tt := tYes) rfl scTell.nd rfl rfl (sw_true rfl rfl rfl (by decide +kernel)) (pi_list (pv 0)) (blkOk_by (N := ["runs", "begins", "lengths", "begin", "length"]) (sc := defScope s_tell_runs) (by decide +kernel))
        (fun _ _ _ _ _ => pg_tup rfl (pgs_cons (pg_name (i := 3) scTell.nd rfl (Or.inl rfl)) (pgs_cons (pg_name (i := 4) scTell.nd rfl (Or.inl rfl)) pgs_nil))) (fun _ _ _ _ _ => pts_nil) (fun _ _ _ _ _ => pv 3))
      (pss_cons (ps_setLc (i := 2) (own := [("begin", 3), ("length", 4)]) (g := gTup K 2 (gCons (gName 3) (gCons (gName 4) gNil))) (tt := tYes) rfl scTell.nd rfl rfl (sw_true rfl rfl rfl (by decide +kernel)) (pi_list (pv 0)) (blkOk_by (N := ["runs", "begins", "lengths", "begin", "length"]) (sc := defScope s_tell_runs) (by decide +kernel))
        (fun _ _ _ _ _ => pg_tup rfl (pgs_cons (pg_name (i := 3) scTell.nd rfl (Or.inl rfl)) (pgs_cons (pg_name (i := 4) scTell.nd rfl (Or.inl rfl)) pgs_nil))) (fun _ _ _ _ _ => pts_nil) (fun _ _ _ _ _ => pv 4))
      (pss_one (ps_ret (pe_op op_cat (pe_op op_cat (pe_op op_cat (pe_lst (pa_cons (pe_callB call_len_seq (by rfl) T.m_len PySem.boot_len (pa_cons (pv 0) pa_nil)) (pa_cons (pe_callB call_len_seq (by rfl) T.m_len PySem.boot_len (pa_cons (pv 0) pa_nil)) pa_nil))) (pv 1)) (pe_lst (pa_cons (pe_callB call_len_seq (by rfl) T.m_len PySem.boot_len (pa_cons (pv 0) pa_nil)) pa_nil))) (pv 2))))), ?_⟩
    obtain ⟨vs, hv, lv⟩ := R.len
    -- begins
    refine ⟨_, rfl, a, rfl, ⟨_, SqL.of hv⟩, fun D hD => ?_⟩
    refine lc_list (K := K) (a := a) (xs := vs) (fun i H' => Same H H' ∧ H' D = some (.lst (vN ((rs.take i).map fun g => g.1)))) ⟨same_upd hD, upd_same⟩ (fun i H' _ ⟨sm, _⟩ => SqL.of (sm _ _ hv)) ?_ ?_
    · rintro i x H' hx ⟨sm, e⟩
      obtain ⟨t, g, rfl, eg, et⟩ := (R.same sm).item (sm _ _ hv) hx
      refine ⟨t, _, rfl, SqT.of et, rfl, _, _, rfl, _, _, rfl, rfl, rfl, ?_⟩
      refine ⟨_, rfl, _, e, ?_, ?_, ?_⟩
      · rw [vN_length, List.length_map, List.length_take]
        exact small (m := 8192) (by omega) (by decide)
      · exact fun b o u => by
          rw [upd_ne (ne_of_none u hD)]
          exact sm b o u
      · rw [upd_same, take_map_succ _ eg]
    rintro H1 ⟨s1, e1⟩
    rw [lv, List.take_of_length_le (Nat.le_refl _)] at e1
    -- lengths
    refine ⟨_, rfl, a, rfl, ⟨_, SqL.of (s1 _ _ hv)⟩, fun D2 hD2 => ?_⟩
    have nD : D ≠ D2 := ne_of_none e1 hD2
    refine lc_list (K := K) (a := a) (xs := vs) (fun i H' => Same H1 H' ∧ H' D2 = some (.lst (vN ((rs.take i).map fun g => g.2)))) ⟨same_upd hD2, upd_same⟩ (fun i H' _ ⟨sm, _⟩ => SqL.of (sm _ _ (s1 _ _ hv))) ?_ ?_
    · rintro i x H' hx ⟨sm, e⟩
      obtain ⟨t, g, rfl, eg, et⟩ := (R.same (s1.trans sm)).item (sm _ _ (s1 _ _ hv)) hx
      refine ⟨t, _, rfl, SqT.of et, rfl, _, _, rfl, _, _, rfl, rfl, rfl, ?_⟩
      refine ⟨_, rfl, _, e, ?_, ?_, ?_⟩
      · rw [vN_length, List.length_map, List.length_take]
        exact small (m := 8192) (by omega) (by decide)
      · exact fun b o u => by
          rw [upd_ne (ne_of_none u hD2)]
          exact sm b o u
      · rw [upd_same, take_map_succ _ eg]
    rintro H2 ⟨s2, e2⟩
    rw [lv, List.take_of_length_le (Nat.le_refl _)] at e2
    have e1' := s2 _ _ e1
    have hv2 := s2 _ _ (s1 _ _ hv)
    -- the sum
    have sz : ∀ {n m : Nat}, n ≤ 4 * 8192 + 8 → m = n → m ≤ sizeLine := fun h e => e ▸ Nat.le_of_lt (small (m := 4 * 8192 + 8) h (by decide))
    refine ⟨_, rfl, a, _, rfl, .inl (SqL.of hv2), _, rfl, a, _, rfl, .inl (SqL.of hv2), (by show 2 ≤ sizeLine; decide), fun p1 n1 => ?_⟩
    have t1 : Same H2 (upd H2 p1 (.lst [.int (vs.length : Int), .int (vs.length : Int)])) := same_upd n1
    refine ⟨_, rfl, p1, D, _, _, rfl, rfl, upd_same, t1 _ _ e1', ?_, fun p2 n2 => ?_⟩
    · refine sz (n := 2 + rs.length) (by omega) ?_
      rw [vN_length, List.length_map]
      rfl
    have t2 := t1.trans (same_upd (o := .lst ([.int (vs.length : Int), .int (vs.length : Int)] ++ vN (rs.map fun g => g.1))) n2)
    refine ⟨_, rfl, a, _, rfl, .inl (SqL.of (t2 _ _ hv2)), (by show 1 ≤ sizeLine; decide), fun p3 n3 => ?_⟩
    have t3 := t2.trans (same_upd (o := .lst [.int (vs.length : Int)]) n3)
    refine ⟨p2, p3, _, _, rfl, rfl, same_upd n3 _ _ upd_same, upd_same, ?_, fun p4 n4 => ?_⟩
    · refine sz (n := 2 + rs.length + 1) (by omega) ?_
      rw [List.length_append, vN_length, List.length_map]
      rfl
    have t4 := t3.trans (same_upd (o := .lst ([.int (vs.length : Int), .int (vs.length : Int)] ++ vN (rs.map fun g => g.1) ++ [.int (vs.length : Int)])) n4)
    refine ⟨_, rfl, p4, D2, _, _, rfl, rfl, upd_same, t4 _ _ e2, ?_, fun p5 n5 => ?_⟩
    · refine sz (n := 2 + rs.length + 1 + rs.length) (by omega) ?_
      rw [List.length_append, List.length_append, vN_length, List.length_map, vN_length, List.length_map]
      rfl
    refine q _ p5 ?_
    rw [upd_same, lv]
    rfl
/-! ### what is told of runs -/
theorem few_of {l : List Int} (h : l.length ≤ 4096) : Sh57.few (Sh57Neutral.nats l).length = true := by
  unfold Sh57.few Sh57Neutral.nats
  rw [List.length_map]
  exact decide_eq_true h
theorem few_not {l : List Int} (h : ¬ l.length ≤ 4096) : Sh57.few (Sh57Neutral.nats l).length = false := by
  unfold Sh57.few Sh57Neutral.nats
  rw [List.length_map]
  exact decide_eq_false h
theorem vI_app (a b : List Int) : vI (a ++ b) = vI a ++ vI b := by
  unfold vI
  rw [List.map_append]
theorem told_runs (rs : List (Nat × Nat)) : vI (Sh57Neutral.told (Sh57.told rs)) = toldRuns rs := by
  show vI ((rs.length : Int) :: ([rs.map fun g => g.1, rs.map fun g => g.2].flatMap fun (l : List Nat) => (l.length : Int) :: Sh57Neutral.ints l)) = _
  rw [List.flatMap_cons, List.flatMap_cons, List.flatMap_nil, List.length_map, List.length_map, List.append_nil]
  show vI ([(rs.length : Int), (rs.length : Int)] ++ (Sh57Neutral.ints (rs.map fun g => g.1) ++ ([(rs.length : Int)] ++ Sh57Neutral.ints (rs.map fun g => g.2)))) = _
  have ei : ∀ l : List Nat, vI (Sh57Neutral.ints l) = vN l := fun l => vI_ofNat l
  rw [vI_app, vI_app, vI_app, ei, ei]
  unfold toldRuns
  rw [List.append_assoc, List.append_assoc]
  rfl
/-! ### bands_in -/
theorem Runs.beside {H : Hp} {a p : Addr} {rs : List (Nat × Nat)} {xs ys : List V} (c : Runs H a rs) (h : H p = some (.lst xs)) (n : a ≠ p) : Runs (upd H p (.lst ys)) a rs := by
  obtain ⟨as, h1, h2, h3⟩ := c
  refine ⟨as, by rw [upd_ne n]; exact h1, h2, fun i t e => ?_⟩
  rw [upd_ne (tup_ne h (h3 i t e))]
  exact h3 i t e
theorem vM_congr {f g : Nat → Bool} {n : Nat} (h : ∀ i, i < n → f i = g i) : vM f n = vM g n := by
  unfold vM
  refine List.map_congr_left fun i hi => ?_
  rw [h i (List.mem_range.mp hi)]
theorem vM_set (f : Nat → Bool) (n j : Nat) (b : Bool) : (vM f n).set j (V.bl b) = vM (fun i => if i = j then b else f i) n := by
  unfold vM
  rw [set_range_map]
  refine List.map_congr_left fun i _ => ?_
  dsimp only
  by_cases e : i = j
  · rw [if_pos e, if_pos e]
  · rw [if_neg e, if_neg e]
theorem rep_true (n : Nat) : (List.replicate n [V.bl true]).flatten = vM (fun _ => true) n := by
  induction n with
  | zero => rfl
  | succ n ih =>
    rw [List.replicate_succ', List.flatten_append, ih, vM_succ]
    rfl
theorem leftAt_snoc (least : Nat) {gs : List (Nat × Nat)} {n : Nat} {g : Nat × Nat} (e : gs[n]? = some g) (i : Nat) : leftAt least (gs.take (n + 1)) i = (leftAt least (gs.take n) i && !(decide (least ≤ g.2) && inOne g i)) := by
  unfold leftAt
  rw [take_succ_of e, List.any_append, Bool.not_or]
  simp
def spBandsIn (K : PySem.W.Frag) : Sp := fun vs H Q _ => ∃ (a : Addr) (l : List Nat) (most least : Nat), vs = [.ref a, .int (most : Int), .int (least : Int)] ∧ SqL K H a (vN l) ∧ l.length ≤ 4200 ∧ ∀ H' p, Same H H' → H p = none → Runs H' p (Sh57.bands most least l) → Q (.ref p) H'
theorem scBandsIn : FnScope ["l", "most", "least", "left", "begin", "length", "i"] ["l", "most", "least"] (defScope s_bands_in) := ⟨rfl, rfl, rfl, by decide +kernel, rfl, by decide +kernel, by decide +kernel⟩
theorem ok_bands_in {k : Nat} (T : Txt K mg) : FnOk P w K mg base CX0 (k + 3) T.f_bands_in T.fd_bands_in ["l", "most", "least"] (spBandsIn K) := by
  refine T.F_bands_in.ok scBandsIn (fun vs H Q E h => ?_) (fun cdv A outer s H vs Q E hr h => ?_)
  · obtain ⟨a, l, most, least, rfl, _⟩ := h
    rfl
  · obtain ⟨a, l, most, least, rfl, hS, hn, q⟩ := h
    refine ⟨_, pss_cons (ps_set (i := 3) scBandsIn.nd rfl (Or.inl rfl) (pe_op op_rep (pe_lst (pa_cons pe_bl pa_nil)) (pe_callB call_len_seq (by rfl) T.m_len PySem.boot_len (pa_cons (pv 0) pa_nil))))
      (pss_cons (ps_for PassesOwn.never rfl (pi_list (pe_call (ok_gaps_in T) hr rfl T.g_gaps_in T.F_gaps_in.kp T.b_gaps_in .nil pass0 (pa_cons (pv 0) (pa_cons (pv 1) pa_nil)))) (pg_tup rfl (pgs_cons (pg_name (i := 4) scBandsIn.nd rfl (Or.inl rfl)) (pgs_cons (pg_name (i := 5) scBandsIn.nd rfl (Or.inl rfl)) pgs_nil)))
        (pss_one (ps_if (pt_cmpR op_ge (pv 5) (pv 2) (nomark _))
          (pss_one (ps_for PassesOwn.never rfl (pi_range2 rfl T.m_range (pa_cons (pv 4) (pa_cons (pe_op op_add (pv 4) (pv 5)) pa_nil))) (pg_name (i := 6) scBandsIn.nd rfl (Or.inl rfl))
            (pss_one (ps_asg pe_bl (pg_sub (pv 3) (pv 6) set_list))))) pss_nil)))
      (pss_one (ps_ret (pe_call (ok_runs (k := k + 1) T) hr rfl T.g_runs_of_true T.F_runs_of_true.kp T.b_runs_of_true .nil pass0 (pa_cons (pv 3) pa_nil))))), ?_⟩
    -- left = [True] * len(l)
    refine ⟨(by show 1 ≤ sizeLine; decide), fun l0 hl0 => ?_⟩
    have s1 : Same H (upd H l0 (.lst [.bl true])) := same_upd hl0
    refine ⟨_, rfl, a, _, rfl, .inl (s1.seq hS), l0, _, _, rfl, rfl, upd_same, by omega, ?_, ?_, fun pl hpl => ?_⟩
    · rw [vN_length]
      omega
    · show 1 * (Int.toNat _) ≤ sizeLine
      rw [vN_length, Int.toNat_natCast]
      exact Nat.le_of_lt (small (m := 4200) (by omega) (by decide))
    have hplH : H pl = none := s1.free hpl
    have s2 := s1.trans (same_upd (o := .lst ((List.replicate (((vN l).length : Nat) : Int).toNat [V.bl true]).flatten)) hpl)
    -- gaps_in(l, most)
    refine ⟨_, rfl, _, rfl, a, l, most, rfl, s2.seq hS, by omega, fun H1 pg s3 ng R => ?_⟩
    obtain ⟨vs, hv, lv⟩ := R.len
    have hpl1 := s3 _ _ (upd_same (H := upd H l0 (.lst [.bl true])) (a := pl) (o := .lst ((List.replicate (((vN l).length : Nat) : Int).toNat [V.bl true]).flatten)))
    rw [vN_length, Int.toNat_natCast, rep_true] at hpl1
    have npg : pg ≠ pl := (ne_of_none upd_same ng).symm
    have s4 : Same H H1 := s2.trans s3
    obtain ⟨asc, ends, _⟩ := gaps_good most l
    rw [bands_runs] at q
    generalize Sh57.gaps most l = gs at *
    refine ⟨pg, rfl, ⟨_, SqL.of hv⟩, for_list (xs := vs) (fun n σ H2 => ∃ v4 v5 v6 : Option V, σ = [some (.ref a), some (.int (most : Int)), some (.int (least : Int)), some (.ref pl), v4, v5, v6] ∧ Same H H2 ∧ Runs H2 pg gs ∧ H2 pg = some (.lst vs) ∧ H2 pl = some (.lst (vM (leftAt least (gs.take n)) l.length))) ⟨none, none, none, rfl, s4, R, hv, hpl1⟩ ?_ ?_ ?_⟩
    · rintro n σ H2 _ ⟨_, _, _, rfl, _, _, e, _⟩
      exact SqL.of e
    · rintro n x σ H2 hx ⟨v4, v5, v6, rfl, sm, R2, ev, el⟩
      obtain ⟨t, g, rfl, eg, et⟩ := R2.item ev hx
      have ge := ends g (List.mem_of_getElem? eg)
      refine ⟨t, _, rfl, SqT.of et, rfl, _, _, rfl, _, _, rfl, rfl, ?_⟩
      refine ⟨_, rfl, _, rfl, _, _, rfl, rfl, _, rfl, ite2 (fun z => ?_) (fun z => ?_)⟩
      · have z : (least : Int) ≤ (g.2 : Int) := of_decide_eq_true z
        have z : least ≤ g.2 := by omega
        refine ⟨_, rfl, _, rfl, _, rfl, _, _, rfl, rfl, (g.1 : Int), ((g.1 : Int) + (g.2 : Int)), rfl, ⟨by omega, by omega, by omega, by omega⟩, ?_⟩
        rw [show ((g.1 : Int) + (g.2 : Int) - (g.1 : Int)).toNat = g.2 by omega]
        refine for_range (lo := (g.1 : Int)) (n := g.2) (fun j σ H3 => ∃ v6 : Option V, σ = [some (.ref a), some (.int (most : Int)), some (.int (least : Int)), some (.ref pl), some (.int (g.1 : Int)), some (.int (g.2 : Int)), v6] ∧ Same H H3 ∧ Runs H3 pg gs ∧ H3 pg = some (.lst vs) ∧ H3 pl = some (.lst (vM (fun i => leftAt least (gs.take n) i && !(decide (g.1 ≤ i) && decide (i < g.1 + j))) l.length))) ⟨v6, rfl, sm, R2, ev, ?_⟩ ?_ ?_
        · rw [el]
          congr 2
          refine vM_congr fun i _ => ?_
          have : (decide (g.1 ≤ i) && decide (i < g.1 + 0)) = false := by
            rw [← Bool.not_eq_true]
            simp
          rw [this]
          simp
        · rintro j σ H3 hj ⟨v6, rfl, sm3, R3, ev3, el3⟩
          have ej : (g.1 : Int) + (j : Int) = ((g.1 + j : Nat) : Int) := by omega
          refine ⟨_, rfl, _, rfl, pl, _, _, g.1 + j, rfl, rfl, el3, ixN_nat ej (by rw [vM_length]; omega), ?_⟩
          refine ⟨_, rfl, ?_, R3.beside el3 npg, (by rw [upd_ne npg]; exact ev3), ?_⟩
          · exact fun b o u => by
              rw [upd_ne (ne_of_none u hplH)]
              exact sm3 b o u
          · rw [upd_same, vM_set]
            congr 2
            refine vM_congr fun i _ => ?_
            by_cases ei : i = g.1 + j
            · rw [if_pos ei, decide_eq_true (p := g.1 ≤ i) (by omega), decide_eq_true (p := i < g.1 + (j + 1)) (by omega)]
              simp
            · rw [if_neg ei]
              have : decide (i < g.1 + (j + 1)) = decide (i < g.1 + j) := decide_eq_decide.mpr (by omega)
              rw [this]
        · rintro σ H3 ⟨v6, rfl, sm3, R3, ev3, el3⟩
          refine ⟨_, _, _, rfl, sm3, R3, ev3, ?_⟩
          rw [el3]
          congr 2
          refine vM_congr fun i _ => ?_
          rw [leftAt_snoc least eg, decide_eq_true z, Bool.true_and]
          rfl
      · have z : ¬ (least : Int) ≤ (g.2 : Int) := fun u => z (decide_eq_true u)
        refine ⟨_, _, _, rfl, sm, R2, ev, ?_⟩
        rw [el]
        congr 2
        refine vM_congr fun i _ => ?_
        rw [leftAt_snoc least eg, decide_eq_false (by omega : ¬ least ≤ g.2), Bool.false_and]
        simp
    · rintro σ H2 ⟨v4, v5, v6, rfl, sm, R2, ev, el⟩
      rw [lv, List.take_of_length_le (Nat.le_refl _)] at el
      refine ⟨_, rfl, pl, _, _, rfl, SqL.of el, by omega, fun H3 p s5 n5 R5 => ?_⟩
      exact q H3 p (sm.trans s5) (sm.free n5) R5
/-! ### st_bands -/
theorem bands_bad {most least : Int} {l : List Int} (h : ¬ l.length ≤ 4096) : PySh57.st_bands most least l = [-2] := by
  unfold PySh57.st_bands Sh57Neutral.f Sh57Neutral.callOf
  simp only [few_not h]
  rfl
theorem bands_ok {most least : Int} {l : List Int} (h : l.length ≤ 4096) : PySh57.st_bands most least l = Sh57Neutral.told (Sh57.told (Sh57.bands most.toNat least.toNat (natsOf l))) := by
  unfold PySh57.st_bands Sh57Neutral.f Sh57Neutral.callOf
  simp only [few_of h]
  rfl
def spMain (K : PySem.W.Frag) : Sp := fun vs H Q _ => ∃ (most least : Int) (a : Addr) (l : List Int), vs = [.int most, .int least, .ref a] ∧ SqL K H a (vI l) ∧ 0 ≤ most ∧ 0 ≤ least ∧ l.length ≤ 4200 ∧ (∀ z ∈ l, 0 ≤ z) ∧
  ∀ (H' : Hp) (p : Addr), H' p = some (.lst (vI (PySh57.st_bands most least l))) → Q (.ref p) H'
theorem scMain : FnScope ["most", "least", "l"] ["most", "least", "l"] (defScope s_st_bands) := ⟨rfl, rfl, rfl, by decide +kernel, rfl, by decide +kernel, by decide +kernel⟩
theorem ok_main (T : Txt K mg) : FnOk P w K mg base CX0 4 T.f_st_bands T.fd_st_bands ["most", "least", "l"] (spMain K) := by
  refine T.F_st_bands.ok scMain (fun vs H Q E h => ?_) (fun cdv A outer s H vs Q E hr h => ?_)
  · obtain ⟨most, least, a, l, rfl, _⟩ := h
    rfl
  · obtain ⟨most, least, a, l, rfl, hS, h0, h1, hlen, hn, q⟩ := h
    have hr1 : Room 1 _ := hr.mono (by decide)
    refine ⟨_, pss_cons (ps_if (pt_cmpR op_gt (pe_callB call_len_seq (by rfl) T.m_len PySem.boot_len (pa_cons (pv 2) pa_nil)) (pe_gi rfl T.MOST_NUMBERS) (nomark _)) (pss_one (ps_ret (pe_lst (pa_cons (pe_un un_neg pe_int) pa_nil)))) pss_nil)
      (pss_one (ps_ret (pe_call (ok_tell T) hr1 rfl T.g_tell_runs T.F_tell_runs.kp T.b_tell_runs .nil pass0 (pa_cons (pe_call (ok_bands_in T) hr rfl T.g_bands_in T.F_bands_in.kp T.b_bands_in .nil pass0 (pa_cons (pv 2) (pa_cons (pv 0) (pa_cons (pv 1) pa_nil)))) pa_nil)))), ?_⟩
    refine ⟨_, rfl, a, _, rfl, .inl hS, _, _, rfl, rfl, _, rfl, ite2 (fun e => ?_) (fun e => ?_)⟩
    · have e : ¬ l.length ≤ 4096 := by
        have e := of_decide_eq_true e
        rw [vI_length] at e
        omega
      refine ⟨2, rfl, (by show 1 ≤ sizeLine; decide), fun p hp => ?_⟩
      refine q _ p ?_
      rw [upd_same, bands_bad e]
      rfl
    · have e : l.length ≤ 4096 := by
        have e : ¬ ((vI l).length : Int) > 4096 := fun z => e (decide_eq_true z)
        rw [vI_length] at e
        omega
      rw [vI_nats hn] at hS
      rw [bands_ok e, told_runs] at q
      have hl : (natsOf l).length ≤ 4096 := by
        unfold natsOf Sh57Neutral.nats
        rw [List.length_map]
        exact e
      obtain ⟨mn, rfl⟩ : ∃ mn : Nat, most = (mn : Int) := ⟨most.toNat, by omega⟩
      obtain ⟨ln, rfl⟩ : ∃ ln : Nat, least = (ln : Int) := ⟨least.toNat, by omega⟩
      rw [Int.toNat_natCast, Int.toNat_natCast] at q
      refine ⟨_, rfl, _, rfl, _, rfl, a, natsOf l, mn, ln, rfl, hS, by omega, fun H1 p1 s1 n1 R1 => ?_⟩
      have hg : (Sh57.bands mn ln (natsOf l)).length ≤ (natsOf l).length + 1 := by
        rw [bands_runs]
        exact (runsOf_good _ _).2.2
      exact ⟨p1, _, rfl, R1, by omega, q⟩
end
/-! ### the request: numbers ahead of one list -/
theorem req1 {K : PySem.W.Frag} {H : Hp} {xs : List V} {x : List Int} (hx : DwAll K H xs [.list (x.map PySem.W.WData.int)]) : ∃ a, xs = [.ref a] ∧ SqL K H a (vI x) := by
  cases hx with
  | cons h1 hx =>
  cases hx
  cases h1 with
  | lst hs ha =>
    have e := ints_dw x _ ha
    subst e
    exact ⟨_, rfl, hs⟩
theorem req_int {K : PySem.W.Frag} {H : Hp} {xs : List V} {k : Int} {r : List PySem.W.WData} (hx : DwAll K H xs (.int k :: r)) : ∃ ys, xs = .int k :: ys ∧ DwAll K H ys r := by
  cases hx with
  | cons h1 hx =>
  cases h1
  exact ⟨_, rfl, hx⟩
theorem list_of {x : List Int} {m : Nat} {b : Int} (q : (Codec.inLen 0 m x && x.all (Codec.inInt 0 b)) = true) : x.length ≤ m ∧ ∀ z ∈ x, 0 ≤ z ∧ z ≤ b := by
  simp only [Bool.and_eq_true, List.all_eq_true, Codec.inInt_iff] at q
  refine ⟨?_, fun z hz => q.2 z hz⟩
  have := q.1
  unfold Codec.inLen Codec.inNat at this
  simp only [Bool.and_eq_true, decide_eq_true_eq] at this
  exact this.2
/-! ### the end -/
theorem all_mk {P : Program} {w : World} {K : PySem.W.Frag} {h : Heap} {mg : Str → Option Value} {fa f1 f2 f3 f4 f5 : Addr} (X : K.In h) (G : h.Ns mainGlobals mg) (hfa : mg "st_bands" = some (.ref fa))
    {od1 an1 od2 an2 od3 an3 od4 an4 od5 an5 : Option Addr} {sl1 sl2 sl3 sl4 sl5 : Array (Option Value)} {oc1 kV1 dc1 pm1 cd1 ct1 oc2 kV2 dc2 pm2 cd2 ct2 oc3 kV3 dc3 pm3 cd3 ct3 oc4 kV4 dc4 pm4 cd4 ct4 oc5 kV5 dc5 pm5 cd5 ct5 : Value} {u1 : Tok}
    (a1 : PySem.W.nsIn K mainGlobals "runs_of_true" = some (some (.ref f1))) (l1 : K.lookup f1 = some ⟨oc1, od1, .func (PySem.W.fnOf "runs_of_true" "runs_of_true" (defArgs s_runs_of_true) (defBody s_runs_of_true) (defScope s_runs_of_true) .none kV1 dc1 pm1 an1 cd1 ct1), sl1⟩) (c1 : PySem.W.codeIn K cd1 "runs_of_true" = true) (k1 : PySem.W.keepIn K (.ref f1) = true)
    (a2 : PySem.W.nsIn K mainGlobals "gaps_in" = some (some (.ref f2))) (l2 : K.lookup f2 = some ⟨oc2, od2, .func (PySem.W.fnOf "gaps_in" "gaps_in" (defArgs s_gaps_in) (defBody s_gaps_in) (defScope s_gaps_in) .none kV2 dc2 pm2 an2 cd2 ct2), sl2⟩) (c2 : PySem.W.codeIn K cd2 "gaps_in" = true) (k2 : PySem.W.keepIn K (.ref f2) = true)
    (a3 : PySem.W.nsIn K mainGlobals "bands_in" = some (some (.ref f3))) (l3 : K.lookup f3 = some ⟨oc3, od3, .func (PySem.W.fnOf "bands_in" "bands_in" (defArgs s_bands_in) (defBody s_bands_in) (defScope s_bands_in) .none kV3 dc3 pm3 an3 cd3 ct3), sl3⟩) (c3 : PySem.W.codeIn K cd3 "bands_in" = true) (k3 : PySem.W.keepIn K (.ref f3) = true)
    (a4 : PySem.W.nsIn K mainGlobals "tell_runs" = some (some (.ref f4))) (l4 : K.lookup f4 = some ⟨oc4, od4, .func (PySem.W.fnOf "tell_runs" "tell_runs" (defArgs s_tell_runs) (defBody s_tell_runs) (defScope s_tell_runs) .none kV4 dc4 pm4 an4 cd4 ct4), sl4⟩) (c4 : PySem.W.codeIn K cd4 "tell_runs" = true) (k4 : PySem.W.keepIn K (.ref f4) = true)
    (a5 : PySem.W.nsIn K mainGlobals "st_bands" = some (some (.ref f5))) (l5 : K.lookup f5 = some ⟨oc5, od5, .func (PySem.W.fnOf "st_bands" "st_bands" (defArgs s_st_bands) (defBody s_st_bands) (defScope s_st_bands) .none kV5 dc5 pm5 an5 cd5 ct5), sl5⟩) (c5 : PySem.W.codeIn K cd5 "st_bands" = true) (k5 : PySem.W.keepIn K (.ref f5) = true)
    (n1 : PySem.W.nsIn K mainGlobals "MOST_NUMBERS" = some (some (.int 4096 u1)))
    (z1 : PySem.W.nsIn K mainGlobals "len" = some none)
    (z2 : PySem.W.nsIn K mainGlobals "range" = some none) :
    ∃ fd : FuncData, (∀ (s : Shared) (us : List Value), us.length = (["most", "least", "l"] : List Str).length → BindsTo s fd ⟨us, []⟩ ((["most", "least", "l"] : List Str).zip us)) ∧ ∀ base : Heap, K.In base → base.Ns mainGlobals mg → FnOk P w K mg base CX0 4 fa fd ["most", "least", "l"] (spMain K) := by
  have e := hfa.symm.trans (PySem.W.mg_of X G a5)
  cases e
  have F1 := fun_mk (st := s_runs_of_true) l1 c1 k1
  have b1 := F1.binds (ps := ["marks"]) fun _ _ _ _ _ _ us hl => match us, hl with | [_], _ => rfl
  have F2 := fun_mk (st := s_gaps_in) l2 c2 k2
  have b2 := F2.binds (ps := ["l", "most"]) fun _ _ _ _ _ _ us hl => match us, hl with | [_, _], _ => rfl
  have F3 := fun_mk (st := s_bands_in) l3 c3 k3
  have b3 := F3.binds (ps := ["l", "most", "least"]) fun _ _ _ _ _ _ us hl => match us, hl with | [_, _, _], _ => rfl
  have F4 := fun_mk (st := s_tell_runs) l4 c4 k4
  have b4 := F4.binds (ps := ["runs"]) fun _ _ _ _ _ _ us hl => match us, hl with | [_], _ => rfl
  have F5 := fun_mk (st := s_st_bands) l5 c5 k5
  have b5 := F5.binds (ps := ["most", "least", "l"]) fun _ _ _ _ _ _ us hl => match us, hl with | [_, _, _], _ => rfl
  exact ⟨_, fun s us hu => match us, hu with | [_, _, _], _ => .of_eq rfl, fun base _ _ => ok_main (⟨u1, PySem.W.mg_of X G n1, _, _, F1, b1, PySem.W.mg_of X G a1, _, _, F2, b2, PySem.W.mg_of X G a2, _, _, F3, b3, PySem.W.mg_of X G a3, _, _, F4, b4, PySem.W.mg_of X G a4, _, _, F5, b5, PySem.W.mg_of X G a5, PySem.W.mg_none_of X G z1, PySem.W.mg_none_of X G z2⟩ : Txt K mg)⟩
end Pg
open PySem PySem.W PyProof.Rows
set_option maxRecDepth 100000 in
set_option maxHeartbeats 0 in
theorem PySem.Challenge.cw_pagestraight_s08_st_bands_holds : PySem.Challenge.rw_pagestraight_s08_st_bands.Holds := by
  w_on; k_headS; (case hw => exact ⟨[.int 0, .int 0, .list []], by decide +kernel, by decide +kernel⟩)
  k_fillS
  refine L2.walk_specK (r := PySem.Challenge.rw_pagestraight_s08_st_bands) (k := 4) (CX := L2.CX0) (ps := ["most", "least", "l"]) (sp := Pg.spMain) (by decide +kernel) rfl rfl ⟨rfl, by decide, by decide⟩ (fun w h Y => PySem.W.kIn_of Y) ?F ?S (fun _ _ _ _ z => z)
  case F =>
    intro w mg fa h Y KX G hmg
    refine' Pg.all_mk KX G hmg ?a1 ?l1 ?c1 ?k1 ?a2 ?l2 ?c2 ?k2 ?a3 ?l3 ?c3 ?k3 ?a4 ?l4 ?c4 ?k4 ?a5 ?l5 ?c5 ?k5 ?n1 ?z1 ?z2
    (case a1 => k_is)
    (case l1 => k_is)
    (case c1 => k_is)
    (case k1 => k_is)
    (case a2 => k_is)
    (case l2 => k_is)
    (case c2 => k_is)
    (case k2 => k_is)
    (case a3 => k_is)
    (case l3 => k_is)
    (case c3 => k_is)
    (case k3 => k_is)
    (case a4 => k_is)
    (case l4 => k_is)
    (case c4 => k_is)
    (case k4 => k_is)
    (case a5 => k_is)
    (case l5 => k_is)
    (case c5 => k_is)
    (case k5 => k_is)
    (case n1 => k_is)
    (case z1 => k_is)
    (case z2 => k_is)
  case S =>
    intro K H xs a hO hwi hask hx
    obtain ⟨most, least, l, u⟩ := a
    obtain ⟨ys, e1, hx1⟩ := Pg.req_int (k := most) hx
    obtain ⟨zs, e2, hx2⟩ := Pg.req_int (k := least) hx1
    obtain ⟨p, e3, hS⟩ := Pg.req1 (x := l) hx2
    have q := Bool.and_eq_true_iff.mp hwi
    have q2 := Bool.and_eq_true_iff.mp q.2
    have A := Pg.list_of (m := 4200) (b := 4294967295) (Bool.and_eq_true_iff.mp q2.2).1
    exact ⟨most, least, p, l, e1.trans (congrArg _ (e2.trans (congrArg _ e3))), hS, (Codec.inInt_iff.mp q.1).1, (Codec.inInt_iff.mp q2.1).1, A.1, fun z hz => (A.2 z hz).1, fun H' p hp => .lst (L2.SqL.of hp) (L2.dw_ints _)⟩
#print axioms PySem.Challenge.cw_pagestraight_s08_st_bands_holds
