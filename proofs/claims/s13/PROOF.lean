import PyProof.Rows.All
import Wide.All
import OpenK.AllK
import Wide.FinOn
import Open.SpecLaws
import KE.OsHead
import KE.OsGo
import HandS.ForSpec
import HandS.Comp
import HandS.Text
import HandS.Walk
import PySem.Challenge.RW_pagestraight_s13_st_turn
set_option Elab.async false
set_option linter.all false
set_option maxRecDepth 100000
set_option maxHeartbeats 2000000
/-! The mathematics of pages: a page as rows of words, and back. Plain Lean alone. -/
namespace Pg
open Sh57
/-! ### sums of bits -/
def bitsum (p : Nat → Bool) (n : Nat) : Nat := ((List.range n).map fun j => if p j = true then 2 ^ j else 0).sum
theorem bitsum_zero (p : Nat → Bool) : bitsum p 0 = 0 := rfl
theorem bitsum_succ (p : Nat → Bool) (n : Nat) : bitsum p (n + 1) = bitsum p n + (if p n = true then 2 ^ n else 0) := by
  unfold bitsum
  rw [List.range_succ, List.map_append, List.sum_append]
  simp
theorem bitsum_lt (p : Nat → Bool) : ∀ n, bitsum p n < 2 ^ n
  | 0 => Nat.one_pos
  | n + 1 => by
    have ih := bitsum_lt p n
    rw [bitsum_succ, Nat.pow_succ]
    split <;> omega
theorem bitsum_congr {p q : Nat → Bool} : ∀ {n : Nat}, (∀ j, j < n → p j = q j) → bitsum p n = bitsum q n
  | 0, _ => rfl
  | n + 1, h => by
    rw [bitsum_succ, bitsum_succ, bitsum_congr (n := n) fun j hj => h j (by omega), h n (by omega)]
theorem bitsum_cut {p : Nat → Bool} {m : Nat} : ∀ {n : Nat}, (∀ j, m ≤ j → j < n → p j = false) → m ≤ n → bitsum p n = bitsum p m
  | 0, _, hm => by
    have e : m = 0 := by omega
    rw [e]
  | n + 1, h, hm => by
    by_cases e : m = n + 1
    · rw [e]
    · rw [bitsum_succ, bitsum_cut (n := n) (fun j h1 h2 => h j h1 (by omega)) (by omega), h n (by omega) (by omega)]
      simp
theorem bitsum_put {p q : Nat → Bool} {m : Nat} : ∀ {n : Nat}, m < n → (∀ j, j ≠ m → q j = p j) → p m = false → bitsum q n = bitsum p n + (if q m = true then 2 ^ m else 0)
  | 0, hm, _, _ => by omega
  | n + 1, hm, h, hp => by
    rw [bitsum_succ, bitsum_succ]
    by_cases e : m = n
    · subst e
      rw [bitsum_congr (p := q) (q := p) fun j hj => h j (by omega), hp]
      simp
    · rw [bitsum_put (n := n) (by omega) h hp, h n (fun z => e z.symm)]
      omega
/-! ### a row of dots as words -/
def word (bs : List Bool) (k : Nat) : Nat := bitsum (fun j => bs.getD (32 * k + j) false) 32
def rowL (bs : List Bool) : List Nat := (List.range (wide bs.length)).map (word bs)
theorem rowL_length (bs : List Bool) : (rowL bs).length = wide bs.length := by
  unfold rowL
  simp
theorem word_nil (k : Nat) : word [] k = 0 := by
  unfold word
  rw [bitsum_cut (m := 0) (fun j _ _ => by simp) (by omega)]
  rfl
theorem getD_take (bs : List Bool) (c i : Nat) : (bs.take c).getD i false = if i < c then bs.getD i false else false := by
  rw [List.getD_eq_getElem?_getD, List.getD_eq_getElem?_getD, List.getElem?_take]
  split <;> rfl
/-- bits of a word at or behind the place that is next aren't set -/
theorem word_take_lt (bs : List Bool) (c : Nat) : word (bs.take c) (c / 32) < 2 ^ (c % 32) := by
  unfold word
  rw [bitsum_cut (m := c % 32) (fun j h1 h2 => ?_) (by omega)]
  · exact bitsum_lt _ _
  · rw [getD_take, if_neg (by omega)]
theorem word_take_same (bs : List Bool) (c : Nat) : word (bs.take (c + 1)) (c / 32) = word (bs.take c) (c / 32) + (if bs.getD c false = true then 2 ^ (c % 32) else 0) := by
  unfold word
  have h1 : ∀ j, j ≠ c % 32 → (bs.take (c + 1)).getD (32 * (c / 32) + j) false = (bs.take c).getD (32 * (c / 32) + j) false := fun j hj => by
    rw [getD_take, getD_take]
    by_cases h : 32 * (c / 32) + j < c
    · rw [if_pos h, if_pos (by omega)]
    · rw [if_neg h, if_neg (by omega)]
  have h2 : (bs.take c).getD (32 * (c / 32) + c % 32) false = false := by
    rw [getD_take, if_neg (by omega)]
  have h3 : (bs.take (c + 1)).getD (32 * (c / 32) + c % 32) false = bs.getD c false := by
    have e : 32 * (c / 32) + c % 32 = c := by omega
    rw [e, getD_take, if_pos (by omega)]
  have h4 := bitsum_put (p := fun j => (bs.take c).getD (32 * (c / 32) + j) false) (q := fun j => (bs.take (c + 1)).getD (32 * (c / 32) + j) false) (m := c % 32) (n := 32) (by omega) h1 h2
  rw [h4, h3]
theorem word_take_other (bs : List Bool) (c k : Nat) (hk : k ≠ c / 32) : word (bs.take (c + 1)) k = word (bs.take c) k := by
  unfold word
  refine bitsum_congr fun j hj => ?_
  rw [getD_take, getD_take]
  by_cases h : 32 * k + j < c
  · rw [if_pos h, if_pos (by omega)]
  · rw [if_neg h, if_neg (by omega)]
/-- the words of the dots ahead of place c, as many as the whole row has -/
def rowTo (bs : List Bool) (c : Nat) : List Nat := (List.range (wide bs.length)).map (word (bs.take c))
theorem rowTo_zero (bs : List Bool) : rowTo bs 0 = List.replicate (wide bs.length) 0 := by
  unfold rowTo
  refine List.ext_getElem (by simp) fun i h1 h2 => ?_
  simp [word_nil]
theorem rowTo_all (bs : List Bool) : rowTo bs bs.length = rowL bs := by
  unfold rowTo rowL
  rw [List.take_length]
theorem rowTo_length (bs : List Bool) (c : Nat) : (rowTo bs c).length = wide bs.length := by
  unfold rowTo
  simp
theorem div_lt_wide {c n : Nat} (h : c < n) : c / 32 < wide n := by
  unfold wide
  omega
theorem rowTo_get (bs : List Bool) {c k : Nat} (h : k < wide bs.length) : (rowTo bs c)[k]? = some (word (bs.take c) k) := by
  unfold rowTo
  rw [List.getElem?_map, List.getElem?_range h]
  rfl
theorem rowTo_succ (bs : List Bool) {c : Nat} : rowTo bs (c + 1) = (rowTo bs c).set (c / 32) (word (bs.take c) (c / 32) + (if bs.getD c false = true then 2 ^ (c % 32) else 0)) := by
  refine List.ext_getElem? fun k => ?_
  by_cases hk : k < wide bs.length
  · rw [rowTo_get bs hk]
    by_cases e : k = c / 32
    · subst e
      rw [List.getElem?_set_self (by rw [rowTo_length]; exact hk), word_take_same]
    · rw [List.getElem?_set_ne (fun z => e z.symm), rowTo_get bs hk, word_take_other bs c k e]
  · rw [List.getElem?_eq_none (by rw [rowTo_length]; omega), List.getElem?_eq_none (by rw [List.length_set, rowTo_length]; omega)]
/-! ### pages -/
theorem each_length (w : Nat) (f : Nat → Nat → Bool) : ∀ h, (each w h f).length = h * w
  | 0 => by simp [each]
  | h + 1 => by
    have ih := each_length w f h
    unfold each at ih ⊢
    rw [List.range_succ, List.flatMap_append, List.length_append, ih, Nat.succ_mul]
    simp
theorem each_get (w : Nat) (f : Nat → Nat → Bool) {c : Nat} (hc : c < w) : ∀ {h r : Nat}, r < h → (each w h f)[r * w + c]? = some (f c r)
  | 0, r, hr => by omega
  | h + 1, r, hr => by
    have e : each w (h + 1) f = each w h f ++ (List.range w).map fun c => f c h := by
      unfold each
      rw [List.range_succ, List.flatMap_append]
      simp
    rw [e]
    by_cases q : r < h
    · have l : r * w + c < (each w h f).length := by
        rw [each_length]
        have := Nat.mul_le_mul_right w (show r + 1 ≤ h from q)
        rw [Nat.succ_mul] at this
        omega
      rw [List.getElem?_append_left l]
      exact each_get w f hc q
    · have er : r = h := by omega
      subst er
      rw [List.getElem?_append_right (by rw [each_length]; omega), each_length, Nat.add_sub_cancel_left, List.getElem?_map, List.getElem?_range hc]
      rfl
theorem dot_each (w h : Nat) (f : Nat → Nat → Bool) (c r : Nat) : dot w h (each w h f).toArray c r = (decide (c < w) && (decide (r < h) && f c r)) := by
  unfold dot
  by_cases hc : c < w
  · by_cases hr : r < h
    · have e : (each w h f).toArray.getD (r * w + c) false = f c r := by
        rw [Array.getD_eq_getD_getElem?, List.getElem?_toArray, each_get w f hc hr]
        rfl
      rw [e]
    · simp [hr]
  · simp [hc]
theorem words_each (w h : Nat) (f : Nat → Nat → Bool) : words w h (each w h f) = (List.range h).flatMap fun r => rowL ((List.range w).map fun c => f c r) := by
  unfold words rowL
  have go : ∀ (l : List Nat) (F G : Nat → List Nat), (∀ r ∈ l, F r = G r) → l.flatMap F = l.flatMap G := by
    intro l F G hfg
    induction l with
    | nil => rfl
    | cons a l ih =>
      rw [List.flatMap_cons, List.flatMap_cons, hfg a (by simp), ih fun r hr => hfg r (by simp [hr])]
  refine go _ _ _ fun r hr => ?_
  have hr : r < h := List.mem_range.mp hr
  rw [List.length_map, List.length_range]
  refine List.map_congr_left fun k _ => ?_
  unfold word
  show bitsum (fun j => dot w h (each w h f).toArray (32 * k + j) r) 32 = _
  refine bitsum_congr fun j _ => ?_
  rw [dot_each, List.getD_eq_getElem?_getD, List.getElem?_map]
  by_cases hc : 32 * k + j < w
  · rw [List.getElem?_range hc]
    simp [hc, hr]
  · rw [List.getElem?_eq_none (by rw [List.length_range]; omega)]
    simp [hc]
/-- the bit of a row's word -/
def bitAt (x : List Nat) (w c r : Nat) : Bool := x.getD (r * wide w + c / 32) 0 / 2 ^ (c % 32) % 2 == 1
theorem page_each (w h : Nat) (x : List Nat) : page w h x = each w h (bitAt x w) := by
  unfold page each bitAt
  dsimp only
  congr 1
  funext r
  congr 1
  funext c
  rw [Array.getD_eq_getD_getElem?, List.getElem?_toArray, List.getD_eq_getElem?_getD]
theorem dot_page (w h : Nat) (x : List Nat) (c r : Nat) : dot w h (page w h x).toArray c r = (decide (c < w) && (decide (r < h) && bitAt x w c r)) := by
  rw [page_each, dot_each]
/-- what stands at a place of a page of words, white beyond -/
def at_ (x : List Nat) (w h : Nat) (c r : Int) : Bool := there w h (page w h x).toArray c r
theorem at_out {x : List Nat} {w h : Nat} {c r : Int} (q : c < 0 ∨ (w : Int) ≤ c ∨ r < 0 ∨ (h : Int) ≤ r) : at_ x w h c r = false := by
  unfold at_ there
  rw [dot_page]
  rcases q with q | q | q | q
  · simp [show ¬ (0 ≤ c) by omega]
  · simp [show ¬ (c.toNat < w) by omega]
  · simp [show ¬ (0 ≤ r) by omega]
  · simp [show ¬ (r.toNat < h) by omega]
theorem at_in {x : List Nat} {w h c r : Nat} (hc : c < w) (hr : r < h) : at_ x w h (c : Int) (r : Int) = bitAt x w c r := by
  unfold at_ there
  rw [dot_page]
  simp [hc, hr]
theorem place_lt {w h c r : Nat} (hc : c < w) (hr : r < h) : r * wide w + c / 32 < h * wide w := by
  have h1 := div_lt_wide hc
  have h2 := Nat.mul_le_mul_right (wide w) (show r + 1 ≤ h from hr)
  rw [Nat.succ_mul] at h2
  omega
theorem flatMap_congr' {α β : Type} {l : List α} {F G : α → List β} (hfg : ∀ r ∈ l, F r = G r) : l.flatMap F = l.flatMap G := by
  induction l with
  | nil => rfl
  | cons a l ih =>
    rw [List.flatMap_cons, List.flatMap_cons, hfg a (by simp), ih fun r hr => hfg r (by simp [hr])]
/-- the rows of an answer -/
def rowsOf (w h : Nat) (g : Nat → Nat → Bool) : List Nat := (List.range h).flatMap fun r => rowL ((List.range w).map fun c => g c r)
theorem rowsOf_succ (w h : Nat) (g : Nat → Nat → Bool) : rowsOf w (h + 1) g = rowsOf w h g ++ rowL ((List.range w).map fun c => g c h) := by
  unfold rowsOf
  rw [List.range_succ, List.flatMap_append]
  simp
theorem rowsOf_length (w : Nat) (g : Nat → Nat → Bool) : ∀ h, (rowsOf w h g).length = h * wide w
  | 0 => by simp [rowsOf]
  | h + 1 => by
    rw [rowsOf_succ, List.length_append, rowsOf_length w g h, rowL_length, Nat.succ_mul]
    simp
theorem one_each (w h : Nat) (g : Nat → Nat → Bool) : Sh57Neutral.told (one w h (each w h g)) = 0 :: (rowsOf w h g).map Int.ofNat := by
  unfold one
  rw [words_each]
  rfl
/-! ### the calls of stage 1 -/
def kOf (k : Int) : Int := Sh57Neutral.int32 k.toNat
def okS (k d w h : Int) : Bool := shearOk (kOf k) d.toNat w.toNat h.toNat
def natsOf (x : List Int) : List Nat := Sh57Neutral.nats x
theorem kOf_eq {k : Int} (h : 0 ≤ k) : kOf k = if k < 2147483648 then k else k - 4294967296 := by
  unfold kOf Sh57Neutral.int32
  by_cases q : k < 2147483648
  · rw [if_pos q, if_pos (show k.toNat < 2 ^ 31 by omega)]
    omega
  · rw [if_neg q, if_neg (show ¬ k.toNat < 2 ^ 31 by omega)]
    omega
theorem okS_iff {k d w h : Int} (hd : 0 ≤ d) (hw : 0 ≤ w) (hh : 0 ≤ h) : okS k d w h = true ↔ (-4096 ≤ kOf k ∧ kOf k ≤ 4096) ∧ (1 ≤ d ∧ d ≤ 4096) ∧ (1 ≤ w ∧ w ≤ 256) ∧ (1 ≤ h ∧ h ≤ 256) := by
  unfold okS shearOk sized among
  simp only [Bool.and_eq_true, decide_eq_true_eq]
  omega
def shearG (x : List Nat) (k : Int) (d w h : Nat) (c r : Nat) : Bool := at_ x w h (c : Int) ((r : Int) - shift w k d c)
def slantG (x : List Nat) (k : Int) (d w h : Nat) (c r : Nat) : Bool := at_ x w h ((c : Int) - shift h k d r) (r : Int)
def rollG (x : List Nat) (k : Int) (d w h : Nat) (c r : Nat) : Bool := at_ x w h (c : Int) (((r : Int) - shift w k d c) % (h : Int))
theorem shear_bad {k d w h : Int} {x : List Int} (q : okS k d w h = false) : PySh57.st_shear k d w h x = [-2] := by
  show Sh57Neutral.told (answer (if okS k d w h = true then _ else .bad)) = _
  rw [q]
  rfl
theorem slant_bad {k d w h : Int} {x : List Int} (q : okS k d w h = false) : PySh57.st_slant k d w h x = [-2] := by
  show Sh57Neutral.told (answer (if okS k d w h = true then _ else .bad)) = _
  rw [q]
  rfl
theorem roll_bad {k d w h : Int} {x : List Int} (q : okS k d w h = false) : PySh57.st_roll k d w h x = [-2] := by
  show Sh57Neutral.told (answer (if okS k d w h = true then _ else .bad)) = _
  rw [q]
  rfl
theorem shear_ok {k d w h : Int} {x : List Int} (q : okS k d w h = true) : PySh57.st_shear k d w h x = 0 :: (rowsOf w.toNat h.toNat (shearG (natsOf x) (kOf k) d.toNat w.toNat h.toNat)).map Int.ofNat := by
  show Sh57Neutral.told (answer (if okS k d w h = true then .shear (kOf k) d.toNat w.toNat h.toNat (natsOf x) else .bad)) = _
  rw [q, if_pos rfl]
  exact one_each _ _ _
theorem slant_ok {k d w h : Int} {x : List Int} (q : okS k d w h = true) : PySh57.st_slant k d w h x = 0 :: (rowsOf w.toNat h.toNat (slantG (natsOf x) (kOf k) d.toNat w.toNat h.toNat)).map Int.ofNat := by
  show Sh57Neutral.told (answer (if okS k d w h = true then .slant (kOf k) d.toNat w.toNat h.toNat (natsOf x) else .bad)) = _
  rw [q, if_pos rfl]
  exact one_each _ _ _
theorem roll_at {x : List Nat} {k : Int} {d w h c r : Nat} (hh : 0 < h) : dot w h (page w h x).toArray c (((r : Int) - shift w k d c) % (h : Int)).toNat = rollG x k d w h c r := by
  unfold rollG at_ there
  have h1 : (0 : Int) ≤ ((r : Int) - shift w k d c) % (h : Int) := Int.emod_nonneg _ (by omega)
  simp [h1]
theorem roll_ok {k d w h : Int} {x : List Int} (q : okS k d w h = true) (hh : 0 < h.toNat) : PySh57.st_roll k d w h x = 0 :: (rowsOf w.toNat h.toNat (rollG (natsOf x) (kOf k) d.toNat w.toNat h.toNat)).map Int.ofNat := by
  show Sh57Neutral.told (answer (if okS k d w h = true then .roll (kOf k) d.toNat w.toNat h.toNat (natsOf x) else .bad)) = _
  rw [q, if_pos rfl]
  refine (one_each _ _ _).trans ?_
  have e : (fun (c r : Nat) => dot w.toNat h.toNat (page w.toNat h.toNat (natsOf x)).toArray c (((r : Int) - shift w.toNat (kOf k) d.toNat c) % (h.toNat : Int)).toNat) = rollG (natsOf x) (kOf k) d.toNat w.toNat h.toNat := by
    funext c r
    exact roll_at hh
  show 0 :: List.map Int.ofNat (rowsOf w.toNat h.toNat (fun (c r : Nat) => dot w.toNat h.toNat (page w.toNat h.toNat (natsOf x)).toArray c (((r : Int) - shift w.toNat (kOf k) d.toNat c) % (h.toNat : Int)).toNat)) = _
  rw [e]
/-- what is asked of a page's call: the list's length where its numbers are in their ranges -/
theorem asked_len {n : Int} {k d w h : Int} {x : List Int} (hn : n = 0 ∨ n = 1 ∨ n = 2 ∨ n = 3) (q : Sh57Neutral.asked [[n, k, d, w, h], x] = true) (ok : okS k d w h = true) : x.length = h.toNat * wide w.toNat := by
  have q1 : Sh57Neutral.asked1 [[n, k, d, w, h], x] = true := by
    unfold Sh57Neutral.asked at q
    rw [Bool.and_eq_true] at q
    exact q.1
  have q2 : (if okS k d w h = true then x.length == h.toNat * ((w.toNat + 31) / 32) else (x.isEmpty) || (x.length == h.toNat * ((w.toNat + 31) / 32))) = true := by
    rcases hn with rfl | rfl | rfl | rfl <;>
    · simp only [Sh57Neutral.asked1, Bool.and_eq_true] at q1
      exact q1.2.2.2.2.2
  rw [ok, if_pos rfl] at q2
  exact eq_of_beq q2
end Pg
/-! Counts, sharpness, the straightest shear, gaps, bands, margins, by recursions and by what tells them apart. Plain Lean alone. -/
namespace Pg
open Sh57
/-! ### counts -/
def cnt (bs : List Bool) : Nat := many bs
theorem cnt_nil : cnt [] = 0 := rfl
theorem cnt_snoc (bs : List Bool) (b : Bool) : cnt (bs ++ [b]) = cnt bs + (if b = true then 1 else 0) := by
  unfold cnt many
  rw [List.filter_append, List.length_append]
  cases b <;> rfl
theorem cnt_le (bs : List Bool) : cnt bs ≤ bs.length := List.length_filter_le _ _
theorem cnt_range_succ (g : Nat → Bool) (n : Nat) : cnt ((List.range (n + 1)).map g) = cnt ((List.range n).map g) + (if g n = true then 1 else 0) := by
  rw [List.range_succ, List.map_append]
  exact cnt_snoc _ _
theorem rowCounts_each (w h : Nat) (g : Nat → Nat → Bool) : rowCounts w h (each w h g) = (List.range h).map fun r => cnt ((List.range w).map fun c => g c r) := by
  unfold rowCounts cnt
  dsimp only
  refine List.map_congr_left fun r hr => ?_
  have hr : r < h := List.mem_range.mp hr
  congr 1
  refine List.map_congr_left fun c hc => ?_
  have hc : c < w := List.mem_range.mp hc
  rw [dot_each]
  simp [hc, hr]
theorem columnCounts_each (w h : Nat) (g : Nat → Nat → Bool) : columnCounts w h (each w h g) = (List.range w).map fun c => cnt ((List.range h).map fun r => g c r) := by
  unfold columnCounts cnt
  dsimp only
  refine List.map_congr_left fun c hc => ?_
  have hc : c < w := List.mem_range.mp hc
  congr 1
  refine List.map_congr_left fun r hr => ?_
  have hr : r < h := List.mem_range.mp hr
  rw [dot_each]
  simp [hc, hr]
def countsOf (w h : Nat) (g : Nat → Nat → Bool) : List Nat := (List.range h).map fun r => cnt ((List.range w).map fun c => g c r)
theorem shearCounts_at (w h : Nat) (k : Int) (d : Nat) (x : List Nat) : shearCounts w h k d (page w h x) = countsOf w h (shearG x k d w h) := by
  unfold shearCounts sheared
  exact rowCounts_each w h _
theorem rowCounts_page (w h : Nat) (x : List Nat) : rowCounts w h (page w h x) = countsOf w h (bitAt x w) := by
  rw [page_each]
  exact rowCounts_each w h _
theorem columnCounts_page (w h : Nat) (x : List Nat) : columnCounts w h (page w h x) = (List.range w).map fun c => cnt ((List.range h).map fun r => bitAt x w c r) := by
  rw [page_each]
  exact columnCounts_each w h _
theorem countsOf_length (w h : Nat) (g : Nat → Nat → Bool) : (countsOf w h g).length = h := by
  unfold countsOf
  rw [List.length_map, List.length_range]
theorem countsOf_le {w h : Nat} {g : Nat → Nat → Bool} {n : Nat} (hn : n ∈ countsOf w h g) : n ≤ w := by
  unfold countsOf at hn
  obtain ⟨r, _, rfl⟩ := List.mem_map.mp hn
  have := cnt_le ((List.range w).map fun c => g c r)
  rw [List.length_map, List.length_range] at this
  exact this
/-! ### sharpness -/
def sq (a b : Nat) : Nat := (max a b - min a b) * (max a b - min a b)
theorem sq_int (a b : Nat) : ((sq a b : Nat) : Int) = ((b : Int) - (a : Int)) * ((b : Int) - (a : Int)) := by
  unfold sq
  by_cases h : a ≤ b
  · rw [Nat.max_eq_right h, Nat.min_eq_left h, Int.natCast_mul, Int.natCast_sub h]
  · have h : b ≤ a := by omega
    rw [Nat.max_eq_left h, Nat.min_eq_right h, Int.natCast_mul, Int.natCast_sub h]
    have e : ((b : Int) - (a : Int)) = -((a : Int) - (b : Int)) := by omega
    rw [e, Int.neg_mul_neg]
theorem sq_comm (a b : Nat) : sq a b = sq b a := by
  unfold sq
  rw [Nat.max_comm, Nat.min_comm]
theorem sharp_nil : sharp [] = 0 := rfl
theorem sharp_one (a : Nat) : sharp [a] = 0 := rfl
theorem sharp_cons (a b : Nat) (l : List Nat) : sharp (a :: b :: l) = sq a b + sharp (b :: l) := by
  unfold sharp sq
  simp [List.sum_cons]
/-- one more at the end -/
theorem sharp_snoc : ∀ (l : List Nat) (a b : Nat), sharp (l ++ [a, b]) = sharp (l ++ [a]) + sq a b
  | [], a, b => by
    show sharp [a, b] = sharp [a] + sq a b
    rw [sharp_cons, sharp_one, sharp_one, Nat.zero_add, Nat.add_zero]
  | [c], a, b => by
    show sharp [c, a, b] = sharp [c, a] + sq a b
    rw [sharp_cons, sharp_cons, sharp_cons, sharp_one, sharp_one]
    omega
  | c :: d :: l, a, b => by
    have ih := sharp_snoc (d :: l) a b
    show sharp (c :: d :: (l ++ [a, b])) = sharp (c :: d :: (l ++ [a])) + sq a b
    rw [sharp_cons, sharp_cons, show d :: (l ++ [a, b]) = (d :: l) ++ [a, b] from rfl, ih]
    show sq c d + (sharp (d :: (l ++ [a])) + sq a b) = _
    omega
theorem take_succ_of {α : Type} {l : List α} {i : Nat} {x : α} (h : l[i]? = some x) : l.take (i + 1) = l.take i ++ [x] := by
  rw [List.take_add_one, h]
  rfl
/-- how sharp the first i + 2 are -/
theorem sharp_take {l : List Nat} {i a b : Nat} (ha : l[i]? = some a) (hb : l[i + 1]? = some b) : sharp (l.take (i + 2)) = sharp (l.take (i + 1)) + sq a b := by
  rw [take_succ_of hb, take_succ_of ha, List.append_assoc]
  exact sharp_snoc _ _ _
theorem sharp_take_one (l : List Nat) : sharp (l.take 1) = 0 := by
  cases l with
  | nil => rfl
  | cons a l => rfl
theorem sharp_take_zero (l : List Nat) : sharp (l.take 0) = 0 := rfl
theorem sq_le {a b m : Nat} (ha : a ≤ m) (hb : b ≤ m) : sq a b ≤ m * m := by
  unfold sq
  exact Nat.mul_le_mul (by omega) (by omega)
theorem sharp_le {m : Nat} : ∀ (l : List Nat), (∀ n ∈ l, n ≤ m) → sharp l ≤ l.length * (m * m)
  | [], _ => Nat.zero_le _
  | [a], _ => Nat.zero_le _
  | a :: b :: l, h => by
    have ih := sharp_le (b :: l) fun n hn => h n (List.mem_cons_of_mem _ hn)
    have q := sq_le (h a (by simp)) (h b (by simp))
    rw [sharp_cons, List.length_cons, Nat.succ_mul]
    omega
/-! ### the straightest -/
theorem nearer_iff (a b : Int) : nearer a b = true ↔ a.natAbs < b.natAbs ∨ (a.natAbs = b.natAbs ∧ a < b) := by
  unfold nearer
  simp
theorem nearer_irrefl (a : Int) : nearer a a = false := by
  cases h : nearer a a with
  | false => rfl
  | true =>
    have := (nearer_iff a a).mp h
    omega
theorem nearer_total {a b : Int} (h : a ≠ b) : nearer a b = true ∨ nearer b a = true := by
  rw [nearer_iff, nearer_iff]
  omega
/-- (k, s) goes ahead of b -/
def ahead (b : Int × Nat) (k : Int) (s : Nat) : Prop := b.2 < s ∨ (b.2 = s ∧ nearer k b.1 = true)
instance (b : Int × Nat) (k : Int) (s : Nat) : Decidable (ahead b k s) := by
  unfold ahead
  exact inferInstance
/-- the best of a list of shears, S telling how sharp each is -/
def bestOf (S : Int → Nat) (l : List Int) (b : Int × Nat) : Int × Nat := l.foldl (fun b k => if ahead b k (S k) then (k, S k) else b) b
structure Best (S : Int → Nat) (p : Int → Prop) (b : Int × Nat) : Prop where
  mem : p b.1
  val : b.2 = S b.1
  top : ∀ k, p k → ¬ ahead b k (S k)
theorem Best.unique {S : Int → Nat} {p : Int → Prop} {a b : Int × Nat} (A : Best S p a) (B : Best S p b) : a = b := by
  have h1 := A.top b.1 B.mem
  have h2 := B.top a.1 A.mem
  unfold ahead at h1 h2
  rw [← B.val] at h1
  rw [← A.val] at h2
  have e2 : a.2 = b.2 := by omega
  have e1 : a.1 = b.1 := Decidable.byContradiction fun z => by
    rcases nearer_total z with q | q
    · exact h2 (.inr ⟨e2.symm, q⟩)
    · exact h1 (.inr ⟨e2, q⟩)
  exact Prod.ext e1 e2
theorem ahead_trans {S : Int → Nat} {b : Int × Nat} {j k : Int} (h1 : ahead b j (S j)) (h2 : ahead (j, S j) k (S k)) : ahead b k (S k) := by
  unfold ahead at *
  rcases h1 with h1 | ⟨h1, h3⟩ <;> rcases h2 with h2 | ⟨h2, h4⟩
  · exact .inl (Nat.lt_trans h1 h2)
  · exact .inl (by
      have : S j = S k := h2
      omega)
  · exact .inl (by
      have : S j < S k := h2
      omega)
  · refine .inr ⟨h1.trans h2, ?_⟩
    rw [nearer_iff] at *
    have h4 : k.natAbs < j.natAbs ∨ k.natAbs = j.natAbs ∧ k < j := h4
    omega
theorem Best.one {S : Int → Nat} (k : Int) : Best S (fun j => j = k) (k, S k) := ⟨rfl, rfl, fun j e => by
  subst e
  unfold ahead
  rw [nearer_irrefl]
  simp⟩
theorem Best.step {S : Int → Nat} {p : Int → Prop} {b : Int × Nat} (B : Best S p b) (k : Int) : Best S (fun j => p j ∨ j = k) (if ahead b k (S k) then (k, S k) else b) := by
  by_cases h : ahead b k (S k)
  · rw [if_pos h]
    refine ⟨.inr rfl, rfl, fun j hj z => ?_⟩
    rcases hj with hj | rfl
    · exact B.top j hj (ahead_trans h z)
    · unfold ahead at z
      rw [nearer_irrefl] at z
      simp at z
  · rw [if_neg h]
    refine ⟨.inl B.mem, B.val, fun j hj => ?_⟩
    rcases hj with hj | rfl
    · exact B.top j hj
    · exact h
theorem Best.congr {S : Int → Nat} {p q : Int → Prop} {b : Int × Nat} (B : Best S p b) (h : ∀ k, p k ↔ q k) : Best S q b := ⟨(h _).mp B.mem, B.val, fun k hk => B.top k ((h k).mpr hk)⟩
theorem Best.run {S : Int → Nat} : ∀ (l : List Int) {p : Int → Prop} {b : Int × Nat}, Best S p b → Best S (fun k => p k ∨ k ∈ l) (bestOf S l b)
  | [], p, b, B => B.congr fun k => by simp
  | j :: l, p, b, B => by
    refine (Best.run l (B.step j)).congr fun k => ?_
    simp only [List.mem_cons]
    constructor
    · rintro ((h | h) | h)
      · exact .inl h
      · exact .inr (.inl h)
      · exact .inr (.inr h)
    · rintro (h | h | h)
      · exact .inl (.inl h)
      · exact .inl (.inr h)
      · exact .inr h
/-- how sharp the counts of a shear by k are -/
def sharpBy (w h d : Nat) (x : List Nat) (k : Int) : Nat := sharp (countsOf w h (shearG x k d w h))
theorem shift_zero {w d c : Nat} (hd : 1 ≤ d) : shift w 0 d c = 0 := by
  unfold shift
  rw [Int.zero_mul, Int.zero_add, Int.fdiv_eq_ediv_of_nonneg _ (by omega)]
  exact Int.ediv_eq_zero_of_lt (by omega) (by omega)
theorem shearG_zero {x : List Nat} {d w h c r : Nat} (hd : 1 ≤ d) (hc : c < w) (hr : r < h) : shearG x 0 d w h c r = bitAt x w c r := by
  unfold shearG
  rw [shift_zero hd, Int.sub_zero, at_in hc hr]
theorem sharpBy_zero {w h d : Nat} {x : List Nat} (hd : 1 ≤ d) : sharpBy w h d x 0 = sharp (rowCounts w h (page w h x)) := by
  unfold sharpBy
  rw [rowCounts_page]
  congr 1
  unfold countsOf
  refine List.map_congr_left fun r hr => ?_
  have hr : r < h := List.mem_range.mp hr
  congr 1
  refine List.map_congr_left fun c hc => ?_
  have hc : c < w := List.mem_range.mp hc
  exact shearG_zero hd hc hr
theorem straightest_best {w h m d : Nat} {x : List Nat} (hd : 1 ≤ d) : Best (sharpBy w h d x) (fun k => k.natAbs ≤ m) (straightest w h m d (page w h x)) := by
  have e : straightest w h m d (page w h x) = bestOf (sharpBy w h d x) ((List.range (2 * m + 1)).map fun (j : Nat) => (j : Int) - (m : Int)) (0, sharpBy w h d x 0) := by
    unfold straightest bestOf
    rw [List.foldl_map, sharpBy_zero hd]
    congr 1
    funext b j
    dsimp only
    rw [shearCounts_at]
    rfl
  rw [e]
  refine (Best.run _ (Best.one 0)).congr fun k => ?_
  rw [List.mem_map]
  constructor
  · rintro (h | ⟨j, hj, rfl⟩)
    · rw [h]
      exact Nat.zero_le _
    · have := List.mem_range.mp hj
      omega
  · intro h
    exact .inr ⟨(k + (m : Int)).toNat, List.mem_range.mpr (by omega), by omega⟩
/-! ### gaps -/
def gapStep (most : Nat) (g : List (Nat × Nat)) (a : Nat × Nat) : List (Nat × Nat) := if most < a.1 then g else match g with
  | [] => [(a.2, 1)]
  | p :: q => if p.1 + p.2 = a.2 then (p.1, p.2 + 1) :: q else (a.2, 1) :: g
/-- the gaps among the first i, the last first -/
def gapsTo (most : Nat) (l : List Nat) (i : Nat) : List (Nat × Nat) := (l.zipIdx.take i).foldl (gapStep most) []
theorem gaps_eq (most : Nat) (l : List Nat) : gaps most l = (gapsTo most l l.length).reverse := by
  unfold gapsTo
  rw [List.take_of_length_le (by rw [List.length_zipIdx]; exact Nat.le_refl _)]
  rfl
theorem gapsTo_zero (most : Nat) (l : List Nat) : gapsTo most l 0 = [] := rfl
theorem gapsTo_succ {most : Nat} {l : List Nat} {i a : Nat} (h : l[i]? = some a) : gapsTo most l (i + 1) = gapStep most (gapsTo most l i) (a, i) := by
  unfold gapsTo
  have e : l.zipIdx[i]? = some (a, i) := by
    rw [List.getElem?_zipIdx, h]
    simp
  rw [take_succ_of e, List.foldl_append]
  rfl
theorem gapsTo_above {most : Nat} {l : List Nat} {i a : Nat} (h : l[i]? = some a) (q : most < a) : gapsTo most l (i + 1) = gapsTo most l i := by
  rw [gapsTo_succ h]
  unfold gapStep
  rw [if_pos q]
/-- the last gap ends at i just where the number ahead of i isn't above most -/
def Open (most : Nat) (l : List Nat) (i : Nat) : Prop := ∃ a, 0 < i ∧ l[i - 1]? = some a ∧ a ≤ most
theorem gapsTo_ends {most : Nat} {l : List Nat} : ∀ {i : Nat}, i ≤ l.length → (∀ p ∈ gapsTo most l i, 1 ≤ p.2 ∧ p.1 + p.2 ≤ i) ∧ (Open most l i → ∃ s n q, gapsTo most l i = (s, n) :: q ∧ s + n = i) ∧ (¬ Open most l i → ∀ p ∈ gapsTo most l i, p.1 + p.2 < i ∨ i = 0)
  | 0, _ => ⟨fun p hp => by simp [gapsTo_zero] at hp, fun ⟨a, h, _⟩ => absurd h (by omega), fun _ p hp => by simp [gapsTo_zero] at hp⟩
  | i + 1, hi => by
    have ih := gapsTo_ends (most := most) (l := l) (i := i) (by omega)
    obtain ⟨a, ha⟩ : ∃ a, l[i]? = some a := ⟨_, List.getElem?_eq_getElem (by omega)⟩
    have op : Open most l (i + 1) ↔ a ≤ most := by
      unfold Open
      constructor
      · rintro ⟨b, _, hb, h⟩
        have e : b = a := Option.some.inj (hb.symm.trans ha)
        rw [← e]
        exact h
      · exact fun h => ⟨a, by omega, ha, h⟩
    by_cases q : most < a
    · rw [gapsTo_above ha q]
      refine ⟨fun p hp => ⟨(ih.1 p hp).1, Nat.le_succ_of_le (ih.1 p hp).2⟩, fun z => absurd (op.mp z) (by omega), fun _ p hp => .inl (Nat.lt_succ_of_le (ih.1 p hp).2)⟩
    · rw [gapsTo_succ ha]
      unfold gapStep
      rw [if_neg q]
      have hop : Open most l (i + 1) := op.mpr (by omega)
      cases e : gapsTo most l i with
      | nil =>
        refine ⟨fun p hp => ?_, fun _ => ⟨i, 1, [], rfl, rfl⟩, fun z => absurd hop z⟩
        have hp : p = (i, 1) := by simpa using hp
        subst hp
        exact ⟨Nat.le_refl _, Nat.le_refl _⟩
      | cons p q2 =>
        rw [e] at ih
        dsimp only
        by_cases z : p.1 + p.2 = i
        · rw [if_pos z]
          refine ⟨fun r hr => ?_, fun _ => ⟨p.1, p.2 + 1, q2, rfl, by omega⟩, fun z => absurd hop z⟩
          rcases List.mem_cons.mp hr with rfl | hr
          · exact ⟨by show 1 ≤ p.2 + 1; omega, by show p.1 + (p.2 + 1) ≤ i + 1; omega⟩
          · have := ih.1 r (List.mem_cons_of_mem _ hr)
            exact ⟨this.1, by omega⟩
        · rw [if_neg z]
          refine ⟨fun r hr => ?_, fun _ => ⟨i, 1, _, rfl, rfl⟩, fun z => absurd hop z⟩
          rcases List.mem_cons.mp hr with rfl | hr
          · exact ⟨Nat.le_refl _, Nat.le_refl _⟩
          · have := ih.1 r hr
            exact ⟨this.1, by omega⟩
/-- a gap begins at i -/
theorem gapsTo_new {most : Nat} {l : List Nat} {i a : Nat} (h : l[i]? = some a) (q : a ≤ most) (n : ¬ Open most l i) : gapsTo most l (i + 1) = (i, 1) :: gapsTo most l i := by
  have hi : i < l.length := (List.getElem?_eq_some_iff.mp h).1
  have E := (gapsTo_ends (most := most) (l := l) (i := i) (by omega))
  rw [gapsTo_succ h]
  unfold gapStep
  rw [if_neg (by show ¬ most < a; omega)]
  cases e : gapsTo most l i with
  | nil => rfl
  | cons p r =>
    dsimp only
    have h1 := E.1 p (by rw [e]; simp)
    have h2 := E.2.2 n p (by rw [e]; simp)
    rw [if_neg (by omega)]
/-- the open gap goes on -/
theorem gapsTo_on {most : Nat} {l : List Nat} {i a s n : Nat} {r : List (Nat × Nat)} (h : l[i]? = some a) (q : a ≤ most) (e : gapsTo most l i = (s, n) :: r) (z : s + n = i) : gapsTo most l (i + 1) = (s, n + 1) :: r := by
  rw [gapsTo_succ h, e]
  unfold gapStep
  rw [if_neg (by show ¬ most < a; omega)]
  dsimp only
  rw [if_pos z]
theorem gapsTo_length_le {most : Nat} {l : List Nat} : ∀ {i : Nat}, i ≤ l.length → (gapsTo most l i).length ≤ i
  | 0, _ => Nat.le_refl _
  | i + 1, hi => by
    have ih := gapsTo_length_le (most := most) (l := l) (i := i) (by omega)
    obtain ⟨a, ha⟩ : ∃ a, l[i]? = some a := ⟨_, List.getElem?_eq_getElem (by omega)⟩
    rw [gapsTo_succ ha]
    unfold gapStep
    split
    · omega
    · split
      · exact Nat.succ_le_succ (Nat.zero_le _)
      · rename_i p q e
        rw [e, List.length_cons] at ih
        split
        · rw [List.length_cons]
          omega
        · rw [e, List.length_cons, List.length_cons]
          omega
/-! ### bands -/
def piece (b e : Nat) : List (Nat × Nat) := if b < e then [(b, e - b)] else []
def bandsFrom (n : Nat) : Nat → List (Nat × Nat) → List (Nat × Nat)
  | b, [] => piece b n
  | b, g :: r => piece b g.1 ++ bandsFrom n (g.1 + g.2) r
theorem bandsFrom_eq (n : Nat) : ∀ (cuts : List (Nat × Nat)) (b : Nat), ((((b :: cuts.map fun g => g.1 + g.2).zip ((cuts.map fun g => g.1) ++ [n])).filter fun p => decide (p.1 < p.2)).map fun p => (p.1, p.2 - p.1)) = bandsFrom n b cuts
  | [], b => by
    show (([(b, n)].filter fun p => decide (p.1 < p.2)).map fun p => (p.1, p.2 - p.1)) = piece b n
    unfold piece
    by_cases h : b < n <;> simp [h]
  | g :: r, b => by
    have ih := bandsFrom_eq n r (g.1 + g.2)
    show ((((b, g.1) :: ((g.1 + g.2) :: r.map fun g => g.1 + g.2).zip ((r.map fun g => g.1) ++ [n])).filter fun p => decide (p.1 < p.2)).map fun p => (p.1, p.2 - p.1)) = piece b g.1 ++ bandsFrom n (g.1 + g.2) r
    rw [← ih, List.filter_cons]
    unfold piece
    by_cases h : b < g.1
    · simp [h]
    · simp [h]
theorem bands_eq (most least : Nat) (l : List Nat) : bands most least l = bandsFrom l.length 0 ((gaps most l).filter fun g => decide (least ≤ g.2)) := by
  unfold bands
  exact bandsFrom_eq l.length _ 0
/-! ### margins -/
theorem margin_is {most : Nat} : ∀ {l : List Nat} {j : Nat}, j ≤ l.length → (∀ i a, i < j → l[i]? = some a → a ≤ most) → (∀ a, l[j]? = some a → most < a) → margin most l = j
  | [], j, h, _, _ => by
    have e : j = 0 := by simpa using h
    rw [e]
    rfl
  | b :: l, 0, _, _, h2 => by
    have := h2 b rfl
    unfold margin
    rw [List.takeWhile_cons, if_neg (by simp; omega)]
    rfl
  | b :: l, j + 1, h, h1, h2 => by
    have hb := h1 0 b (by omega) rfl
    have ih := margin_is (most := most) (l := l) (j := j) (by simpa using h) (fun i a hi ha => h1 (i + 1) a (by omega) ha) (fun a ha => h2 a ha)
    unfold margin at *
    rw [List.takeWhile_cons, if_pos (by simp; omega), List.length_cons, ih]
theorem margin_all {most : Nat} {l : List Nat} (h : ∀ a ∈ l, a ≤ most) : margin most l = l.length :=
  margin_is (Nat.le_refl _) (fun i a _ ha => h a (List.mem_of_getElem? ha)) fun a ha => by
    rw [List.getElem?_eq_none (Nat.le_refl _)] at ha
    cases ha
end Pg
/-! Columns of dots, and what a shear makes of them. Plain Lean alone. -/
namespace Pg
open Sh57
theorem range_snoc {α : Type} (f : Nat → α) (n : Nat) : (List.range (n + 1)).map f = (List.range n).map f ++ [f n] := by
  rw [List.range_succ, List.map_append]
  rfl
/-- the rows of the dots of column c -/
def dotsIn (x : List Nat) (w h c : Nat) : List Nat := (List.range h).filter fun r => at_ x w h (c : Int) (r : Int)
def colsOf (x : List Nat) (w h : Nat) : List (List Nat) := (List.range w).map (dotsIn x w h)
theorem colsOf_length (x : List Nat) (w h : Nat) : (colsOf x w h).length = w := by
  unfold colsOf
  rw [List.length_map, List.length_range]
theorem filter_range_succ (p : Nat → Bool) (n : Nat) : (List.range (n + 1)).filter p = (List.range n).filter p ++ (if p n = true then [n] else []) := by
  rw [List.range_succ, List.filter_append]
  congr 1
  by_cases h : p n = true
  · rw [if_pos h, List.filter_cons, if_pos h]
    rfl
  · rw [if_neg h, List.filter_cons, if_neg h]
    rfl
theorem filter_range_len (p : Nat → Bool) (n : Nat) : ((List.range n).filter p).length ≤ n := by
  have := List.length_filter_le p (List.range n)
  rw [List.length_range] at this
  exact this
/-- how many of l are moved by s to row j -/
def hits (s : Int) (l : List Nat) (j : Nat) : Nat := l.countP fun (r : Nat) => decide ((r : Int) + s = (j : Int))
theorem hits_nil (s : Int) (j : Nat) : hits s [] j = 0 := rfl
theorem hits_snoc (s : Int) (l : List Nat) (r j : Nat) : hits s (l ++ [r]) j = hits s l j + (if (r : Int) + s = (j : Int) then 1 else 0) := by
  unfold hits
  rw [List.countP_append, List.countP_singleton]
  by_cases h : (r : Int) + s = (j : Int) <;> simp [h]
theorem hits_le (s : Int) (l : List Nat) (j : Nat) : hits s l j ≤ l.length := List.countP_le_length
/-- .. of the first n columns -/
def tally (S : Nat → Int) (cs : List (List Nat)) (n j : Nat) : Nat := ((List.range n).map fun c => hits (S c) (cs.getD c []) j).sum
theorem tally_zero (S : Nat → Int) (cs : List (List Nat)) (j : Nat) : tally S cs 0 j = 0 := rfl
theorem tally_succ (S : Nat → Int) (cs : List (List Nat)) (n j : Nat) : tally S cs (n + 1) j = tally S cs n j + hits (S n) (cs.getD n []) j := by
  unfold tally
  rw [range_snoc, List.sum_append, List.sum_cons, List.sum_nil, Nat.add_zero]
theorem countP_one (p : Nat → Bool) (z : Int) : ∀ n : Nat, ((List.range n).filter p).countP (fun (r : Nat) => decide ((r : Int) = z)) = if 0 ≤ z ∧ z < (n : Int) ∧ p z.toNat = true then 1 else 0
  | 0 => by
    rw [if_neg (by omega)]
    rfl
  | n + 1 => by
    rw [filter_range_succ, List.countP_append, countP_one p z n]
    by_cases e : (n : Int) = z
    · have e2 : z.toNat = n := by omega
      rw [if_neg (by omega), e2]
      by_cases q : p n = true
      · rw [if_pos q, if_pos ⟨by omega, by omega, q⟩, List.countP_singleton]
        simp [e]
      · rw [if_neg q, if_neg (by intro z; exact q z.2.2)]
        rfl
    · have e3 : (if p n = true then [n] else []).countP (fun (r : Nat) => decide ((r : Int) = z)) = 0 := by
        split
        · rw [List.countP_singleton]
          simp [e]
        · rfl
      rw [e3, Nat.add_zero]
      by_cases q : 0 ≤ z ∧ z < (n : Int) ∧ p z.toNat = true
      · rw [if_pos q, if_pos ⟨q.1, by omega, q.2.2⟩]
      · rw [if_neg q, if_neg (by intro y; exact q ⟨y.1, by omega, y.2.2⟩)]
theorem hits_dots (x : List Nat) (w h c : Nat) (s : Int) (j : Nat) : hits s (dotsIn x w h c) j = if at_ x w h (c : Int) ((j : Int) - s) = true then 1 else 0 := by
  unfold hits dotsIn
  have e : (fun r : Nat => decide ((r : Int) + s = (j : Int))) = fun r : Nat => decide ((r : Int) = (j : Int) - s) := by
    funext r
    exact decide_eq_decide.mpr ⟨fun z => by omega, fun z => by omega⟩
  rw [e, countP_one]
  by_cases q : 0 ≤ (j : Int) - s ∧ (j : Int) - s < (h : Int)
  · have e2 : (((j : Int) - s).toNat : Int) = (j : Int) - s := by omega
    rw [e2]
    by_cases p : at_ x w h (c : Int) ((j : Int) - s) = true
    · rw [if_pos p, if_pos ⟨q.1, q.2, p⟩]
    · rw [if_neg p, if_neg (fun z => p z.2.2)]
  · rw [if_neg (fun z => q ⟨z.1, z.2.1⟩), at_out (by omega), if_neg (by simp)]
theorem tally_cols (x : List Nat) (w h : Nat) (S : Nat → Int) (j : Nat) : ∀ n, n ≤ w → tally S (colsOf x w h) n j = cnt ((List.range n).map fun (c : Nat) => at_ x w h (c : Int) ((j : Int) - S c))
  | 0, _ => rfl
  | n + 1, hn => by
    rw [tally_succ, tally_cols x w h S j n (by omega), cnt_range_succ]
    congr 1
    have e : (colsOf x w h).getD n [] = dotsIn x w h n := by
      unfold colsOf
      rw [List.getD_eq_getElem?_getD, List.getElem?_map, List.getElem?_range (by omega)]
      rfl
    rw [e, hits_dots]
theorem tally_shear (x : List Nat) (k : Int) (d w h : Nat) : ((List.range h).map fun (j : Nat) => tally (fun c => shift w k d c) (colsOf x w h) w j) = countsOf w h (shearG x k d w h) := by
  unfold countsOf
  refine List.map_congr_left fun j _ => ?_
  rw [tally_cols x w h _ j w (Nat.le_refl _)]
  rfl
theorem set_range_map {α : Type} {h j : Nat} (f : Nat → α) (v : α) : ((List.range h).map f).set j v = (List.range h).map fun i => if i = j then v else f i := by
  apply List.ext_getElem?
  intro i
  rw [List.getElem?_set, List.length_map, List.length_range, List.getElem?_map, List.getElem?_map]
  by_cases e : j = i
  · subst e
    rw [if_pos rfl]
    by_cases q : j < h
    · rw [if_pos q, List.getElem?_range q]
      simp
    · rw [if_neg q, List.getElem?_eq_none (by rw [List.length_range]; omega)]
      rfl
  · rw [if_neg e]
    by_cases q : i < h
    · rw [List.getElem?_range q]
      show some (f i) = some (if i = j then v else f i)
      rw [if_neg (fun z => e z.symm)]
    · rw [List.getElem?_eq_none (by rw [List.length_range]; omega)]
      rfl
end Pg
/-! The counts of a page's columns and rows, and its margins. Plain Lean alone. -/
namespace Pg
open Sh57
theorem filter_len_cnt (p : Nat → Bool) : ∀ n, ((List.range n).filter p).length = cnt ((List.range n).map p)
  | 0 => rfl
  | n + 1 => by
    rw [filter_range_succ, List.length_append, filter_len_cnt p n, cnt_range_succ]
    congr 1
    split <;> rfl
theorem dotsIn_length {x : List Nat} {w h c : Nat} (hc : c < w) : (dotsIn x w h c).length = cnt ((List.range h).map fun r => bitAt x w c r) := by
  unfold dotsIn
  rw [filter_len_cnt]
  congr 1
  refine List.map_congr_left fun r hr => ?_
  exact at_in hc (List.mem_range.mp hr)
theorem across_eq (x : List Nat) (w h : Nat) : (colsOf x w h).map List.length = columnCounts w h (page w h x) := by
  rw [columnCounts_page]
  unfold colsOf
  rw [List.map_map]
  refine List.map_congr_left fun c hc => ?_
  exact dotsIn_length (List.mem_range.mp hc)
theorem down_eq (x : List Nat) (w h : Nat) : countsOf w h (shearG x 0 1 w h) = rowCounts w h (page w h x) := by
  rw [rowCounts_page]
  unfold countsOf
  refine List.map_congr_left fun r hr => ?_
  congr 1
  refine List.map_congr_left fun c hc => ?_
  exact shearG_zero (Nat.le_refl _) (List.mem_range.mp hc) (List.mem_range.mp hr)
theorem columnCounts_length (x : List Nat) (w h : Nat) : (columnCounts w h (page w h x)).length = w := by
  rw [← across_eq, List.length_map, colsOf_length]
theorem rowCounts_length (x : List Nat) (w h : Nat) : (rowCounts w h (page w h x)).length = h := by
  rw [← down_eq, countsOf_length]
def okP (w h : Int) : Bool := sized w.toNat h.toNat
theorem okP_iff {w h : Int} (hw : 0 ≤ w) (hh : 0 ≤ h) : okP w h = true ↔ (1 ≤ w ∧ w ≤ 256) ∧ (1 ≤ h ∧ h ≤ 256) := by
  unfold okP sized among
  simp only [Bool.and_eq_true, decide_eq_true_eq]
  omega
theorem margins_bad {most w h : Int} {x : List Int} (q : okP w h = false) : PySh57.st_margins most w h x = [-2] := by
  show Sh57Neutral.told (answer (if okP w h = true then _ else .bad)) = _
  rw [q]
  rfl
theorem margins_ok {most w h : Int} {x : List Int} (q : okP w h = true) : PySh57.st_margins most w h x = 0 :: (margins w.toNat h.toNat most.toNat (page w.toNat h.toNat (natsOf x))).map Int.ofNat := by
  show Sh57Neutral.told (answer (if okP w h = true then .margins most.toNat w.toNat h.toNat (natsOf x) else .bad)) = _
  rw [q, if_pos rfl]
  rfl
theorem asked_lenP {most w h : Int} {x : List Int} (q : Sh57Neutral.asked [[8, most, w, h], x] = true) (ok : okP w h = true) : x.length = h.toNat * wide w.toNat := by
  have q1 : Sh57Neutral.asked1 [[8, most, w, h], x] = true := by
    unfold Sh57Neutral.asked at q
    rw [Bool.and_eq_true] at q
    exact q.1
  have q2 : (if okP w h = true then x.length == h.toNat * ((w.toNat + 31) / 32) else (x.isEmpty) || (x.length == h.toNat * ((w.toNat + 31) / 32))) = true := by
    simp only [Sh57Neutral.asked1, Bool.and_eq_true] at q1
    exact q1.2.2.2.2
  rw [ok, if_pos rfl] at q2
  exact eq_of_beq q2
end Pg
/-! Means, hills, upright, the quarter turn, one shear: the calls of stages 4 and 5. Plain Lean alone, ahead of the code. -/
namespace Pg
open Sh57
/-! ### upright, turn -/
theorem upright_bad {w h : Int} {x : List Int} (q : okP w h = false) : PySh57.st_upright w h x = [-2] := by
  show Sh57Neutral.told (answer (if okP w h = true then _ else .bad)) = _
  rw [q]
  rfl
theorem upright_ok {w h : Int} {x : List Int} (q : okP w h = true) : PySh57.st_upright w h x = [if sharp (rowCounts w.toNat h.toNat (page w.toNat h.toNat (natsOf x))) < sharp (columnCounts w.toNat h.toNat (page w.toNat h.toNat (natsOf x))) then 1 else 0,
    ((sharp (rowCounts w.toNat h.toNat (page w.toNat h.toNat (natsOf x))) : Nat) : Int), ((sharp (columnCounts w.toNat h.toNat (page w.toNat h.toNat (natsOf x))) : Nat) : Int)] := by
  show Sh57Neutral.told (answer (if okP w h = true then .upright w.toNat h.toNat (natsOf x) else .bad)) = _
  rw [q, if_pos rfl]
  rfl
/-- the page a quarter turned -/
def turnG (x : List Nat) (w h : Nat) (c r : Nat) : Bool := at_ x w h (r : Int) ((h : Int) - 1 - (c : Int))
theorem turn_bad {w h : Int} {x : List Int} (q : okP w h = false) : PySh57.st_turn w h x = [-2] := by
  show Sh57Neutral.told (answer (if okP w h = true then _ else .bad)) = _
  rw [q]
  rfl
theorem each_congr {w h : Nat} {f g : Nat → Nat → Bool} (e : ∀ c r, c < w → r < h → f c r = g c r) : each w h f = each w h g := by
  unfold each
  refine flatMap_congr' fun r hr => ?_
  refine List.map_congr_left fun c hc => ?_
  exact e c r (List.mem_range.mp hc) (List.mem_range.mp hr)
theorem quarter_at (x : List Nat) (w h : Nat) : quarter w h (page w h x) = each h w (turnG x w h) := by
  unfold quarter
  refine each_congr fun c r hc hr => ?_
  unfold turnG
  rw [show (h : Int) - 1 - (c : Int) = ((h - 1 - c : Nat) : Int) by omega, at_in hr (by omega), dot_page]
  simp only [decide_eq_true hr, decide_eq_true (show h - 1 - c < h by omega), Bool.true_and]
theorem turn_ok {w h : Int} {x : List Int} (q : okP w h = true) : PySh57.st_turn w h x = 0 :: (rowsOf h.toNat w.toNat (turnG (natsOf x) w.toNat h.toNat)).map Int.ofNat := by
  show Sh57Neutral.told (answer (if okP w h = true then .turn w.toNat h.toNat (natsOf x) else .bad)) = _
  rw [q, if_pos rfl]
  show Sh57Neutral.told (one h.toNat w.toNat (quarter w.toNat h.toNat (page w.toNat h.toNat (natsOf x)))) = _
  rw [quarter_at]
  exact one_each _ _ _
theorem asked_len2 {n w h : Int} {x : List Int} (hn : n = 11 ∨ n = 12) (q : Sh57Neutral.asked [[n, w, h], x] = true) (ok : okP w h = true) : x.length = h.toNat * wide w.toNat := by
  have q1 : Sh57Neutral.asked1 [[n, w, h], x] = true := by
    unfold Sh57Neutral.asked at q
    rw [Bool.and_eq_true] at q
    exact q.1
  have q2 : (if okP w h = true then x.length == h.toNat * ((w.toNat + 31) / 32) else (x.isEmpty) || (x.length == h.toNat * ((w.toNat + 31) / 32))) = true := by
    rcases hn with rfl | rfl <;>
    · simp only [Sh57Neutral.asked1, Bool.and_eq_true] at q1
      exact q1.2.2.2
  rw [ok, if_pos rfl] at q2
  exact eq_of_beq q2
/-! ### one shear -/
theorem shift1_ok {w k d c : Int} : PySh57.st_shift1 w k d c = [shift (max w.toNat 1) (kOf k) (max d.toNat 1) c.toNat % 4294967296] := by
  show [((wordOf (shift (max w.toNat 1) (kOf k) (max d.toNat 1) c.toNat) : Nat) : Int)] = _
  unfold wordOf
  rw [Int.toNat_of_nonneg (Int.emod_nonneg _ (by decide))]
/-! ### means -/
/-- the sum of the first i -/
def pre (l : List Nat) (i : Nat) : Nat := (l.take i).sum
theorem pre_zero (l : List Nat) : pre l 0 = 0 := rfl
theorem pre_succ {l : List Nat} {i a : Nat} (h : l[i]? = some a) : pre l (i + 1) = pre l i + a := by
  unfold pre
  rw [take_succ_of h, List.sum_append]
  rfl
theorem pre_min (l : List Nat) (i : Nat) : pre l i = pre l (min i l.length) := by
  unfold pre
  by_cases h : i ≤ l.length
  · rw [Nat.min_eq_left h]
  · rw [Nat.min_eq_right (by omega), List.take_of_length_le (by omega), List.take_of_length_le (Nat.le_refl _)]
/-- the numbers from a to b -/
theorem win_sum (l : List Nat) (a b : Nat) (h : a ≤ b) : pre l a + ((l.take b).drop a).sum = pre l b := by
  unfold pre
  have e : l.take b = (l.take b).take a ++ (l.take b).drop a := (List.take_append_drop a _).symm
  have e2 : (l.take b).take a = l.take a := by
    rw [List.take_take, Nat.min_eq_left h]
  rw [e2] at e
  have := congrArg List.sum e
  rw [List.sum_append] at this
  exact this.symm
theorem win_length (l : List Nat) (a b : Nat) : ((l.take b).drop a).length = min b l.length - a := by
  rw [List.length_drop, List.length_take]
theorem smoothed_at {d : Nat} {l : List Nat} {i : Nat} (h : i < l.length) : (smoothed d l)[i]? = some ((pre l (min (i + d + 1) l.length) - pre l (i - d)) / (min (i + d + 1) l.length - (i - d))) := by
  unfold smoothed
  rw [List.getElem?_map, List.getElem?_range h]
  show some (((l.take (i + d + 1)).drop (i - d)).sum / ((l.take (i + d + 1)).drop (i - d)).length) = _
  have e := win_sum l (i - d) (i + d + 1) (by omega)
  rw [win_length, ← pre_min, ← e, Nat.add_sub_cancel_left]
theorem smoothed_length (d : Nat) (l : List Nat) : (smoothed d l).length = l.length := by
  unfold smoothed
  rw [List.length_map, List.length_range]
def okD (d : Int) (l : List Int) : Bool := few (Sh57Neutral.nats l).length && decide (d.toNat ≤ 4096)
theorem okD_iff {d : Int} {l : List Int} : okD d l = true ↔ l.length ≤ 4096 ∧ d ≤ 4096 := by
  unfold okD few Sh57Neutral.nats
  rw [List.length_map, Bool.and_eq_true, decide_eq_true_eq, decide_eq_true_eq]
  omega
theorem smooth_bad {d : Int} {l : List Int} (q : okD d l = false) : PySh57.st_smooth d l = [-2] := by
  show Sh57Neutral.told (answer (if okD d l = true then _ else .bad)) = _
  rw [q]
  rfl
theorem smooth_ok {d : Int} {l : List Int} (q : okD d l = true) : PySh57.st_smooth d l = 0 :: (smoothed d.toNat (natsOf l)).map Int.ofNat := by
  show Sh57Neutral.told (answer (if okD d l = true then .smooth d.toNat (natsOf l) else .bad)) = _
  rw [q, if_pos rfl]
  rfl
/-! ### hills -/
def hillAt (l : List Nat) (i : Nat) : Bool := decide ((if i = 0 then 0 else l.getD (i - 1) 0) < l.getD i 0) && decide (l.getD (i + 1) 0 ≤ l.getD i 0)
theorem hills_at (l : List Nat) : hills l = (List.range l.length).filter (hillAt l) := rfl
theorem hills_bad {l : List Int} (h : ¬ l.length ≤ 4096) : PySh57.st_hills l = [-2] := by
  have e : few (Sh57Neutral.nats l).length = false := by
    unfold few Sh57Neutral.nats
    rw [List.length_map]
    exact decide_eq_false h
  show Sh57Neutral.told (answer (if few (Sh57Neutral.nats l).length = true then _ else .bad)) = _
  rw [e]
  rfl
theorem hills_ok {l : List Int} (h : l.length ≤ 4096) : PySh57.st_hills l = ((hills (natsOf l)).length : Int) :: (hills (natsOf l)).map Int.ofNat := by
  have e : few (Sh57Neutral.nats l).length = true := by
    unfold few Sh57Neutral.nats
    rw [List.length_map]
    exact decide_eq_true h
  show Sh57Neutral.told (answer (if few (Sh57Neutral.nats l).length = true then .hills (natsOf l) else .bad)) = _
  rw [e, if_pos rfl]
  rfl
end Pg
namespace Pg
open PySem PySem.Spec PyProof.Rows L2
open PySem.W (Codec)
/-! ### the text by places -/
def top (i : Nat) : Stmt := PySem.Challenge.pw_pagestraight_s13_st_turn.main.body.getD i (.Pass ⟨0, 0, 0, 0⟩)
abbrev s_side_in_range : Stmt := top 3
abbrev s_words_in_row : Stmt := top 4
abbrev s_dot_at : Stmt := top 5
abbrev s_row_words : Stmt := top 6
abbrev s_st_turn : Stmt := top 7
/-! ### small things -/
theorem same_upd {H : Hp} {p : Addr} {o : HO} (h : H p = none) : Same H (upd H p o) := fun b x e => by
  rw [upd_ne (ne_of_none e h)]
  exact e
def b2 (b : Bool) : Int := if b = true then 1 else 0
/-- natural numbers as values -/
def vN (l : List Nat) : List V := l.map fun (n : Nat) => V.int (n : Int)
def vB (l : List Bool) : List V := l.map fun b => V.int (b2 b)
def vI (l : List Int) : List V := l.map V.int
theorem vN_length (l : List Nat) : (vN l).length = l.length := by
  unfold vN
  rw [List.length_map]
theorem vB_length (l : List Bool) : (vB l).length = l.length := by
  unfold vB
  rw [List.length_map]
theorem vI_length (l : List Int) : (vI l).length = l.length := by
  unfold vI
  rw [List.length_map]
theorem small {n m : Nat} (h : n ≤ m) (hm : m < sizeLine) : n < sizeLine := Nat.lt_of_le_of_lt h hm
theorem line_big : 10000000 < sizeLine := by decide
/-- a number of the file's top -/
theorem pe_gi {X : Cx} {x : Str} {i : Int} {t : Tok} {pos : Pos} (hg : Gl X x) (hm : X.mg x = some (.int i t)) (hd : (x == ("__debug__" : Str)) = false := by decide) : PE X (.Name x pos) (tC (.int i)) := pe_glob (v := .int i) hg hm ⟨_, rfl⟩ hd
/-- within a comprehension: the written part is the def's own -/
theorem ix_listK {X : Cx} {K : PySem.W.Frag} (h : X.K = K) : IxR X (rIxL K) := by
  subst h
  exact ix_list
/-! ### what the top has written -/
structure Txt (K : PySem.W.Frag) (mg : Str → Option Value) where
  t_WORD_BITS : Tok
  WORD_BITS : mg "WORD_BITS" = some (.int 32 t_WORD_BITS)
  t_LARGEST_SIDE : Tok
  LARGEST_SIDE : mg "LARGEST_SIDE" = some (.int 256 t_LARGEST_SIDE)
  f_side_in_range : Addr
  fd_side_in_range : FuncData
  F_side_in_range : Fun K "side_in_range" "side_in_range" s_side_in_range f_side_in_range fd_side_in_range
  b_side_in_range : Binds K fd_side_in_range ["side"] []
  g_side_in_range : mg "side_in_range" = some (.ref f_side_in_range)
  f_words_in_row : Addr
  fd_words_in_row : FuncData
  F_words_in_row : Fun K "words_in_row" "words_in_row" s_words_in_row f_words_in_row fd_words_in_row
  b_words_in_row : Binds K fd_words_in_row ["w"] []
  g_words_in_row : mg "words_in_row" = some (.ref f_words_in_row)
  f_dot_at : Addr
  fd_dot_at : FuncData
  F_dot_at : Fun K "dot_at" "dot_at" s_dot_at f_dot_at fd_dot_at
  b_dot_at : Binds K fd_dot_at ["x", "w", "h", "c", "r"] []
  g_dot_at : mg "dot_at" = some (.ref f_dot_at)
  f_row_words : Addr
  fd_row_words : FuncData
  F_row_words : Fun K "row_words" "row_words" s_row_words f_row_words fd_row_words
  b_row_words : Binds K fd_row_words ["dots"] []
  g_row_words : mg "row_words" = some (.ref f_row_words)
  f_st_turn : Addr
  fd_st_turn : FuncData
  F_st_turn : Fun K "st_turn" "st_turn" s_st_turn f_st_turn fd_st_turn
  b_st_turn : Binds K fd_st_turn ["w", "h", "x"] []
  g_st_turn : mg "st_turn" = some (.ref f_st_turn)
  m_len : mg "len" = none
  m_range : mg "range" = none
section
variable {P : Program} {w : World} {K : PySem.W.Frag} {mg : Str → Option Value} {base : Heap}
/-! ### lists of numbers, changed -/
theorem rep_zero (n : Nat) : (List.replicate n [V.int 0]).flatten = vN (List.replicate n 0) := by
  induction n with
  | zero => rfl
  | succ n ih =>
    rw [List.replicate_succ, List.flatten_cons, ih]
    rfl
theorem vN_set (l : List Nat) (j n : Nat) : (vN l).set j (V.int (n : Int)) = vN (l.set j n) := by
  unfold vN
  rw [List.map_set]
theorem ixN_nat {n j : Nat} {z : Int} (e : z = (j : Int)) (h : j < n) : ixN n z = some j := by
  subst e
  unfold ixN
  simp [h]
/-! ### lists handed in -/
theorem map_range_succ {α : Type} (f : Nat → α) (n : Nat) : (List.range (n + 1)).map f = (List.range n).map f ++ [f n] := by
  rw [List.range_succ, List.map_append]
  rfl
theorem vI_nats {x : List Int} (h : ∀ z ∈ x, 0 ≤ z) : vI x = vN (natsOf x) := by
  unfold vI vN natsOf Sh57Neutral.nats
  rw [List.map_map]
  refine List.map_congr_left fun z hz => ?_
  have := h z hz
  show V.int z = V.int ((z.toNat : Nat) : Int)
  rw [Int.toNat_of_nonneg this]
theorem vI_ofNat (l : List Nat) : vI (l.map Int.ofNat) = vN l := by
  unfold vI vN
  rw [List.map_map]
  rfl
theorem vN_getD {l : List Nat} {i : Nat} (h : i < l.length) : (vN l)[i]? = some (V.int ((l.getD i 0 : Nat) : Int)) := by
  unfold vN
  rw [List.getElem?_map, List.getD_eq_getElem?_getD, List.getElem?_eq_getElem h]
  rfl
theorem vN_append (a b : List Nat) : vN (a ++ b) = vN a ++ vN b := by
  unfold vN
  rw [List.map_append]
/-! ### side_in_range -/
def sideB (n : Int) : Bool := decide (1 ≤ n ∧ n ≤ 256)
def spSide : Sp := fun vs H Q _ => ∃ n : Int, vs = [.int n] ∧ Q (.bl (sideB n)) H
theorem scSide : FnScope ["side"] ["side"] (defScope s_side_in_range) := ⟨rfl, rfl, rfl, by decide +kernel, rfl, by decide +kernel, by decide +kernel⟩
theorem ok_side {k : Nat} (T : Txt K mg) : FnOk P w K mg base CX0 (k + 1) T.f_side_in_range T.fd_side_in_range ["side"] spSide := by
  refine T.F_side_in_range.ok scSide (fun vs H Q E h => ?_) (fun cdv A outer s H vs Q E hr h => ?_)
  · obtain ⟨n, rfl, _⟩ := h
    rfl
  · obtain ⟨n, rfl, q⟩ := h
    refine ⟨_, pss_one (ps_ret (pe_chain op_le op_le pe_int (pv 0) (pe_gi rfl T.LARGEST_SIDE))), ?_⟩
    refine ⟨_, rfl, _, _, rfl, rfl, _, rfl, ite2 (fun e => ?_) (fun e => ?_)⟩
    · have e : (1 : Int) ≤ n := of_decide_eq_true e
      refine ⟨_, _, rfl, rfl, ?_⟩
      have e2 : sideB n = decide (n ≤ 256) := by
        unfold sideB
        exact decide_eq_decide.mpr ⟨fun z => z.2, fun z => ⟨e, z⟩⟩
      rw [e2] at q
      exact q
    · have e : ¬ (1 : Int) ≤ n := fun z => e (decide_eq_true z)
      have e2 : sideB n = false := decide_eq_false fun z => e z.1
      rw [e2] at q
      exact q
/-! ### words_in_row -/
def spWide : Sp := fun vs H Q _ => ∃ n : Nat, vs = [.int (n : Int)] ∧ Q (.int ((Sh57.wide n : Nat) : Int)) H
theorem scWide : FnScope ["w"] ["w"] (defScope s_words_in_row) := ⟨rfl, rfl, rfl, by decide +kernel, rfl, by decide +kernel, by decide +kernel⟩
theorem ok_wide {k : Nat} (T : Txt K mg) : FnOk P w K mg base CX0 (k + 1) T.f_words_in_row T.fd_words_in_row ["w"] spWide := by
  refine T.F_words_in_row.ok scWide (fun vs H Q E h => ?_) (fun cdv A outer s H vs Q E hr h => ?_)
  · obtain ⟨n, rfl, _⟩ := h
    rfl
  · obtain ⟨n, rfl, q⟩ := h
    refine ⟨_, pss_one (ps_ret (pe_op op_fdiv (pe_op op_sub (pe_op op_add (pv 0) (pe_gi rfl T.WORD_BITS)) pe_int) (pe_gi rfl T.WORD_BITS))), ?_⟩
    refine ⟨_, rfl, _, _, rfl, rfl, _, _, rfl, rfl, _, _, rfl, rfl, ⟨by decide, by decide⟩, ?_⟩
    have e : ((n : Int) + 32 - 1) / 32 = ((Sh57.wide n : Nat) : Int) := by
      unfold Sh57.wide
      omega
    rw [← e] at q
    exact q
/-! ### dot_at -/
def spDot (K : PySem.W.Frag) : Sp := fun vs H Q _ => ∃ (a : Addr) (x : List Nat) (w h : Nat) (c r : Int), vs = [.ref a, .int (w : Int), .int (h : Int), .int c, .int r] ∧ SqL K H a (vN x) ∧ x.length = h * Sh57.wide w ∧ h ≤ 4096 ∧ Q (.int (b2 (at_ x w h c r))) H
theorem scDot : FnScope ["x", "w", "h", "c", "r", "word"] ["x", "w", "h", "c", "r"] (defScope s_dot_at) := ⟨rfl, rfl, rfl, by decide +kernel, rfl, by decide +kernel, by decide +kernel⟩
theorem bit_and_one (n m : Nat) : Builtin.bitAnd ((n : Int) / 2 ^ m) 1 = b2 (n / 2 ^ m % 2 == 1) := by
  have e : ((n : Int) / 2 ^ m) = ((n / 2 ^ m : Nat) : Int) := by
    rw [Int.natCast_ediv, Int.natCast_pow]
    rfl
  rw [e, bitAnd_m1]
  unfold b2
  by_cases q : n / 2 ^ m % 2 = 1
  · rw [if_pos (by rw [q]; rfl)]
    omega
  · rw [if_neg (by intro z; exact q (eq_of_beq z))]
    omega
theorem ok_dot {k : Nat} (T : Txt K mg) : FnOk P w K mg base CX0 (k + 2) T.f_dot_at T.fd_dot_at ["x", "w", "h", "c", "r"] (spDot K) := by
  refine T.F_dot_at.ok scDot (fun vs H Q E h => ?_) (fun cdv A outer s H vs Q E hr h => ?_)
  · obtain ⟨a, x, w, h, c, r, rfl, _⟩ := h
    rfl
  · obtain ⟨a, x, w, h, c, r, rfl, hS, hlen, hh, q⟩ := h
    refine ⟨_, pss_cons (ps_if (PW.pt (pw_or (pt_cmpR op_lt (pv 3) pe_int (nomark _)) (pw_or (pt_cmpR op_ge (pv 3) (pv 1) (nomark _)) (pw_or (pt_cmpR op_lt (pv 4) pe_int (nomark _)) (pw_or1 (pt_cmpR op_ge (pv 4) (pv 2) (nomark _)))))))
        (pss_one (ps_ret pe_int)) pss_nil)
      (pss_cons (ps_set (i := 5) scDot.nd rfl (Or.inl rfl) (pe_ix ix_list (pv 0) (pe_op op_add (pe_op op_mul (pv 4) (pe_call (ok_wide T) hr rfl T.g_words_in_row T.F_words_in_row.kp T.b_words_in_row .nil pass0 (pa_cons (pv 1) pa_nil))) (pe_op op_fdiv (pv 3) (pe_gi rfl T.WORD_BITS))) (fun _ _ => rfl)))
      (pss_one (ps_ret (pe_op op_and (pe_op op_shr (pv 5) (pe_op op_mod (pv 3) (pe_gi rfl T.WORD_BITS))) pe_int)))), ?_⟩
    have out : (c < 0 ∨ (w : Int) ≤ c ∨ r < 0 ∨ (h : Int) ≤ r) → Q (.int 0) H := fun z => by
      rw [at_out z] at q
      exact q
    refine ⟨_, rfl, _, _, rfl, rfl, _, rfl, ite2 (fun e => ?_) (fun e => ?_)⟩
    · exact iteT (out (.inl (of_decide_eq_true e)))
    have e1 : ¬ c < 0 := fun z => e (decide_eq_true z)
    refine ⟨_, rfl, _, rfl, _, _, rfl, rfl, _, rfl, ite2 (fun e => ?_) (fun e => ?_)⟩
    · exact iteT (out (.inr (.inl (of_decide_eq_true e))))
    have e2 : ¬ (w : Int) ≤ c := fun z => e (decide_eq_true z)
    refine ⟨_, rfl, _, _, rfl, rfl, _, rfl, ite2 (fun e => ?_) (fun e => ?_)⟩
    · exact iteT (out (.inr (.inr (.inl (of_decide_eq_true e)))))
    have e3 : ¬ r < 0 := fun z => e (decide_eq_true z)
    refine ⟨_, rfl, _, rfl, _, _, rfl, rfl, _, rfl, ite2 (fun e => ?_) (fun e => ?_)⟩
    · exact out (.inr (.inr (.inr (of_decide_eq_true e))))
    have e4 : ¬ (h : Int) ≤ r := fun z => e (decide_eq_true z)
    obtain ⟨cn, rfl⟩ : ∃ cn : Nat, c = (cn : Int) := ⟨c.toNat, by omega⟩
    obtain ⟨rn, rfl⟩ : ∃ rn : Nat, r = (rn : Int) := ⟨r.toNat, by omega⟩
    have hc : cn < w := by omega
    have hr' : rn < h := by omega
    rw [at_in hc hr'] at q
    have pl := place_lt hc hr'
    rw [← hlen] at pl
    have g : (vN x)[rn * Sh57.wide w + cn / 32]? = some (V.int ((x[rn * Sh57.wide w + cn / 32] : Nat) : Int)) := by
      unfold vN
      rw [List.getElem?_map, List.getElem?_eq_getElem pl]
      rfl
    have eg : x.getD (rn * Sh57.wide w + cn / 32) 0 = x[rn * Sh57.wide w + cn / 32] := by
      rw [List.getD_eq_getElem?_getD, List.getElem?_eq_getElem pl]
      rfl
    refine ⟨_, rfl, _, rfl, _, rfl, w, rfl, _, _, rfl, rfl, .inl ⟨by omega, by omega⟩, _, rfl, _, _, rfl, rfl, ⟨by decide, by decide⟩, _, _, rfl, rfl, a, _, _, _, rfl, rfl, hS, at_of (j := rn * Sh57.wide w + cn / 32) ?_ g, ?_⟩
    · rw [Int.natCast_add, Int.natCast_mul]
      rfl
    refine ⟨_, rfl, _, rfl, _, _, rfl, rfl, (by show (0 : Int) < 32; decide), _, _, rfl, rfl, (by show (0 : Int) ≤ (cn : Int) % 32; omega), _, _, rfl, rfl, ?_⟩
    have em : ((cn : Int) % 32).toNat = cn % 32 := by omega
    unfold bitAt at q
    rw [eg, ← bit_and_one, ← em] at q
    exact q
/-! ### row_words -/
def spRow (K : PySem.W.Frag) : Sp := fun vs H Q _ => ∃ (a : Addr) (bs : List Bool), vs = [.ref a] ∧ SqL K H a (vB bs) ∧ bs.length ≤ 4096 ∧ ∀ H' p, Same H H' → H p = none → H' p = some (.lst (vN (rowL bs))) → Q (.ref p) H'
theorem scRow : FnScope ["dots", "words", "c"] ["dots"] (defScope s_row_words) := ⟨rfl, rfl, rfl, by decide +kernel, rfl, by decide +kernel, by decide +kernel⟩
theorem or_bit {x m : Nat} (b : Bool) (h : x < 2 ^ m) : Builtin.bitOr (x : Int) (b2 b * 2 ^ m) = ((x + (if b = true then 2 ^ m else 0) : Nat) : Int) := by
  have e : ((2 : Int) ^ m) = ((2 ^ m : Nat) : Int) := by
    rw [Int.natCast_pow]
    rfl
  rw [Bits.bitOr_join (Int.natCast_nonneg _) (by rw [e]; omega) (by unfold b2; split <;> decide), e]
  unfold b2
  cases b with
  | false => simp
  | true => simp
theorem ok_row {k : Nat} (T : Txt K mg) : FnOk P w K mg base CX0 (k + 2) T.f_row_words T.fd_row_words ["dots"] (spRow K) := by
  refine T.F_row_words.ok scRow (fun vs H Q E h => ?_) (fun cdv A outer s H vs Q E hr h => ?_)
  · obtain ⟨a, bs, rfl, _⟩ := h
    rfl
  · obtain ⟨a, bs, rfl, hS, hlen, q⟩ := h
    refine ⟨_, pss_cons (ps_set (i := 1) scRow.nd rfl (Or.inl rfl) (pe_op op_rep (pe_lst (pa_cons pe_int pa_nil)) (pe_call (ok_wide T) hr rfl T.g_words_in_row T.F_words_in_row.kp T.b_words_in_row .nil pass0 (pa_cons (pe_callB call_len_seq (by rfl) T.m_len PySem.boot_len (pa_cons (pv 0) pa_nil)) pa_nil))))
      (pss_cons (ps_for PassesOwn.never rfl (pi_range1 rfl T.m_range (pa_cons (pe_callB call_len_seq (by rfl) T.m_len PySem.boot_len (pa_cons (pv 0) pa_nil)) pa_nil)) (pg_name (i := 2) scRow.nd rfl (Or.inl rfl))
        (pss_one (ps_asg (pe_op op_or (pe_ix ix_list (pv 1) (pe_op op_fdiv (pv 2) (pe_gi rfl T.WORD_BITS)) (fun _ _ => rfl)) (pe_op op_shl (pe_ix ix_list (pv 0) (pv 2) (fun _ _ => rfl)) (pe_op op_mod (pv 2) (pe_gi rfl T.WORD_BITS))))
          (pg_sub (pv 1) (pe_op op_fdiv (pv 2) (pe_gi rfl T.WORD_BITS)) set_list))))
      (pss_one (ps_ret (pv 1)))), ?_⟩
    -- [0] * words_in_row(len(dots))
    refine ⟨(by show 1 ≤ sizeLine; decide), fun l hl => ?_⟩
    have s1 : Same H (upd H l (.lst [.int 0])) := same_upd hl
    refine ⟨_, rfl, a, _, rfl, .inl (s1.seq hS), bs.length, (by rw [vB_length]; rfl), ?_⟩
    have hw : Sh57.wide bs.length ≤ 4096 := by
      unfold Sh57.wide
      omega
    refine ⟨l, _, _, rfl, rfl, upd_same, by omega, by omega, ?_, fun p hp => ?_⟩
    · show 1 * (Int.toNat _) ≤ sizeLine
      rw [Int.toNat_natCast]
      exact Nat.le_of_lt (small (m := 4096) (by omega) (by decide))
    have s2 := s1.trans (same_upd (o := .lst ((List.replicate ((Sh57.wide bs.length : Nat) : Int).toNat [V.int 0]).flatten)) hp)
    have hpH : H p = none := s1.free hp
    -- the loop
    refine ⟨_, rfl, a, _, rfl, .inl (s2.seq hS), (bs.length : Int), (by rw [vB_length]), by omega, by omega, for_range (lo := 0) (n := bs.length) (fun i σ H' => ∃ v : Option V, σ = [some (.ref a), some (.ref p), v] ∧ Same H H' ∧ H' p = some (.lst (vN (rowTo bs i)))) ⟨none, rfl, s2, ?_⟩ ?_ ?_⟩
    · rw [upd_same, Int.toNat_natCast, rep_zero, rowTo_zero]
    · rintro i σ H' hi ⟨v, rfl, sm, e⟩
      have hj : i / 32 < Sh57.wide bs.length := div_lt_wide hi
      have g1 : (vN (rowTo bs i))[i / 32]? = some (V.int ((word (bs.take i) (i / 32) : Nat) : Int)) := by
        unfold vN
        rw [List.getElem?_map, rowTo_get bs hj]
        rfl
      have g2 : (vB bs)[i]? = some (V.int (b2 (bs.getD i false))) := by
        unfold vB
        rw [List.getElem?_map, List.getD_eq_getElem?_getD, List.getElem?_eq_getElem hi]
        rfl
      have b2small : (b2 (bs.getD i false)).natAbs < 2 ^ 64 := by
        unfold b2
        split <;> decide
      have e32 : (0 + (i : Int)) / 32 = ((i / 32 : Nat) : Int) := by omega
      refine ⟨_, rfl, _, rfl, _, _, rfl, rfl, ⟨by decide, by decide⟩, p, _, _, _, rfl, rfl, SqL.of e, at_of (j := i / 32) e32 g1, _, rfl, _, rfl, a, _, _, _, rfl, rfl, sm.seq hS, at_of (j := i) (Int.zero_add _) g2, _, rfl, _, _, rfl, rfl, (by show (0 : Int) < 32; decide),
        _, _, rfl, rfl, ⟨by omega, by omega, b2small⟩, _, _, rfl, rfl, _, rfl, _, rfl, _, _, rfl, rfl, ⟨by decide, by decide⟩, p, _, _, i / 32, rfl, rfl, e, ixN_nat e32 (by rw [vN_length, rowTo_length]; exact hj), ?_⟩
      have em : ((0 + (i : Int)) % 32).toNat = i % 32 := by omega
      dsimp only
      rw [em, or_bit _ (word_take_lt bs i), vN_set, ← rowTo_succ]
      exact ⟨_, rfl, fun b o z => (by rw [upd_ne (ne_of_none z hpH)]; exact sm b o z), upd_same⟩
    · rintro σ H' ⟨v, rfl, sm, e⟩
      rw [rowTo_all] at e
      exact ⟨_, rfl, q H' p sm hpH e⟩
/-! ### rows of dots -/
theorem wide_le {w : Nat} (h : w ≤ 256) : Sh57.wide w ≤ 8 := by
  unfold Sh57.wide
  omega
theorem vB_range_succ (g : Nat → Bool) (n : Nat) : vB ((List.range (n + 1)).map g) = vB ((List.range n).map g) ++ [V.int (b2 (g n))] := by
  rw [map_range_succ]
  unfold vB
  rw [List.map_append]
  rfl
/-! ### st_turn -/
/-- what the row lets be handed in -/
structure PageQ (w h : Int) (x : List Int) : Prop where
  hw : 0 ≤ w
  hh : 0 ≤ h
  hx : ∀ z ∈ x, 0 ≤ z
  len : okP w h = true → x.length = h.toNat * Sh57.wide w.toNat
def spMain (K : PySem.W.Frag) : Sp := fun vs H Q _ => ∃ (w h : Int) (a : Addr) (x : List Int), vs = [.int w, .int h, .ref a] ∧ SqL K H a (vI x) ∧ PageQ w h x ∧
  ∀ (H' : Hp) (p : Addr), H' p = some (.lst (vI (PySh57.st_turn w h x))) → Q (.ref p) H'
theorem scMain : FnScope ["w", "h", "x", "answer", "c", "r"] ["w", "h", "x"] (defScope s_st_turn) := ⟨rfl, rfl, rfl, by decide +kernel, rfl, by decide +kernel, by decide +kernel⟩
theorem ok_main (T : Txt K mg) : FnOk P w K mg base CX0 3 T.f_st_turn T.fd_st_turn ["w", "h", "x"] (spMain K) := by
  refine T.F_st_turn.ok scMain (fun vs H Q E h => ?_) (fun cdv A outer s H vs Q E hr h => ?_)
  · obtain ⟨w, h, a, x, rfl, _⟩ := h
    rfl
  · obtain ⟨w, h, a, x, rfl, hS, A, q⟩ := h
    refine ⟨_, pss_cons (ps_if (PW.pt (pw_or (pt_not (pt_val (pe_call (ok_side (k := 1) T) hr rfl T.g_side_in_range T.F_side_in_range.kp T.b_side_in_range .nil pass0 (pa_cons (pv 0) pa_nil)))) (pw_or1 (pt_not (pt_val (pe_call (ok_side (k := 1) T) hr rfl T.g_side_in_range T.F_side_in_range.kp T.b_side_in_range .nil pass0 (pa_cons (pv 1) pa_nil))))))) (pss_one (ps_ret (pe_lst (pa_cons (pe_un un_neg pe_int) pa_nil)))) pss_nil)
      (pss_cons (ps_set (i := 3) scMain.nd rfl (Or.inl rfl) (pe_lst (pa_cons pe_int pa_nil)))
      (pss_cons (ps_for PassesOwn.never rfl (pi_range1 rfl T.m_range (pa_cons (pv 0) pa_nil)) (pg_name (i := 4) scMain.nd rfl (Or.inr rfl))
        (pss_one (ps_expr (pe_bm PySem.F.plainAttrs_list PySem.F.slot_list_extend PySem.F.type_list_extend mt_extend (pv 3) (pa_cons (pe_call (ok_row (k := 0) T) hr rfl T.g_row_words T.F_row_words.kp T.b_row_words .nil pass0 (pa_cons
          (pe_lc (own := [("r", 5)]) (g := gName 5) (tt := tYes) rfl scMain.nd (pi_range3 rfl T.m_range (pa_cons (pe_op op_sub (pv 1) pe_int) (pa_cons (pe_un un_neg pe_int) (pa_cons (pe_un un_neg pe_int) pa_nil)))) (blkOk_by (N := ["w", "h", "x", "answer", "c", "r"]) (sc := defScope s_st_turn) (by decide +kernel))
            (fun _ _ _ _ _ => pg_name (i := 5) scMain.nd rfl (Or.inl rfl)) (fun _ _ _ _ _ => pts_nil)
            (fun _ _ _ _ _ => pe_call (ok_dot (k := 0) T) hr rfl T.g_dot_at T.F_dot_at.kp T.b_dot_at .nil pass0 (pa_cons (pv 2) (pa_cons (pv 0) (pa_cons (pv 1) (pa_cons (pv 4) (pa_cons (pv 5) pa_nil)))))))
          pa_nil)) pa_nil)))))
      (pss_one (ps_ret (pv 3))))), ?_⟩
    have bad : okP w h = false → ∀ p, H p = none → Q (.ref p) (upd H p (.lst [.int (-2)])) := fun e p hp => by
      refine q _ p ?_
      rw [upd_same, turn_bad e]
      rfl
    have okI := okP_iff A.hw A.hh
    refine ⟨_, rfl, w, rfl, _, rfl, ite2 (fun e => ?_) (fun e => ?_)⟩
    · have e : sideB w = false := by simpa using e
      have e := of_decide_eq_false e
      refine iteT ⟨2, rfl, (by show 1 ≤ sizeLine; decide), fun p hp => bad ?_ p hp⟩
      rw [← Bool.not_eq_true, okI]
      exact fun z => e z.1
    have e : sideB w = true := by simpa using e
    have e := of_decide_eq_true e
    refine ⟨_, rfl, h, rfl, _, rfl, ite2 (fun e1 => ?_) (fun e1 => ?_)⟩
    · have e1 : sideB h = false := by simpa using e1
      have e1 := of_decide_eq_false e1
      refine ⟨2, rfl, (by show 1 ≤ sizeLine; decide), fun p hp => bad ?_ p hp⟩
      rw [← Bool.not_eq_true, okI]
      exact fun z => e1 z.2
    have e1 : sideB h = true := by simpa using e1
    have e1 := of_decide_eq_true e1
    have ok : okP w h = true := okI.mpr ⟨e, e1⟩
    have hlen := A.len ok
    rw [vI_nats A.hx] at hS
    rw [turn_ok ok] at q
    have hwn : w = ((w.toNat : Nat) : Int) := by omega
    have hhn : h = ((h.toNat : Nat) : Int) := by omega
    have hl2 : (natsOf x).length = h.toNat * Sh57.wide w.toNat := by
      unfold natsOf Sh57Neutral.nats
      rw [List.length_map, hlen]
    clear bad okI A ok hlen
    generalize w.toNat = wn at *
    generalize h.toNat = hn at *
    generalize natsOf x = xs at *
    subst hwn hhn
    have W8 := wide_le (w := hn) (by omega)
    -- answer = [0]
    refine ⟨(by show 1 ≤ sizeLine; decide), fun pa na => ?_⟩
    have s2 : Same H (upd H pa (.lst [.int 0])) := same_upd na
    -- for c in range(w)
    refine ⟨_, rfl, (wn : Int), rfl, by omega, by omega, for_range (lo := 0) (n := wn) (fun i σ H' => ∃ v : Option V, σ = [some (.int (wn : Int)), some (.int (hn : Int)), some (.ref a), some (.ref pa), v, none] ∧ Same H H' ∧
      H' pa = some (.lst (vN (0 :: rowsOf hn i (turnG xs wn hn))))) ⟨none, rfl, s2, upd_same⟩ ?_ ?_⟩
    · rintro i σ H' hi ⟨v, rfl, sm, e2⟩
      -- the comprehension
      have en : ((hn : Int) - 1 - -1).toNat = hn := by omega
      refine ⟨_, rfl, .inl ⟨rfl, _, SqL.of e2⟩, _, rfl, _, _, rfl, rfl, 1, rfl, 1, rfl, ((hn : Int) - 1), -1, -1, hn, rfl, ?_, fun D hD => ?_⟩
      · have z := RgC.neg (i := (hn : Int) - 1) (j := -1) (by omega) (by omega) (by omega) (by omega)
        rw [en] at z
        exact z
      have nD2 : pa ≠ D := ne_of_none e2 hD
      have nDH : H D = none := sm.free hD
      refine lc_it (walk_rangeC (lo := (hn : Int) - 1) (c := -1) (n := hn)) (fun c H2 => Same H H2 ∧ H2 pa = some (.lst (vN (0 :: rowsOf hn i (turnG xs wn hn)))) ∧ H2 D = some (.lst (vB ((List.range c).map fun c => turnG xs wn hn c i))))
        ⟨sm.trans (same_upd hD), same_upd hD _ _ e2, upd_same⟩ (fun _ _ _ _ => trivial) ?_ ?_
      · rintro c xv H2 H3 hc ⟨sm2, e4, e5⟩ ⟨rfl, rfl⟩
        refine ⟨rfl, ?_⟩
        refine ⟨_, rfl, _, rfl, _, rfl, _, rfl, _, rfl, a, xs, wn, hn, (i : Int), ((hn : Int) - 1 - (c : Int)), ?_, sm2.seq hS, hl2, by omega, _, e5, ?_, ?_, ?_, ?_⟩
        · dsimp only
          rw [Int.zero_add, show (hn : Int) - 1 + (c : Nat) * (-1 : Int) = (hn : Int) - 1 - (c : Int) by omega]
          rfl
        · rw [vB_length, List.length_map, List.length_range]
          exact small (m := 256) (by omega) (by decide)
        · exact fun b o z => by
            rw [upd_ne (ne_of_none z nDH)]
            exact sm2 b o z
        · rw [upd_ne nD2]
          exact e4
        · rw [upd_same, vB_range_succ]
          rfl
      · rintro H2 ⟨sm2, e4, e5⟩
        refine ⟨D, (List.range hn).map fun c => turnG xs wn hn c i, rfl, SqL.of e5, by rw [List.length_map, List.length_range]; omega, fun H3 pr s3 nr er => ?_⟩
        refine ⟨pa, pr, _, _, rfl, rfl, s3 _ _ e4, er, ?_, ?_⟩
        · rw [vN_length, vN_length, List.length_cons, rowsOf_length, rowL_length, List.length_map, List.length_range]
          have h1 := Nat.mul_le_mul (show i ≤ 256 by omega) W8
          exact Nat.le_of_lt (small (m := 256 * 8 + 1 + 8) (by omega) (by decide))
        · refine ⟨_, rfl, fun b o z => ?_, ?_⟩
          · rw [upd_ne (ne_of_none z na)]
            exact s3 _ _ (sm2 b o z)
          · rw [upd_same, rowsOf_succ]
            unfold vN
            rw [← List.map_append]
            rfl
    · rintro σ H' ⟨v, rfl, sm, e2⟩
      refine ⟨_, rfl, q H' pa ?_⟩
      rw [e2, ← vI_ofNat]
      rfl
end
/-! ### the request: numbers ahead of one list -/
theorem req1 {K : PySem.W.Frag} {H : Hp} {xs : List V} {x : List Int} (hx : DwAll K H xs [.list (x.map PySem.W.WData.int)]) : ∃ a, xs = [.ref a] ∧ SqL K H a (vI x) := by
  cases hx with
  | cons h1 hx =>
  cases hx
  cases h1 with
  | lst hs ha =>
    have e := ints_dw x _ ha
    subst e
    exact ⟨_, rfl, hs⟩
theorem req_int {K : PySem.W.Frag} {H : Hp} {xs : List V} {k : Int} {r : List PySem.W.WData} (hx : DwAll K H xs (.int k :: r)) : ∃ ys, xs = .int k :: ys ∧ DwAll K H ys r := by
  cases hx with
  | cons h1 hx =>
  cases h1
  exact ⟨_, rfl, hx⟩
theorem list_of {x : List Int} {m : Nat} {b : Int} (q : (Codec.inLen 0 m x && x.all (Codec.inInt 0 b)) = true) : x.length ≤ m ∧ ∀ z ∈ x, 0 ≤ z ∧ z ≤ b := by
  simp only [Bool.and_eq_true, List.all_eq_true, Codec.inInt_iff] at q
  refine ⟨?_, fun z hz => q.2 z hz⟩
  have := q.1
  unfold Codec.inLen Codec.inNat at this
  simp only [Bool.and_eq_true, decide_eq_true_eq] at this
  exact this.2
theorem pageQ_of {n w h : Int} {x : List Int} (hn : n = 11 ∨ n = 12) (qa : Sh57Neutral.asked [[n, w, h], x] = true)
    (q : (Codec.inInt 0 4294967295 w && (Codec.inInt 0 4294967295 h && ((Codec.inLen 0 2313 x && x.all (Codec.inInt 0 4294967295)) && true))) = true) : PageQ w h x := by
  simp only [Bool.and_eq_true, Codec.inInt_iff, List.all_eq_true] at q
  exact ⟨q.1.1, q.2.1.1, fun z hz => (q.2.2.1.2 z hz).1, fun ok => asked_len2 hn qa ok⟩
/-! ### the end -/
theorem all_mk {P : Program} {w : World} {K : PySem.W.Frag} {h : Heap} {mg : Str → Option Value} {fa f1 f2 f3 f4 f5 : Addr} (X : K.In h) (G : h.Ns mainGlobals mg) (hfa : mg "st_turn" = some (.ref fa))
    {od1 an1 od2 an2 od3 an3 od4 an4 od5 an5 : Option Addr} {sl1 sl2 sl3 sl4 sl5 : Array (Option Value)} {oc1 kV1 dc1 pm1 cd1 ct1 oc2 kV2 dc2 pm2 cd2 ct2 oc3 kV3 dc3 pm3 cd3 ct3 oc4 kV4 dc4 pm4 cd4 ct4 oc5 kV5 dc5 pm5 cd5 ct5 : Value} {u1 : Tok} {u2 : Tok}
    (a1 : PySem.W.nsIn K mainGlobals "side_in_range" = some (some (.ref f1))) (l1 : K.lookup f1 = some ⟨oc1, od1, .func (PySem.W.fnOf "side_in_range" "side_in_range" (defArgs s_side_in_range) (defBody s_side_in_range) (defScope s_side_in_range) .none kV1 dc1 pm1 an1 cd1 ct1), sl1⟩) (c1 : PySem.W.codeIn K cd1 "side_in_range" = true) (k1 : PySem.W.keepIn K (.ref f1) = true)
    (a2 : PySem.W.nsIn K mainGlobals "words_in_row" = some (some (.ref f2))) (l2 : K.lookup f2 = some ⟨oc2, od2, .func (PySem.W.fnOf "words_in_row" "words_in_row" (defArgs s_words_in_row) (defBody s_words_in_row) (defScope s_words_in_row) .none kV2 dc2 pm2 an2 cd2 ct2), sl2⟩) (c2 : PySem.W.codeIn K cd2 "words_in_row" = true) (k2 : PySem.W.keepIn K (.ref f2) = true)
    (a3 : PySem.W.nsIn K mainGlobals "dot_at" = some (some (.ref f3))) (l3 : K.lookup f3 = some ⟨oc3, od3, .func (PySem.W.fnOf "dot_at" "dot_at" (defArgs s_dot_at) (defBody s_dot_at) (defScope s_dot_at) .none kV3 dc3 pm3 an3 cd3 ct3), sl3⟩) (c3 : PySem.W.codeIn K cd3 "dot_at" = true) (k3 : PySem.W.keepIn K (.ref f3) = true)
    (a4 : PySem.W.nsIn K mainGlobals "row_words" = some (some (.ref f4))) (l4 : K.lookup f4 = some ⟨oc4, od4, .func (PySem.W.fnOf "row_words" "row_words" (defArgs s_row_words) (defBody s_row_words) (defScope s_row_words) .none kV4 dc4 pm4 an4 cd4 ct4), sl4⟩) (c4 : PySem.W.codeIn K cd4 "row_words" = true) (k4 : PySem.W.keepIn K (.ref f4) = true)
    (a5 : PySem.W.nsIn K mainGlobals "st_turn" = some (some (.ref f5))) (l5 : K.lookup f5 = some ⟨oc5, od5, .func (PySem.W.fnOf "st_turn" "st_turn" (defArgs s_st_turn) (defBody s_st_turn) (defScope s_st_turn) .none kV5 dc5 pm5 an5 cd5 ct5), sl5⟩) (c5 : PySem.W.codeIn K cd5 "st_turn" = true) (k5 : PySem.W.keepIn K (.ref f5) = true)
    (n1 : PySem.W.nsIn K mainGlobals "WORD_BITS" = some (some (.int 32 u1)))
    (n2 : PySem.W.nsIn K mainGlobals "LARGEST_SIDE" = some (some (.int 256 u2)))
    (z1 : PySem.W.nsIn K mainGlobals "len" = some none)
    (z2 : PySem.W.nsIn K mainGlobals "range" = some none) :
    ∃ fd : FuncData, (∀ (s : Shared) (us : List Value), us.length = (["w", "h", "x"] : List Str).length → BindsTo s fd ⟨us, []⟩ ((["w", "h", "x"] : List Str).zip us)) ∧ ∀ base : Heap, K.In base → base.Ns mainGlobals mg → FnOk P w K mg base CX0 3 fa fd ["w", "h", "x"] (spMain K) := by
  have e := hfa.symm.trans (PySem.W.mg_of X G a5)
  cases e
  have F1 := fun_mk (st := s_side_in_range) l1 c1 k1
  have b1 := F1.binds (ps := ["side"]) fun _ _ _ _ _ _ us hl => match us, hl with | [_], _ => rfl
  have F2 := fun_mk (st := s_words_in_row) l2 c2 k2
  have b2 := F2.binds (ps := ["w"]) fun _ _ _ _ _ _ us hl => match us, hl with | [_], _ => rfl
  have F3 := fun_mk (st := s_dot_at) l3 c3 k3
  have b3 := F3.binds (ps := ["x", "w", "h", "c", "r"]) fun _ _ _ _ _ _ us hl => match us, hl with | [_, _, _, _, _], _ => rfl
  have F4 := fun_mk (st := s_row_words) l4 c4 k4
  have b4 := F4.binds (ps := ["dots"]) fun _ _ _ _ _ _ us hl => match us, hl with | [_], _ => rfl
  have F5 := fun_mk (st := s_st_turn) l5 c5 k5
  have b5 := F5.binds (ps := ["w", "h", "x"]) fun _ _ _ _ _ _ us hl => match us, hl with | [_, _, _], _ => rfl
  exact ⟨_, fun s us hu => match us, hu with | [_, _, _], _ => .of_eq rfl, fun base _ _ => ok_main (⟨u1, PySem.W.mg_of X G n1, u2, PySem.W.mg_of X G n2, _, _, F1, b1, PySem.W.mg_of X G a1, _, _, F2, b2, PySem.W.mg_of X G a2, _, _, F3, b3, PySem.W.mg_of X G a3, _, _, F4, b4, PySem.W.mg_of X G a4, _, _, F5, b5, PySem.W.mg_of X G a5, PySem.W.mg_none_of X G z1, PySem.W.mg_none_of X G z2⟩ : Txt K mg)⟩
end Pg
open PySem PySem.W PyProof.Rows
set_option maxRecDepth 100000 in
set_option maxHeartbeats 0 in
theorem PySem.Challenge.cw_pagestraight_s13_st_turn_holds : PySem.Challenge.rw_pagestraight_s13_st_turn.Holds := by
  w_on; k_headS; (case hw => exact ⟨[.int 0, .int 0, .list []], by decide +kernel, by decide +kernel⟩)
  k_fillS
  refine L2.walk_specK (r := PySem.Challenge.rw_pagestraight_s13_st_turn) (k := 3) (CX := L2.CX0) (ps := ["w", "h", "x"]) (sp := Pg.spMain) (by decide +kernel) rfl rfl ⟨rfl, by decide, by decide⟩ (fun w h Y => PySem.W.kIn_of Y) ?F ?S (fun _ _ _ _ z => z)
  case F =>
    intro w mg fa h Y KX G hmg
    refine' Pg.all_mk KX G hmg ?a1 ?l1 ?c1 ?k1 ?a2 ?l2 ?c2 ?k2 ?a3 ?l3 ?c3 ?k3 ?a4 ?l4 ?c4 ?k4 ?a5 ?l5 ?c5 ?k5 ?n1 ?n2 ?z1 ?z2
    (case a1 => k_is)
    (case l1 => k_is)
    (case c1 => k_is)
    (case k1 => k_is)
    (case a2 => k_is)
    (case l2 => k_is)
    (case c2 => k_is)
    (case k2 => k_is)
    (case a3 => k_is)
    (case l3 => k_is)
    (case c3 => k_is)
    (case k3 => k_is)
    (case a4 => k_is)
    (case l4 => k_is)
    (case c4 => k_is)
    (case k4 => k_is)
    (case a5 => k_is)
    (case l5 => k_is)
    (case c5 => k_is)
    (case k5 => k_is)
    (case n1 => k_is)
    (case n2 => k_is)
    (case z1 => k_is)
    (case z2 => k_is)
  case S =>
    intro K H xs a hO hwi hask hx
    obtain ⟨w, h, x, u⟩ := a
    obtain ⟨zs, e2, hx2⟩ := Pg.req_int (k := w) hx
    obtain ⟨ts, e3, hx3⟩ := Pg.req_int (k := h) hx2
    obtain ⟨p, e4, hS⟩ := Pg.req1 (x := x) hx3
    have A := Pg.pageQ_of (n := 12) (by decide) (show Sh57Neutral.asked [[12, w, h], x] = true from hask) hwi
    exact ⟨w, h, p, x, e2.trans (congrArg _ (e3.trans (congrArg _ e4))), hS, A, fun H' p hp => .lst (L2.SqL.of hp) (L2.dw_ints _)⟩
#print axioms PySem.Challenge.cw_pagestraight_s13_st_turn_holds
