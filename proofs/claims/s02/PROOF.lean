import PyProof.Rows.All
import Wide.All
import OpenK.AllK
import Wide.FinOn
import Open.SpecLaws
import KE.OsHead
import KE.OsGo
import HandS.ForSpec
import HandS.Comp
import HandS.Text
import PySem.Challenge.RW_pagestraight_s02_st_slant
set_option Elab.async false
set_option linter.all false
set_option maxRecDepth 100000
set_option maxHeartbeats 2000000
/-! The mathematics of pages: a page as rows of words, and back. Plain Lean alone. -/
namespace Pg
open Sh57
/-! ### sums of bits -/
def bitsum (p : Nat → Bool) (n : Nat) : Nat := ((List.range n).map fun j => if p j = true then 2 ^ j else 0).sum
theorem bitsum_zero (p : Nat → Bool) : bitsum p 0 = 0 := rfl
theorem bitsum_succ (p : Nat → Bool) (n : Nat) : bitsum p (n + 1) = bitsum p n + (if p n = true then 2 ^ n else 0) := by
  unfold bitsum
  rw [List.range_succ, List.map_append, List.sum_append]
  simp
theorem bitsum_lt (p : Nat → Bool) : ∀ n, bitsum p n < 2 ^ n
  | 0 => Nat.one_pos
  | n + 1 => by
    have ih := bitsum_lt p n
    rw [bitsum_succ, Nat.pow_succ]
    split <;> omega
theorem bitsum_congr {p q : Nat → Bool} : ∀ {n : Nat}, (∀ j, j < n → p j = q j) → bitsum p n = bitsum q n
  | 0, _ => rfl
  | n + 1, h => by
    rw [bitsum_succ, bitsum_succ, bitsum_congr (n := n) fun j hj => h j (by omega), h n (by omega)]
theorem bitsum_cut {p : Nat → Bool} {m : Nat} : ∀ {n : Nat}, (∀ j, m ≤ j → j < n → p j = false) → m ≤ n → bitsum p n = bitsum p m
  | 0, _, hm => by
    have e : m = 0 := by omega
    rw [e]
  | n + 1, h, hm => by
    by_cases e : m = n + 1
    · rw [e]
    · rw [bitsum_succ, bitsum_cut (n := n) (fun j h1 h2 => h j h1 (by omega)) (by omega), h n (by omega) (by omega)]
      simp
theorem bitsum_put {p q : Nat → Bool} {m : Nat} : ∀ {n : Nat}, m < n → (∀ j, j ≠ m → q j = p j) → p m = false → bitsum q n = bitsum p n + (if q m = true then 2 ^ m else 0)
  | 0, hm, _, _ => by omega
  | n + 1, hm, h, hp => by
    rw [bitsum_succ, bitsum_succ]
    by_cases e : m = n
    · subst e
      rw [bitsum_congr (p := q) (q := p) fun j hj => h j (by omega), hp]
      simp
    · rw [bitsum_put (n := n) (by omega) h hp, h n (fun z => e z.symm)]
      omega
/-! ### a row of dots as words -/
def word (bs : List Bool) (k : Nat) : Nat := bitsum (fun j => bs.getD (32 * k + j) false) 32
def rowL (bs : List Bool) : List Nat := (List.range (wide bs.length)).map (word bs)
theorem rowL_length (bs : List Bool) : (rowL bs).length = wide bs.length := by
  unfold rowL
  simp
theorem word_nil (k : Nat) : word [] k = 0 := by
  unfold word
  rw [bitsum_cut (m := 0) (fun j _ _ => by simp) (by omega)]
  rfl
theorem getD_take (bs : List Bool) (c i : Nat) : (bs.take c).getD i false = if i < c then bs.getD i false else false := by
  rw [List.getD_eq_getElem?_getD, List.getD_eq_getElem?_getD, List.getElem?_take]
  split <;> rfl
/-- bits of a word at or behind the place that is next aren't set -/
theorem word_take_lt (bs : List Bool) (c : Nat) : word (bs.take c) (c / 32) < 2 ^ (c % 32) := by
  unfold word
  rw [bitsum_cut (m := c % 32) (fun j h1 h2 => ?_) (by omega)]
  · exact bitsum_lt _ _
  · rw [getD_take, if_neg (by omega)]
theorem word_take_same (bs : List Bool) (c : Nat) : word (bs.take (c + 1)) (c / 32) = word (bs.take c) (c / 32) + (if bs.getD c false = true then 2 ^ (c % 32) else 0) := by
  unfold word
  have h1 : ∀ j, j ≠ c % 32 → (bs.take (c + 1)).getD (32 * (c / 32) + j) false = (bs.take c).getD (32 * (c / 32) + j) false := fun j hj => by
    rw [getD_take, getD_take]
    by_cases h : 32 * (c / 32) + j < c
    · rw [if_pos h, if_pos (by omega)]
    · rw [if_neg h, if_neg (by omega)]
  have h2 : (bs.take c).getD (32 * (c / 32) + c % 32) false = false := by
    rw [getD_take, if_neg (by omega)]
  have h3 : (bs.take (c + 1)).getD (32 * (c / 32) + c % 32) false = bs.getD c false := by
    have e : 32 * (c / 32) + c % 32 = c := by omega
    rw [e, getD_take, if_pos (by omega)]
  have h4 := bitsum_put (p := fun j => (bs.take c).getD (32 * (c / 32) + j) false) (q := fun j => (bs.take (c + 1)).getD (32 * (c / 32) + j) false) (m := c % 32) (n := 32) (by omega) h1 h2
  rw [h4, h3]
theorem word_take_other (bs : List Bool) (c k : Nat) (hk : k ≠ c / 32) : word (bs.take (c + 1)) k = word (bs.take c) k := by
  unfold word
  refine bitsum_congr fun j hj => ?_
  rw [getD_take, getD_take]
  by_cases h : 32 * k + j < c
  · rw [if_pos h, if_pos (by omega)]
  · rw [if_neg h, if_neg (by omega)]
/-- the words of the dots ahead of place c, as many as the whole row has -/
def rowTo (bs : List Bool) (c : Nat) : List Nat := (List.range (wide bs.length)).map (word (bs.take c))
theorem rowTo_zero (bs : List Bool) : rowTo bs 0 = List.replicate (wide bs.length) 0 := by
  unfold rowTo
  refine List.ext_getElem (by simp) fun i h1 h2 => ?_
  simp [word_nil]
theorem rowTo_all (bs : List Bool) : rowTo bs bs.length = rowL bs := by
  unfold rowTo rowL
  rw [List.take_length]
theorem rowTo_length (bs : List Bool) (c : Nat) : (rowTo bs c).length = wide bs.length := by
  unfold rowTo
  simp
theorem div_lt_wide {c n : Nat} (h : c < n) : c / 32 < wide n := by
  unfold wide
  omega
theorem rowTo_get (bs : List Bool) {c k : Nat} (h : k < wide bs.length) : (rowTo bs c)[k]? = some (word (bs.take c) k) := by
  unfold rowTo
  rw [List.getElem?_map, List.getElem?_range h]
  rfl
theorem rowTo_succ (bs : List Bool) {c : Nat} : rowTo bs (c + 1) = (rowTo bs c).set (c / 32) (word (bs.take c) (c / 32) + (if bs.getD c false = true then 2 ^ (c % 32) else 0)) := by
  refine List.ext_getElem? fun k => ?_
  by_cases hk : k < wide bs.length
  · rw [rowTo_get bs hk]
    by_cases e : k = c / 32
    · subst e
      rw [List.getElem?_set_self (by rw [rowTo_length]; exact hk), word_take_same]
    · rw [List.getElem?_set_ne (fun z => e z.symm), rowTo_get bs hk, word_take_other bs c k e]
  · rw [List.getElem?_eq_none (by rw [rowTo_length]; omega), List.getElem?_eq_none (by rw [List.length_set, rowTo_length]; omega)]
/-! ### pages -/
theorem each_length (w : Nat) (f : Nat → Nat → Bool) : ∀ h, (each w h f).length = h * w
  | 0 => by simp [each]
  | h + 1 => by
    have ih := each_length w f h
    unfold each at ih ⊢
    rw [List.range_succ, List.flatMap_append, List.length_append, ih, Nat.succ_mul]
    simp
theorem each_get (w : Nat) (f : Nat → Nat → Bool) {c : Nat} (hc : c < w) : ∀ {h r : Nat}, r < h → (each w h f)[r * w + c]? = some (f c r)
  | 0, r, hr => by omega
  | h + 1, r, hr => by
    have e : each w (h + 1) f = each w h f ++ (List.range w).map fun c => f c h := by
      unfold each
      rw [List.range_succ, List.flatMap_append]
      simp
    rw [e]
    by_cases q : r < h
    · have l : r * w + c < (each w h f).length := by
        rw [each_length]
        have := Nat.mul_le_mul_right w (show r + 1 ≤ h from q)
        rw [Nat.succ_mul] at this
        omega
      rw [List.getElem?_append_left l]
      exact each_get w f hc q
    · have er : r = h := by omega
      subst er
      rw [List.getElem?_append_right (by rw [each_length]; omega), each_length, Nat.add_sub_cancel_left, List.getElem?_map, List.getElem?_range hc]
      rfl
theorem dot_each (w h : Nat) (f : Nat → Nat → Bool) (c r : Nat) : dot w h (each w h f).toArray c r = (decide (c < w) && (decide (r < h) && f c r)) := by
  unfold dot
  by_cases hc : c < w
  · by_cases hr : r < h
    · have e : (each w h f).toArray.getD (r * w + c) false = f c r := by
        rw [Array.getD_eq_getD_getElem?, List.getElem?_toArray, each_get w f hc hr]
        rfl
      rw [e]
    · simp [hr]
  · simp [hc]
theorem words_each (w h : Nat) (f : Nat → Nat → Bool) : words w h (each w h f) = (List.range h).flatMap fun r => rowL ((List.range w).map fun c => f c r) := by
  unfold words rowL
  have go : ∀ (l : List Nat) (F G : Nat → List Nat), (∀ r ∈ l, F r = G r) → l.flatMap F = l.flatMap G := by
    intro l F G hfg
    induction l with
    | nil => rfl
    | cons a l ih =>
      rw [List.flatMap_cons, List.flatMap_cons, hfg a (by simp), ih fun r hr => hfg r (by simp [hr])]
  refine go _ _ _ fun r hr => ?_
  have hr : r < h := List.mem_range.mp hr
  rw [List.length_map, List.length_range]
  refine List.map_congr_left fun k _ => ?_
  unfold word
  show bitsum (fun j => dot w h (each w h f).toArray (32 * k + j) r) 32 = _
  refine bitsum_congr fun j _ => ?_
  rw [dot_each, List.getD_eq_getElem?_getD, List.getElem?_map]
  by_cases hc : 32 * k + j < w
  · rw [List.getElem?_range hc]
    simp [hc, hr]
  · rw [List.getElem?_eq_none (by rw [List.length_range]; omega)]
    simp [hc]
/-- the bit of a row's word -/
def bitAt (x : List Nat) (w c r : Nat) : Bool := x.getD (r * wide w + c / 32) 0 / 2 ^ (c % 32) % 2 == 1
theorem page_each (w h : Nat) (x : List Nat) : page w h x = each w h (bitAt x w) := by
  unfold page each bitAt
  dsimp only
  congr 1
  funext r
  congr 1
  funext c
  rw [Array.getD_eq_getD_getElem?, List.getElem?_toArray, List.getD_eq_getElem?_getD]
theorem dot_page (w h : Nat) (x : List Nat) (c r : Nat) : dot w h (page w h x).toArray c r = (decide (c < w) && (decide (r < h) && bitAt x w c r)) := by
  rw [page_each, dot_each]
/-- what stands at a place of a page of words, white beyond -/
def at_ (x : List Nat) (w h : Nat) (c r : Int) : Bool := there w h (page w h x).toArray c r
theorem at_out {x : List Nat} {w h : Nat} {c r : Int} (q : c < 0 ∨ (w : Int) ≤ c ∨ r < 0 ∨ (h : Int) ≤ r) : at_ x w h c r = false := by
  unfold at_ there
  rw [dot_page]
  rcases q with q | q | q | q
  · simp [show ¬ (0 ≤ c) by omega]
  · simp [show ¬ (c.toNat < w) by omega]
  · simp [show ¬ (0 ≤ r) by omega]
  · simp [show ¬ (r.toNat < h) by omega]
theorem at_in {x : List Nat} {w h c r : Nat} (hc : c < w) (hr : r < h) : at_ x w h (c : Int) (r : Int) = bitAt x w c r := by
  unfold at_ there
  rw [dot_page]
  simp [hc, hr]
theorem place_lt {w h c r : Nat} (hc : c < w) (hr : r < h) : r * wide w + c / 32 < h * wide w := by
  have h1 := div_lt_wide hc
  have h2 := Nat.mul_le_mul_right (wide w) (show r + 1 ≤ h from hr)
  rw [Nat.succ_mul] at h2
  omega
theorem flatMap_congr' {α β : Type} {l : List α} {F G : α → List β} (hfg : ∀ r ∈ l, F r = G r) : l.flatMap F = l.flatMap G := by
  induction l with
  | nil => rfl
  | cons a l ih =>
    rw [List.flatMap_cons, List.flatMap_cons, hfg a (by simp), ih fun r hr => hfg r (by simp [hr])]
/-- the rows of an answer -/
def rowsOf (w h : Nat) (g : Nat → Nat → Bool) : List Nat := (List.range h).flatMap fun r => rowL ((List.range w).map fun c => g c r)
theorem rowsOf_succ (w h : Nat) (g : Nat → Nat → Bool) : rowsOf w (h + 1) g = rowsOf w h g ++ rowL ((List.range w).map fun c => g c h) := by
  unfold rowsOf
  rw [List.range_succ, List.flatMap_append]
  simp
theorem rowsOf_length (w : Nat) (g : Nat → Nat → Bool) : ∀ h, (rowsOf w h g).length = h * wide w
  | 0 => by simp [rowsOf]
  | h + 1 => by
    rw [rowsOf_succ, List.length_append, rowsOf_length w g h, rowL_length, Nat.succ_mul]
    simp
theorem one_each (w h : Nat) (g : Nat → Nat → Bool) : Sh57Neutral.told (one w h (each w h g)) = 0 :: (rowsOf w h g).map Int.ofNat := by
  unfold one
  rw [words_each]
  rfl
/-! ### the calls of stage 1 -/
def kOf (k : Int) : Int := Sh57Neutral.int32 k.toNat
def okS (k d w h : Int) : Bool := shearOk (kOf k) d.toNat w.toNat h.toNat
def natsOf (x : List Int) : List Nat := Sh57Neutral.nats x
theorem kOf_eq {k : Int} (h : 0 ≤ k) : kOf k = if k < 2147483648 then k else k - 4294967296 := by
  unfold kOf Sh57Neutral.int32
  by_cases q : k < 2147483648
  · rw [if_pos q, if_pos (show k.toNat < 2 ^ 31 by omega)]
    omega
  · rw [if_neg q, if_neg (show ¬ k.toNat < 2 ^ 31 by omega)]
    omega
theorem okS_iff {k d w h : Int} (hd : 0 ≤ d) (hw : 0 ≤ w) (hh : 0 ≤ h) : okS k d w h = true ↔ (-4096 ≤ kOf k ∧ kOf k ≤ 4096) ∧ (1 ≤ d ∧ d ≤ 4096) ∧ (1 ≤ w ∧ w ≤ 256) ∧ (1 ≤ h ∧ h ≤ 256) := by
  unfold okS shearOk sized among
  simp only [Bool.and_eq_true, decide_eq_true_eq]
  omega
def shearG (x : List Nat) (k : Int) (d w h : Nat) (c r : Nat) : Bool := at_ x w h (c : Int) ((r : Int) - shift w k d c)
def slantG (x : List Nat) (k : Int) (d w h : Nat) (c r : Nat) : Bool := at_ x w h ((c : Int) - shift h k d r) (r : Int)
def rollG (x : List Nat) (k : Int) (d w h : Nat) (c r : Nat) : Bool := at_ x w h (c : Int) (((r : Int) - shift w k d c) % (h : Int))
theorem shear_bad {k d w h : Int} {x : List Int} (q : okS k d w h = false) : PySh57.st_shear k d w h x = [-2] := by
  show Sh57Neutral.told (answer (if okS k d w h = true then _ else .bad)) = _
  rw [q]
  rfl
theorem slant_bad {k d w h : Int} {x : List Int} (q : okS k d w h = false) : PySh57.st_slant k d w h x = [-2] := by
  show Sh57Neutral.told (answer (if okS k d w h = true then _ else .bad)) = _
  rw [q]
  rfl
theorem roll_bad {k d w h : Int} {x : List Int} (q : okS k d w h = false) : PySh57.st_roll k d w h x = [-2] := by
  show Sh57Neutral.told (answer (if okS k d w h = true then _ else .bad)) = _
  rw [q]
  rfl
theorem shear_ok {k d w h : Int} {x : List Int} (q : okS k d w h = true) : PySh57.st_shear k d w h x = 0 :: (rowsOf w.toNat h.toNat (shearG (natsOf x) (kOf k) d.toNat w.toNat h.toNat)).map Int.ofNat := by
  show Sh57Neutral.told (answer (if okS k d w h = true then .shear (kOf k) d.toNat w.toNat h.toNat (natsOf x) else .bad)) = _
  rw [q, if_pos rfl]
  exact one_each _ _ _
theorem slant_ok {k d w h : Int} {x : List Int} (q : okS k d w h = true) : PySh57.st_slant k d w h x = 0 :: (rowsOf w.toNat h.toNat (slantG (natsOf x) (kOf k) d.toNat w.toNat h.toNat)).map Int.ofNat := by
  show Sh57Neutral.told (answer (if okS k d w h = true then .slant (kOf k) d.toNat w.toNat h.toNat (natsOf x) else .bad)) = _
  rw [q, if_pos rfl]
  exact one_each _ _ _
theorem roll_at {x : List Nat} {k : Int} {d w h c r : Nat} (hh : 0 < h) : dot w h (page w h x).toArray c (((r : Int) - shift w k d c) % (h : Int)).toNat = rollG x k d w h c r := by
  unfold rollG at_ there
  have h1 : (0 : Int) ≤ ((r : Int) - shift w k d c) % (h : Int) := Int.emod_nonneg _ (by omega)
  simp [h1]
theorem roll_ok {k d w h : Int} {x : List Int} (q : okS k d w h = true) (hh : 0 < h.toNat) : PySh57.st_roll k d w h x = 0 :: (rowsOf w.toNat h.toNat (rollG (natsOf x) (kOf k) d.toNat w.toNat h.toNat)).map Int.ofNat := by
  show Sh57Neutral.told (answer (if okS k d w h = true then .roll (kOf k) d.toNat w.toNat h.toNat (natsOf x) else .bad)) = _
  rw [q, if_pos rfl]
  refine (one_each _ _ _).trans ?_
  have e : (fun (c r : Nat) => dot w.toNat h.toNat (page w.toNat h.toNat (natsOf x)).toArray c (((r : Int) - shift w.toNat (kOf k) d.toNat c) % (h.toNat : Int)).toNat) = rollG (natsOf x) (kOf k) d.toNat w.toNat h.toNat := by
    funext c r
    exact roll_at hh
  show 0 :: List.map Int.ofNat (rowsOf w.toNat h.toNat (fun (c r : Nat) => dot w.toNat h.toNat (page w.toNat h.toNat (natsOf x)).toArray c (((r : Int) - shift w.toNat (kOf k) d.toNat c) % (h.toNat : Int)).toNat)) = _
  rw [e]
/-- what is asked of a page's call: the list's length where its numbers are in their ranges -/
theorem asked_len {n : Int} {k d w h : Int} {x : List Int} (hn : n = 0 ∨ n = 1 ∨ n = 2 ∨ n = 3) (q : Sh57Neutral.asked [[n, k, d, w, h], x] = true) (ok : okS k d w h = true) : x.length = h.toNat * wide w.toNat := by
  have q1 : Sh57Neutral.asked1 [[n, k, d, w, h], x] = true := by
    unfold Sh57Neutral.asked at q
    rw [Bool.and_eq_true] at q
    exact q.1
  have q2 : (if okS k d w h = true then x.length == h.toNat * ((w.toNat + 31) / 32) else (x.isEmpty) || (x.length == h.toNat * ((w.toNat + 31) / 32))) = true := by
    rcases hn with rfl | rfl | rfl | rfl <;>
    · simp only [Sh57Neutral.asked1, Bool.and_eq_true] at q1
      exact q1.2.2.2.2.2
  rw [ok, if_pos rfl] at q2
  exact eq_of_beq q2
end Pg
namespace Pg
open PySem PySem.Spec PyProof.Rows L2
open PySem.W (Codec)
/-! ### the text by places -/
def top (i : Nat) : Stmt := PySem.Challenge.pw_pagestraight_s02_st_slant.main.body.getD i (.Pass ⟨0, 0, 0, 0⟩)
abbrev s_signed : Stmt := top 6
abbrev s_side_in_range : Stmt := top 7
abbrev s_shear_in_range : Stmt := top 8
abbrev s_shear_move : Stmt := top 9
abbrev s_shear_moves : Stmt := top 10
abbrev s_words_in_row : Stmt := top 11
abbrev s_dot_at : Stmt := top 12
abbrev s_row_words : Stmt := top 13
abbrev s_st_slant : Stmt := top 14
/-! ### small things -/
theorem same_upd {H : Hp} {p : Addr} {o : HO} (h : H p = none) : Same H (upd H p o) := fun b x e => by
  rw [upd_ne (ne_of_none e h)]
  exact e
def b2 (b : Bool) : Int := if b = true then 1 else 0
/-- natural numbers as values -/
def vN (l : List Nat) : List V := l.map fun (n : Nat) => V.int (n : Int)
def vB (l : List Bool) : List V := l.map fun b => V.int (b2 b)
def vI (l : List Int) : List V := l.map V.int
theorem vN_length (l : List Nat) : (vN l).length = l.length := by
  unfold vN
  rw [List.length_map]
theorem vB_length (l : List Bool) : (vB l).length = l.length := by
  unfold vB
  rw [List.length_map]
theorem vI_length (l : List Int) : (vI l).length = l.length := by
  unfold vI
  rw [List.length_map]
theorem small {n m : Nat} (h : n ≤ m) (hm : m < sizeLine) : n < sizeLine := Nat.lt_of_le_of_lt h hm
theorem line_big : 10000000 < sizeLine := by decide
/-- a number of the file's top -/
theorem pe_gi {X : Cx} {x : Str} {i : Int} {t : Tok} {pos : Pos} (hg : Gl X x) (hm : X.mg x = some (.int i t)) (hd : (x == ("__debug__" : Str)) = false := by decide) : PE X (.Name x pos) (tC (.int i)) := pe_glob (v := .int i) hg hm ⟨_, rfl⟩ hd
/-- within a comprehension: the written part is the def's own -/
theorem ix_listK {X : Cx} {K : PySem.W.Frag} (h : X.K = K) : IxR X (rIxL K) := by
  subst h
  exact ix_list
/-! ### what the top has written -/
structure Txt (K : PySem.W.Frag) (mg : Str → Option Value) where
  t_WORD_BITS : Tok
  WORD_BITS : mg "WORD_BITS" = some (.int 32 t_WORD_BITS)
  t_WORD_LIMIT : Tok
  WORD_LIMIT : mg "WORD_LIMIT" = some (.int 4294967296 t_WORD_LIMIT)
  t_FIRST_WORD_BELOW_ZERO : Tok
  FIRST_WORD_BELOW_ZERO : mg "FIRST_WORD_BELOW_ZERO" = some (.int 2147483648 t_FIRST_WORD_BELOW_ZERO)
  t_STEEPEST : Tok
  STEEPEST : mg "STEEPEST" = some (.int 4096 t_STEEPEST)
  t_LARGEST_SIDE : Tok
  LARGEST_SIDE : mg "LARGEST_SIDE" = some (.int 256 t_LARGEST_SIDE)
  f_signed : Addr
  fd_signed : FuncData
  F_signed : Fun K "signed" "signed" s_signed f_signed fd_signed
  b_signed : Binds K fd_signed ["word"] []
  g_signed : mg "signed" = some (.ref f_signed)
  f_side_in_range : Addr
  fd_side_in_range : FuncData
  F_side_in_range : Fun K "side_in_range" "side_in_range" s_side_in_range f_side_in_range fd_side_in_range
  b_side_in_range : Binds K fd_side_in_range ["side"] []
  g_side_in_range : mg "side_in_range" = some (.ref f_side_in_range)
  f_shear_in_range : Addr
  fd_shear_in_range : FuncData
  F_shear_in_range : Fun K "shear_in_range" "shear_in_range" s_shear_in_range f_shear_in_range fd_shear_in_range
  b_shear_in_range : Binds K fd_shear_in_range ["k", "d", "w", "h"] []
  g_shear_in_range : mg "shear_in_range" = some (.ref f_shear_in_range)
  f_shear_move : Addr
  fd_shear_move : FuncData
  F_shear_move : Fun K "shear_move" "shear_move" s_shear_move f_shear_move fd_shear_move
  b_shear_move : Binds K fd_shear_move ["k", "d", "w", "c"] []
  g_shear_move : mg "shear_move" = some (.ref f_shear_move)
  f_shear_moves : Addr
  fd_shear_moves : FuncData
  F_shear_moves : Fun K "shear_moves" "shear_moves" s_shear_moves f_shear_moves fd_shear_moves
  b_shear_moves : Binds K fd_shear_moves ["k", "d", "w"] []
  g_shear_moves : mg "shear_moves" = some (.ref f_shear_moves)
  f_words_in_row : Addr
  fd_words_in_row : FuncData
  F_words_in_row : Fun K "words_in_row" "words_in_row" s_words_in_row f_words_in_row fd_words_in_row
  b_words_in_row : Binds K fd_words_in_row ["w"] []
  g_words_in_row : mg "words_in_row" = some (.ref f_words_in_row)
  f_dot_at : Addr
  fd_dot_at : FuncData
  F_dot_at : Fun K "dot_at" "dot_at" s_dot_at f_dot_at fd_dot_at
  b_dot_at : Binds K fd_dot_at ["x", "w", "h", "c", "r"] []
  g_dot_at : mg "dot_at" = some (.ref f_dot_at)
  f_row_words : Addr
  fd_row_words : FuncData
  F_row_words : Fun K "row_words" "row_words" s_row_words f_row_words fd_row_words
  b_row_words : Binds K fd_row_words ["dots"] []
  g_row_words : mg "row_words" = some (.ref f_row_words)
  f_st_slant : Addr
  fd_st_slant : FuncData
  F_st_slant : Fun K "st_slant" "st_slant" s_st_slant f_st_slant fd_st_slant
  b_st_slant : Binds K fd_st_slant ["k", "d", "w", "h", "x"] []
  g_st_slant : mg "st_slant" = some (.ref f_st_slant)
  m_len : mg "len" = none
  m_range : mg "range" = none
section
variable {P : Program} {w : World} {K : PySem.W.Frag} {mg : Str → Option Value} {base : Heap}
/-! ### signed -/
def spSigned : Sp := fun vs H Q _ => ∃ k : Int, vs = [.int k] ∧ 0 ≤ k ∧ Q (.int (kOf k)) H
theorem scSigned : FnScope ["word"] ["word"] (defScope s_signed) := ⟨rfl, rfl, rfl, by decide +kernel, rfl, by decide +kernel, by decide +kernel⟩
theorem ok_signed {k : Nat} (T : Txt K mg) : FnOk P w K mg base CX0 (k + 1) T.f_signed T.fd_signed ["word"] spSigned := by
  refine T.F_signed.ok scSigned (fun vs H Q E h => ?_) (fun cdv A outer s H vs Q E hr h => ?_)
  · obtain ⟨n, rfl, _⟩ := h
    rfl
  · obtain ⟨n, rfl, h0, q⟩ := h
    refine ⟨_, pss_cons (ps_if (pt_cmpR op_ge (pv 0) (pe_gi rfl T.FIRST_WORD_BELOW_ZERO) (nomark _)) (pss_one (ps_ret (pe_op op_sub (pv 0) (pe_gi rfl T.WORD_LIMIT)))) pss_nil) (pss_one (ps_ret (pv 0))), ?_⟩
    refine ⟨_, rfl, _, _, rfl, rfl, _, rfl, ite2 (fun e => ?_) (fun e => ?_)⟩
    · have e : (2147483648 : Int) ≤ n := of_decide_eq_true e
      refine ⟨_, rfl, _, _, rfl, rfl, ?_⟩
      have e2 : kOf n = n - 4294967296 := by rw [kOf_eq h0, if_neg (by omega)]
      rw [e2] at q
      exact q
    · have e : ¬ (2147483648 : Int) ≤ n := fun z => e (decide_eq_true z)
      refine ⟨_, rfl, ?_⟩
      have e2 : kOf n = n := by rw [kOf_eq h0, if_pos (by omega)]
      rw [e2] at q
      exact q
/-! ### side_in_range -/
def sideB (n : Int) : Bool := decide (1 ≤ n ∧ n ≤ 256)
def spSide : Sp := fun vs H Q _ => ∃ n : Int, vs = [.int n] ∧ Q (.bl (sideB n)) H
theorem scSide : FnScope ["side"] ["side"] (defScope s_side_in_range) := ⟨rfl, rfl, rfl, by decide +kernel, rfl, by decide +kernel, by decide +kernel⟩
theorem ok_side {k : Nat} (T : Txt K mg) : FnOk P w K mg base CX0 (k + 1) T.f_side_in_range T.fd_side_in_range ["side"] spSide := by
  refine T.F_side_in_range.ok scSide (fun vs H Q E h => ?_) (fun cdv A outer s H vs Q E hr h => ?_)
  · obtain ⟨n, rfl, _⟩ := h
    rfl
  · obtain ⟨n, rfl, q⟩ := h
    refine ⟨_, pss_one (ps_ret (pe_chain op_le op_le pe_int (pv 0) (pe_gi rfl T.LARGEST_SIDE))), ?_⟩
    refine ⟨_, rfl, _, _, rfl, rfl, _, rfl, ite2 (fun e => ?_) (fun e => ?_)⟩
    · have e : (1 : Int) ≤ n := of_decide_eq_true e
      refine ⟨_, _, rfl, rfl, ?_⟩
      have e2 : sideB n = decide (n ≤ 256) := by
        unfold sideB
        exact decide_eq_decide.mpr ⟨fun z => z.2, fun z => ⟨e, z⟩⟩
      rw [e2] at q
      exact q
    · have e : ¬ (1 : Int) ≤ n := fun z => e (decide_eq_true z)
      have e2 : sideB n = false := decide_eq_false fun z => e z.1
      rw [e2] at q
      exact q
/-! ### shear_in_range -/
def rangeB (k d w h : Int) : Bool := decide ((-4096 ≤ k ∧ k ≤ 4096) ∧ (1 ≤ d ∧ d ≤ 4096) ∧ (1 ≤ w ∧ w ≤ 256) ∧ (1 ≤ h ∧ h ≤ 256))
def spRange : Sp := fun vs H Q _ => ∃ k d w h : Int, vs = [.int k, .int d, .int w, .int h] ∧ Q (.bl (rangeB k d w h)) H
theorem scRange : FnScope ["k", "d", "w", "h"] ["k", "d", "w", "h"] (defScope s_shear_in_range) := ⟨rfl, rfl, rfl, by decide +kernel, rfl, by decide +kernel, by decide +kernel⟩
theorem ok_range {k : Nat} (T : Txt K mg) : FnOk P w K mg base CX0 (k + 2) T.f_shear_in_range T.fd_shear_in_range ["k", "d", "w", "h"] spRange := by
  refine T.F_shear_in_range.ok scRange (fun vs H Q E h => ?_) (fun cdv A outer s H vs Q E hr h => ?_)
  · obtain ⟨k, d, w, h, rfl, _⟩ := h
    rfl
  · obtain ⟨k, d, w, h, rfl, q⟩ := h
    refine ⟨_, pss_cons (ps_if (pt_not (pt_chain op_le op_le (pe_un un_neg (pe_gi rfl T.STEEPEST)) (pv 0) (pe_gi rfl T.STEEPEST))) (pss_one (ps_ret pe_bl)) pss_nil)
      (pss_cons (ps_if (pt_not (pt_chain op_le op_le pe_int (pv 1) (pe_gi rfl T.STEEPEST))) (pss_one (ps_ret pe_bl)) pss_nil)
      (pss_one (ps_ret (pe_and (pe_call (ok_side T) hr rfl T.g_side_in_range T.F_side_in_range.kp T.b_side_in_range .nil pass0 (pa_cons (pv 2) pa_nil)) (pe_one (pe_call (ok_side T) hr rfl T.g_side_in_range T.F_side_in_range.kp T.b_side_in_range .nil pass0 (pa_cons (pv 3) pa_nil))))))), ?_⟩
    have no : ¬ ((-4096 ≤ k ∧ k ≤ 4096) ∧ (1 ≤ d ∧ d ≤ 4096) ∧ (1 ≤ w ∧ w ≤ 256) ∧ (1 ≤ h ∧ h ≤ 256)) → Q (.bl false) H := fun z => by
      have e2 : rangeB k d w h = false := decide_eq_false z
      rw [e2] at q
      exact q
    refine ⟨_, rfl, _, rfl, _, _, rfl, rfl, _, rfl, ite2 (fun e => ?_) (fun e => ?_)⟩
    · have e : (-4096 : Int) ≤ k := of_decide_eq_true e
      refine ⟨_, _, rfl, rfl, _, rfl, ite2 (fun e1 => ?_) (fun e1 => ?_)⟩
      · have e1 : ¬ k ≤ (4096 : Int) := by simpa using e1
        exact no (by omega)
      · have e1 : k ≤ (4096 : Int) := by simpa using e1
        refine ⟨_, rfl, _, _, rfl, rfl, _, rfl, ite2 (fun e2 => ?_) (fun e2 => ?_)⟩
        · have e2 : (1 : Int) ≤ d := of_decide_eq_true e2
          refine ⟨_, _, rfl, rfl, _, rfl, ite2 (fun e3 => ?_) (fun e3 => ?_)⟩
          · have e3 : ¬ d ≤ (4096 : Int) := by simpa using e3
            exact no (by omega)
          · have e3 : d ≤ (4096 : Int) := by simpa using e3
            refine ⟨_, rfl, w, rfl, _, rfl, ite2 (fun e4 => ?_) (fun e4 => ?_)⟩
            · have e4 : 1 ≤ w ∧ w ≤ 256 := of_decide_eq_true e4
              refine ⟨_, rfl, h, rfl, ?_⟩
              have e5 : rangeB k d w h = sideB h := decide_eq_decide.mpr ⟨fun z => z.2.2.2, fun z => ⟨⟨e, e1⟩, ⟨e2, e3⟩, e4, z⟩⟩
              rw [e5] at q
              exact q
            · have e4 : ¬ (1 ≤ w ∧ w ≤ 256) := fun z => e4 (decide_eq_true z)
              exact no (fun z => e4 z.2.2.1)
        · have e2 : ¬ (1 : Int) ≤ d := fun z => e2 (decide_eq_true z)
          exact ⟨_, rfl, iteT (no (by omega))⟩
    · have e : ¬ (-4096 : Int) ≤ k := fun z => e (decide_eq_true z)
      exact ⟨_, rfl, iteT (no (by omega))⟩
/-! ### shear_move -/
def spMove : Sp := fun vs H Q _ => ∃ (k : Int) (d w c : Nat), vs = [.int k, .int (d : Int), .int (w : Int), .int (c : Int)] ∧ (-4096 ≤ k ∧ k ≤ 4096) ∧ (1 ≤ d ∧ d ≤ 4096) ∧ Q (.int (Sh57.shift w k d c)) H
theorem scMove : FnScope ["k", "d", "w", "c"] ["k", "d", "w", "c"] (defScope s_shear_move) := ⟨rfl, rfl, rfl, by decide +kernel, rfl, by decide +kernel, by decide +kernel⟩
theorem ok_move {k : Nat} (T : Txt K mg) : FnOk P w K mg base CX0 (k + 1) T.f_shear_move T.fd_shear_move ["k", "d", "w", "c"] spMove := by
  refine T.F_shear_move.ok scMove (fun vs H Q E h => ?_) (fun cdv A outer s H vs Q E hr h => ?_)
  · obtain ⟨k, d, w, c, rfl, _⟩ := h
    rfl
  · obtain ⟨k, d, w, c, rfl, hk, hd, q⟩ := h
    refine ⟨_, pss_one (ps_ret (pe_op op_fdivN (pe_op op_add (pe_op op_mul (pv 0) (pe_op op_sub (pe_op op_mul pe_int (pv 3)) (pe_op op_sub (pv 2) pe_int))) (pv 1)) (pe_op op_mul pe_int (pv 1)))), ?_⟩
    refine ⟨_, rfl, _, rfl, _, _, rfl, rfl, .inl ⟨by decide, by decide⟩, _, rfl, _, _, rfl, rfl, _, _, rfl, rfl, _, _, rfl, rfl, .inl ⟨by omega, by omega⟩, _, rfl, _, _, rfl, rfl, _, rfl, _, _, rfl, rfl, .inl ⟨by decide, by decide⟩, _, _, rfl, rfl, ⟨by omega, by omega⟩, ?_⟩
    exact q
/-! ### shear_moves -/
def movesL (k : Int) (d n : Nat) : List V := (List.range n).map fun c => V.int (Sh57.shift n k d c)
def spMoves : Sp := fun vs H Q _ => ∃ (k : Int) (d n : Nat), vs = [.int k, .int (d : Int), .int (n : Int)] ∧ (-4096 ≤ k ∧ k ≤ 4096) ∧ (1 ≤ d ∧ d ≤ 4096) ∧ n ≤ 4096 ∧
  ∀ H' p, Same H H' → H p = none → H' p = some (.lst (movesL k d n)) → Q (.ref p) H'
theorem scMoves : FnScope ["k", "d", "w", "c"] ["k", "d", "w"] (defScope s_shear_moves) := ⟨rfl, rfl, rfl, by decide +kernel, rfl, by decide +kernel, by decide +kernel⟩
theorem map_range_succ {α : Type} (f : Nat → α) (n : Nat) : (List.range (n + 1)).map f = (List.range n).map f ++ [f n] := by
  rw [List.range_succ, List.map_append]
  rfl
theorem ok_moves {k : Nat} (T : Txt K mg) : FnOk P w K mg base CX0 (k + 2) T.f_shear_moves T.fd_shear_moves ["k", "d", "w"] spMoves := by
  refine T.F_shear_moves.ok scMoves (fun vs H Q E h => ?_) (fun cdv A outer s H vs Q E hr h => ?_)
  · obtain ⟨k, d, n, rfl, _⟩ := h
    rfl
  · obtain ⟨k, d, n, rfl, hk, hd, hn, q⟩ := h
    refine ⟨_, pss_one (ps_ret (pe_lc (own := [("c", 3)]) (g := gName 3) (tt := tYes) rfl scMoves.nd (pi_range1 rfl T.m_range (pa_cons (pv 2) pa_nil)) (blkOk_by (N := ["k", "d", "w", "c"]) (sc := defScope s_shear_moves) (by decide +kernel))
      (fun _ _ _ _ _ => pg_name (i := 3) scMoves.nd rfl (Or.inl rfl)) (fun _ _ _ _ _ => pts_nil)
      (fun _ _ _ _ _ => pe_call (ok_move T) hr rfl T.g_shear_move T.F_shear_move.kp T.b_shear_move .nil pass0 (pa_cons (pv 0) (pa_cons (pv 1) (pa_cons (pv 2) (pa_cons (pv 3) pa_nil))))))), ?_⟩
    refine ⟨_, rfl, (n : Int), rfl, by omega, by omega, fun D hD => ?_⟩
    refine lc_range (lo := 0) (n := n) (fun i H' => Same H H' ∧ H' D = some (.lst ((List.range i).map fun c => V.int (Sh57.shift n k d c)))) ⟨same_upd hD, upd_same⟩ (fun i H' hi ⟨sm, e⟩ => ?_) (fun H' ⟨sm, e⟩ => q H' D sm hD e)
    refine ⟨rfl, ?_⟩
    refine ⟨_, rfl, _, rfl, _, rfl, _, rfl, k, d, n, i, ?_, hk, hd, _, e, ?_, ?_, ?_⟩
    · rw [Int.zero_add]
      rfl
    · rw [List.length_map, List.length_range]
      exact small (m := 4096) (by omega) (by decide)
    · exact fun b o z => by
        rw [upd_ne (ne_of_none z hD)]
        exact sm b o z
    · rw [upd_same, map_range_succ]
/-! ### words_in_row -/
def spWide : Sp := fun vs H Q _ => ∃ n : Nat, vs = [.int (n : Int)] ∧ Q (.int ((Sh57.wide n : Nat) : Int)) H
theorem scWide : FnScope ["w"] ["w"] (defScope s_words_in_row) := ⟨rfl, rfl, rfl, by decide +kernel, rfl, by decide +kernel, by decide +kernel⟩
theorem ok_wide {k : Nat} (T : Txt K mg) : FnOk P w K mg base CX0 (k + 1) T.f_words_in_row T.fd_words_in_row ["w"] spWide := by
  refine T.F_words_in_row.ok scWide (fun vs H Q E h => ?_) (fun cdv A outer s H vs Q E hr h => ?_)
  · obtain ⟨n, rfl, _⟩ := h
    rfl
  · obtain ⟨n, rfl, q⟩ := h
    refine ⟨_, pss_one (ps_ret (pe_op op_fdiv (pe_op op_sub (pe_op op_add (pv 0) (pe_gi rfl T.WORD_BITS)) pe_int) (pe_gi rfl T.WORD_BITS))), ?_⟩
    refine ⟨_, rfl, _, _, rfl, rfl, _, _, rfl, rfl, _, _, rfl, rfl, ⟨by decide, by decide⟩, ?_⟩
    have e : ((n : Int) + 32 - 1) / 32 = ((Sh57.wide n : Nat) : Int) := by
      unfold Sh57.wide
      omega
    rw [← e] at q
    exact q
/-! ### dot_at -/
def spDot (K : PySem.W.Frag) : Sp := fun vs H Q _ => ∃ (a : Addr) (x : List Nat) (w h : Nat) (c r : Int), vs = [.ref a, .int (w : Int), .int (h : Int), .int c, .int r] ∧ SqL K H a (vN x) ∧ x.length = h * Sh57.wide w ∧ h ≤ 4096 ∧ Q (.int (b2 (at_ x w h c r))) H
theorem scDot : FnScope ["x", "w", "h", "c", "r", "word"] ["x", "w", "h", "c", "r"] (defScope s_dot_at) := ⟨rfl, rfl, rfl, by decide +kernel, rfl, by decide +kernel, by decide +kernel⟩
theorem bit_and_one (n m : Nat) : Builtin.bitAnd ((n : Int) / 2 ^ m) 1 = b2 (n / 2 ^ m % 2 == 1) := by
  have e : ((n : Int) / 2 ^ m) = ((n / 2 ^ m : Nat) : Int) := by
    rw [Int.natCast_ediv, Int.natCast_pow]
    rfl
  rw [e, bitAnd_m1]
  unfold b2
  by_cases q : n / 2 ^ m % 2 = 1
  · rw [if_pos (by rw [q]; rfl)]
    omega
  · rw [if_neg (by intro z; exact q (eq_of_beq z))]
    omega
theorem ok_dot {k : Nat} (T : Txt K mg) : FnOk P w K mg base CX0 (k + 2) T.f_dot_at T.fd_dot_at ["x", "w", "h", "c", "r"] (spDot K) := by
  refine T.F_dot_at.ok scDot (fun vs H Q E h => ?_) (fun cdv A outer s H vs Q E hr h => ?_)
  · obtain ⟨a, x, w, h, c, r, rfl, _⟩ := h
    rfl
  · obtain ⟨a, x, w, h, c, r, rfl, hS, hlen, hh, q⟩ := h
    refine ⟨_, pss_cons (ps_if (PW.pt (pw_or (pt_cmpR op_lt (pv 3) pe_int (nomark _)) (pw_or (pt_cmpR op_ge (pv 3) (pv 1) (nomark _)) (pw_or (pt_cmpR op_lt (pv 4) pe_int (nomark _)) (pw_or1 (pt_cmpR op_ge (pv 4) (pv 2) (nomark _)))))))
        (pss_one (ps_ret pe_int)) pss_nil)
      (pss_cons (ps_set (i := 5) scDot.nd rfl (Or.inl rfl) (pe_ix ix_list (pv 0) (pe_op op_add (pe_op op_mul (pv 4) (pe_call (ok_wide T) hr rfl T.g_words_in_row T.F_words_in_row.kp T.b_words_in_row .nil pass0 (pa_cons (pv 1) pa_nil))) (pe_op op_fdiv (pv 3) (pe_gi rfl T.WORD_BITS))) (fun _ _ => rfl)))
      (pss_one (ps_ret (pe_op op_and (pe_op op_shr (pv 5) (pe_op op_mod (pv 3) (pe_gi rfl T.WORD_BITS))) pe_int)))), ?_⟩
    have out : (c < 0 ∨ (w : Int) ≤ c ∨ r < 0 ∨ (h : Int) ≤ r) → Q (.int 0) H := fun z => by
      rw [at_out z] at q
      exact q
    refine ⟨_, rfl, _, _, rfl, rfl, _, rfl, ite2 (fun e => ?_) (fun e => ?_)⟩
    · exact iteT (out (.inl (of_decide_eq_true e)))
    have e1 : ¬ c < 0 := fun z => e (decide_eq_true z)
    refine ⟨_, rfl, _, rfl, _, _, rfl, rfl, _, rfl, ite2 (fun e => ?_) (fun e => ?_)⟩
    · exact iteT (out (.inr (.inl (of_decide_eq_true e))))
    have e2 : ¬ (w : Int) ≤ c := fun z => e (decide_eq_true z)
    refine ⟨_, rfl, _, _, rfl, rfl, _, rfl, ite2 (fun e => ?_) (fun e => ?_)⟩
    · exact iteT (out (.inr (.inr (.inl (of_decide_eq_true e)))))
    have e3 : ¬ r < 0 := fun z => e (decide_eq_true z)
    refine ⟨_, rfl, _, rfl, _, _, rfl, rfl, _, rfl, ite2 (fun e => ?_) (fun e => ?_)⟩
    · exact out (.inr (.inr (.inr (of_decide_eq_true e))))
    have e4 : ¬ (h : Int) ≤ r := fun z => e (decide_eq_true z)
    obtain ⟨cn, rfl⟩ : ∃ cn : Nat, c = (cn : Int) := ⟨c.toNat, by omega⟩
    obtain ⟨rn, rfl⟩ : ∃ rn : Nat, r = (rn : Int) := ⟨r.toNat, by omega⟩
    have hc : cn < w := by omega
    have hr' : rn < h := by omega
    rw [at_in hc hr'] at q
    have pl := place_lt hc hr'
    rw [← hlen] at pl
    have g : (vN x)[rn * Sh57.wide w + cn / 32]? = some (V.int ((x[rn * Sh57.wide w + cn / 32] : Nat) : Int)) := by
      unfold vN
      rw [List.getElem?_map, List.getElem?_eq_getElem pl]
      rfl
    have eg : x.getD (rn * Sh57.wide w + cn / 32) 0 = x[rn * Sh57.wide w + cn / 32] := by
      rw [List.getD_eq_getElem?_getD, List.getElem?_eq_getElem pl]
      rfl
    refine ⟨_, rfl, _, rfl, _, rfl, w, rfl, _, _, rfl, rfl, .inl ⟨by omega, by omega⟩, _, rfl, _, _, rfl, rfl, ⟨by decide, by decide⟩, _, _, rfl, rfl, a, _, _, _, rfl, rfl, hS, at_of (j := rn * Sh57.wide w + cn / 32) ?_ g, ?_⟩
    · rw [Int.natCast_add, Int.natCast_mul]
      rfl
    refine ⟨_, rfl, _, rfl, _, _, rfl, rfl, (by show (0 : Int) < 32; decide), _, _, rfl, rfl, (by show (0 : Int) ≤ (cn : Int) % 32; omega), _, _, rfl, rfl, ?_⟩
    have em : ((cn : Int) % 32).toNat = cn % 32 := by omega
    unfold bitAt at q
    rw [eg, ← bit_and_one, ← em] at q
    exact q
/-! ### row_words -/
def spRow (K : PySem.W.Frag) : Sp := fun vs H Q _ => ∃ (a : Addr) (bs : List Bool), vs = [.ref a] ∧ SqL K H a (vB bs) ∧ bs.length ≤ 4096 ∧ ∀ H' p, Same H H' → H p = none → H' p = some (.lst (vN (rowL bs))) → Q (.ref p) H'
theorem scRow : FnScope ["dots", "words", "c"] ["dots"] (defScope s_row_words) := ⟨rfl, rfl, rfl, by decide +kernel, rfl, by decide +kernel, by decide +kernel⟩
theorem rep_zero (n : Nat) : (List.replicate n [V.int 0]).flatten = vN (List.replicate n 0) := by
  induction n with
  | zero => rfl
  | succ n ih =>
    rw [List.replicate_succ, List.flatten_cons, ih]
    rfl
theorem vN_set (l : List Nat) (j n : Nat) : (vN l).set j (V.int (n : Int)) = vN (l.set j n) := by
  unfold vN
  rw [List.map_set]
theorem or_bit {x m : Nat} (b : Bool) (h : x < 2 ^ m) : Builtin.bitOr (x : Int) (b2 b * 2 ^ m) = ((x + (if b = true then 2 ^ m else 0) : Nat) : Int) := by
  have e : ((2 : Int) ^ m) = ((2 ^ m : Nat) : Int) := by
    rw [Int.natCast_pow]
    rfl
  rw [Bits.bitOr_join (Int.natCast_nonneg _) (by rw [e]; omega) (by unfold b2; split <;> decide), e]
  unfold b2
  cases b with
  | false => simp
  | true => simp
theorem ixN_nat {n j : Nat} {z : Int} (e : z = (j : Int)) (h : j < n) : ixN n z = some j := by
  subst e
  unfold ixN
  simp [h]
theorem ok_row {k : Nat} (T : Txt K mg) : FnOk P w K mg base CX0 (k + 2) T.f_row_words T.fd_row_words ["dots"] (spRow K) := by
  refine T.F_row_words.ok scRow (fun vs H Q E h => ?_) (fun cdv A outer s H vs Q E hr h => ?_)
  · obtain ⟨a, bs, rfl, _⟩ := h
    rfl
  · obtain ⟨a, bs, rfl, hS, hlen, q⟩ := h
    refine ⟨_, pss_cons (ps_set (i := 1) scRow.nd rfl (Or.inl rfl) (pe_op op_rep (pe_lst (pa_cons pe_int pa_nil)) (pe_call (ok_wide T) hr rfl T.g_words_in_row T.F_words_in_row.kp T.b_words_in_row .nil pass0 (pa_cons (pe_callB call_len_seq (by rfl) T.m_len PySem.boot_len (pa_cons (pv 0) pa_nil)) pa_nil))))
      (pss_cons (ps_for PassesOwn.never rfl (pi_range1 rfl T.m_range (pa_cons (pe_callB call_len_seq (by rfl) T.m_len PySem.boot_len (pa_cons (pv 0) pa_nil)) pa_nil)) (pg_name (i := 2) scRow.nd rfl (Or.inl rfl))
        (pss_one (ps_asg (pe_op op_or (pe_ix ix_list (pv 1) (pe_op op_fdiv (pv 2) (pe_gi rfl T.WORD_BITS)) (fun _ _ => rfl)) (pe_op op_shl (pe_ix ix_list (pv 0) (pv 2) (fun _ _ => rfl)) (pe_op op_mod (pv 2) (pe_gi rfl T.WORD_BITS))))
          (pg_sub (pv 1) (pe_op op_fdiv (pv 2) (pe_gi rfl T.WORD_BITS)) set_list))))
      (pss_one (ps_ret (pv 1)))), ?_⟩
    -- [0] * words_in_row(len(dots))
    refine ⟨(by show 1 ≤ sizeLine; decide), fun l hl => ?_⟩
    have s1 : Same H (upd H l (.lst [.int 0])) := same_upd hl
    refine ⟨_, rfl, a, _, rfl, .inl (s1.seq hS), bs.length, (by rw [vB_length]; rfl), ?_⟩
    have hw : Sh57.wide bs.length ≤ 4096 := by
      unfold Sh57.wide
      omega
    refine ⟨l, _, _, rfl, rfl, upd_same, by omega, by omega, ?_, fun p hp => ?_⟩
    · show 1 * (Int.toNat _) ≤ sizeLine
      rw [Int.toNat_natCast]
      exact Nat.le_of_lt (small (m := 4096) (by omega) (by decide))
    have s2 := s1.trans (same_upd (o := .lst ((List.replicate ((Sh57.wide bs.length : Nat) : Int).toNat [V.int 0]).flatten)) hp)
    have hpH : H p = none := s1.free hp
    -- the loop
    refine ⟨_, rfl, a, _, rfl, .inl (s2.seq hS), (bs.length : Int), (by rw [vB_length]), by omega, by omega, for_range (lo := 0) (n := bs.length) (fun i σ H' => ∃ v : Option V, σ = [some (.ref a), some (.ref p), v] ∧ Same H H' ∧ H' p = some (.lst (vN (rowTo bs i)))) ⟨none, rfl, s2, ?_⟩ ?_ ?_⟩
    · rw [upd_same, Int.toNat_natCast, rep_zero, rowTo_zero]
    · rintro i σ H' hi ⟨v, rfl, sm, e⟩
      have hj : i / 32 < Sh57.wide bs.length := div_lt_wide hi
      have g1 : (vN (rowTo bs i))[i / 32]? = some (V.int ((word (bs.take i) (i / 32) : Nat) : Int)) := by
        unfold vN
        rw [List.getElem?_map, rowTo_get bs hj]
        rfl
      have g2 : (vB bs)[i]? = some (V.int (b2 (bs.getD i false))) := by
        unfold vB
        rw [List.getElem?_map, List.getD_eq_getElem?_getD, List.getElem?_eq_getElem hi]
        rfl
      have b2small : (b2 (bs.getD i false)).natAbs < 2 ^ 64 := by
        unfold b2
        split <;> decide
      have e32 : (0 + (i : Int)) / 32 = ((i / 32 : Nat) : Int) := by omega
      refine ⟨_, rfl, _, rfl, _, _, rfl, rfl, ⟨by decide, by decide⟩, p, _, _, _, rfl, rfl, SqL.of e, at_of (j := i / 32) e32 g1, _, rfl, _, rfl, a, _, _, _, rfl, rfl, sm.seq hS, at_of (j := i) (Int.zero_add _) g2, _, rfl, _, _, rfl, rfl, (by show (0 : Int) < 32; decide),
        _, _, rfl, rfl, ⟨by omega, by omega, b2small⟩, _, _, rfl, rfl, _, rfl, _, rfl, _, _, rfl, rfl, ⟨by decide, by decide⟩, p, _, _, i / 32, rfl, rfl, e, ixN_nat e32 (by rw [vN_length, rowTo_length]; exact hj), ?_⟩
      have em : ((0 + (i : Int)) % 32).toNat = i % 32 := by omega
      dsimp only
      rw [em, or_bit _ (word_take_lt bs i), vN_set, ← rowTo_succ]
      exact ⟨_, rfl, fun b o z => (by rw [upd_ne (ne_of_none z hpH)]; exact sm b o z), upd_same⟩
    · rintro σ H' ⟨v, rfl, sm, e⟩
      rw [rowTo_all] at e
      exact ⟨_, rfl, q H' p sm hpH e⟩
/-! ### what is handed in -/
/-- what the row lets be handed in -/
structure Page (k d w h : Int) (x : List Int) : Prop where
  hk : 0 ≤ k
  hd : 0 ≤ d
  hw : 0 ≤ w
  hh : 0 ≤ h
  hx : ∀ z ∈ x, 0 ≤ z
  len : okS k d w h = true → x.length = h.toNat * Sh57.wide w.toNat
theorem vI_nats {x : List Int} (h : ∀ z ∈ x, 0 ≤ z) : vI x = vN (natsOf x) := by
  unfold vI vN natsOf Sh57Neutral.nats
  rw [List.map_map]
  refine List.map_congr_left fun z hz => ?_
  have := h z hz
  show V.int z = V.int ((z.toNat : Nat) : Int)
  rw [Int.toNat_of_nonneg this]
theorem vI_ofNat (l : List Nat) : vI (l.map Int.ofNat) = vN l := by
  unfold vI vN
  rw [List.map_map]
  rfl
theorem rangeB_ok {k d w h : Int} {x : List Int} (A : Page k d w h x) : rangeB (kOf k) d w h = okS k d w h := by
  rw [Bool.eq_iff_iff]
  unfold rangeB
  rw [okS_iff A.hd A.hw A.hh, decide_eq_true_eq]
theorem movesL_get {k : Int} {d n c : Nat} (h : c < n) : (movesL k d n)[c]? = some (V.int (Sh57.shift n k d c)) := by
  unfold movesL
  rw [List.getElem?_map, List.getElem?_range h]
  rfl
theorem wide_le {w : Nat} (h : w ≤ 256) : Sh57.wide w ≤ 8 := by
  unfold Sh57.wide
  omega
theorem vB_range_succ (g : Nat → Bool) (n : Nat) : vB ((List.range (n + 1)).map g) = vB ((List.range n).map g) ++ [V.int (b2 (g n))] := by
  rw [map_range_succ]
  unfold vB
  rw [List.map_append]
  rfl
/-! ### st_slant -/
def spMain (K : PySem.W.Frag) : Sp := fun vs H Q _ => ∃ (k d w h : Int) (a : Addr) (x : List Int), vs = [.int k, .int d, .int w, .int h, .ref a] ∧ SqL K H a (vI x) ∧ Page k d w h x ∧
  ∀ (H' : Hp) (p : Addr), H' p = some (.lst (vI (PySh57.st_slant k d w h x))) → Q (.ref p) H'
theorem scMain : FnScope ["k", "d", "w", "h", "x", "slope", "moves", "answer", "r", "c"] ["k", "d", "w", "h", "x"] (defScope s_st_slant) := ⟨rfl, rfl, rfl, by decide +kernel, rfl, by decide +kernel, by decide +kernel⟩
theorem ok_main (T : Txt K mg) : FnOk P w K mg base CX0 3 T.f_st_slant T.fd_st_slant ["k", "d", "w", "h", "x"] (spMain K) := by
  refine T.F_st_slant.ok scMain (fun vs H Q E h => ?_) (fun cdv A outer s H vs Q E hr h => ?_)
  · obtain ⟨k, d, w, h, a, x, rfl, _⟩ := h
    rfl
  · obtain ⟨k, d, w, h, a, x, rfl, hS, A, q⟩ := h
    have hr1 : Room 1 _ := hr.mono (by decide)
    refine ⟨_, pss_cons (ps_set (i := 5) scMain.nd rfl (Or.inl rfl) (pe_call (ok_signed T) hr1 rfl T.g_signed T.F_signed.kp T.b_signed .nil pass0 (pa_cons (pv 0) pa_nil)))
      (pss_cons (ps_if (pt_not (pt_val (pe_call (ok_range T) hr rfl T.g_shear_in_range T.F_shear_in_range.kp T.b_shear_in_range .nil pass0 (pa_cons (pv 5) (pa_cons (pv 1) (pa_cons (pv 2) (pa_cons (pv 3) pa_nil))))))) (pss_one (ps_ret (pe_lst (pa_cons (pe_un un_neg pe_int) pa_nil)))) pss_nil)
      (pss_cons (ps_set (i := 6) scMain.nd rfl (Or.inr rfl) (pe_call (ok_moves T) hr rfl T.g_shear_moves T.F_shear_moves.kp T.b_shear_moves .nil pass0 (pa_cons (pv 5) (pa_cons (pv 1) (pa_cons (pv 3) pa_nil)))))
      (pss_cons (ps_set (i := 7) scMain.nd rfl (Or.inl rfl) (pe_lst (pa_cons pe_int pa_nil)))
      (pss_cons (ps_for PassesOwn.never rfl (pi_range1 rfl T.m_range (pa_cons (pv 3) pa_nil)) (pg_name (i := 8) scMain.nd rfl (Or.inr rfl))
        (pss_one (ps_expr (pe_bm PySem.F.plainAttrs_list PySem.F.slot_list_extend PySem.F.type_list_extend mt_extend (pv 7) (pa_cons (pe_call (ok_row T) hr rfl T.g_row_words T.F_row_words.kp T.b_row_words .nil pass0 (pa_cons
          (pe_lc (own := [("c", 9)]) (g := gName 9) (tt := tYes) rfl scMain.nd (pi_range1 rfl T.m_range (pa_cons (pv 2) pa_nil)) (blkOk_by (N := ["k", "d", "w", "h", "x", "slope", "moves", "answer", "r", "c"]) (sc := defScope s_st_slant) (by decide +kernel))
            (fun _ _ _ _ _ => pg_name (i := 9) scMain.nd rfl (Or.inl rfl)) (fun _ _ _ _ _ => pts_nil)
            (fun _ _ _ _ _ => pe_call (ok_dot T) hr rfl T.g_dot_at T.F_dot_at.kp T.b_dot_at .nil pass0 (pa_cons (pv 4) (pa_cons (pv 2) (pa_cons (pv 3) (pa_cons (pe_op op_sub (pv 9) (pe_ix (ix_listK (K := K) rfl) (pv 6) (pv 8) (fun _ _ => rfl))) (pa_cons (pv 8) pa_nil)))))))
          pa_nil)) pa_nil)))))
      (pss_one (ps_ret (pv 7))))))), ?_⟩
    refine ⟨_, rfl, k, rfl, A.hk, ?_⟩
    refine ⟨_, rfl, _, rfl, _, rfl, _, rfl, kOf k, d, w, h, rfl, _, rfl, ?_⟩
    rw [rangeB_ok A]
    refine ite2 (fun e => ?_) (fun e => ?_)
    · have e : okS k d w h = false := by simpa using e
      refine ⟨2, rfl, (by show 1 ≤ sizeLine; decide), fun p hp => ?_⟩
      refine q _ p ?_
      rw [upd_same, slant_bad e]
      rfl
    · have e : okS k d w h = true := by simpa using e
      have ok := (okS_iff A.hd A.hw A.hh).mp e
      have hlen := A.len e
      rw [vI_nats A.hx] at hS
      rw [slant_ok e] at q
      have hdn : d = ((d.toNat : Nat) : Int) := by omega
      have hwn : w = ((w.toNat : Nat) : Int) := by omega
      have hhn : h = ((h.toNat : Nat) : Int) := by omega
      have hl2 : (natsOf x).length = h.toNat * Sh57.wide w.toNat := by
        unfold natsOf Sh57Neutral.nats
        rw [List.length_map, hlen]
      generalize d.toNat = dn at *
      generalize w.toNat = wn at *
      generalize h.toNat = hn at *
      generalize natsOf x = xs at *
      generalize kOf k = kk at *
      subst hdn hwn hhn
      -- moves = shear_moves(slope, d, w)
      refine ⟨_, rfl, _, rfl, _, rfl, kk, dn, hn, rfl, ok.1, by omega, by omega, fun H1 pm s1 np em => ?_⟩
      -- answer = [0]
      refine ⟨(by show 1 ≤ sizeLine; decide), fun pa na => ?_⟩
      have s2 : Same H1 (upd H1 pa (.lst [.int 0])) := same_upd na
      have naH : H pa = none := s1.free na
      have nam : pm ≠ pa := ne_of_none em na
      -- for r in range(h)
      refine ⟨_, rfl, (hn : Int), rfl, by omega, by omega, for_range (lo := 0) (n := hn) (fun i σ H' => ∃ v : Option V, σ = [some (.int k), some (.int (dn : Int)), some (.int (wn : Int)), some (.int (hn : Int)), some (.ref a), some (.int kk), some (.ref pm), some (.ref pa), v, none] ∧ Same H H' ∧ H' pm = some (.lst (movesL kk dn hn)) ∧
        H' pa = some (.lst (vN (0 :: rowsOf wn i (slantG xs kk dn wn hn))))) ⟨none, rfl, s1.trans s2, s2 _ _ em, upd_same⟩ ?_ ?_⟩
      · rintro i σ H' hi ⟨v, rfl, sm, e1, e2⟩
        have W8 := wide_le (w := wn) (by omega)
        -- the comprehension
        refine ⟨_, rfl, .inl ⟨rfl, _, SqL.of e2⟩, _, rfl, (wn : Int), rfl, by omega, by omega, fun D hD => ?_⟩
        have nD1 : pm ≠ D := ne_of_none e1 hD
        have nD2 : pa ≠ D := ne_of_none e2 hD
        have nDH : H D = none := sm.free hD
        refine lc_range (lo := 0) (n := wn) (fun c H2 => Same H H2 ∧ H2 pm = some (.lst (movesL kk dn hn)) ∧ H2 pa = some (.lst (vN (0 :: rowsOf wn i (slantG xs kk dn wn hn)))) ∧ H2 D = some (.lst (vB ((List.range c).map fun c => slantG xs kk dn wn hn c i))))
          ⟨sm.trans (same_upd hD), same_upd hD _ _ e1, same_upd hD _ _ e2, upd_same⟩ ?_ ?_
        · rintro c H2 hc ⟨sm2, e3, e4, e5⟩
          refine ⟨rfl, ?_⟩
          refine ⟨_, rfl, _, rfl, _, rfl, _, rfl, _, rfl, _, rfl, pm, _, _, _, rfl, rfl, SqL.of e3, at_of (j := i) (Int.zero_add _) (movesL_get hi), _, _, rfl, rfl, _, rfl,
            a, xs, wn, hn, ((c : Int) - Sh57.shift hn kk dn i), (i : Int), ?_, sm2.seq hS, hl2, by omega, _, e5, ?_, ?_, ?_, ?_, ?_⟩
          · rw [Int.zero_add, Int.zero_add]
            rfl
          · rw [vB_length, List.length_map, List.length_range]
            exact small (m := 256) (by omega) (by decide)
          · exact fun b o z => by
              rw [upd_ne (ne_of_none z nDH)]
              exact sm2 b o z
          · rw [upd_ne nD1]
            exact e3
          · rw [upd_ne nD2]
            exact e4
          · rw [upd_same, vB_range_succ]
            rfl
        · rintro H2 ⟨sm2, e3, e4, e5⟩
          refine ⟨D, (List.range wn).map fun c => slantG xs kk dn wn hn c i, rfl, SqL.of e5, by rw [List.length_map, List.length_range]; omega, fun H3 pr s3 nr er => ?_⟩
          refine ⟨pa, pr, _, _, rfl, rfl, s3 _ _ e4, er, ?_, ?_⟩
          · rw [vN_length, vN_length, List.length_cons, rowsOf_length, rowL_length, List.length_map, List.length_range]
            have h1 := Nat.mul_le_mul (show i ≤ 256 by omega) W8
            exact Nat.le_of_lt (small (m := 256 * 8 + 1 + 8) (by omega) (by decide))
          · refine ⟨_, rfl, fun b o z => ?_, ?_, ?_⟩
            · rw [upd_ne (ne_of_none z naH)]
              exact s3 _ _ (sm2 b o z)
            · rw [upd_ne nam]
              exact s3 _ _ e3
            · rw [upd_same, rowsOf_succ]
              unfold vN
              rw [← List.map_append]
              rfl
      · rintro σ H' ⟨v, rfl, sm, e1, e2⟩
        refine ⟨_, rfl, q H' pa ?_⟩
        rw [e2, ← vI_ofNat]
        rfl
end
/-! ### the request -/
theorem req5 {K : PySem.W.Frag} {H : Hp} {xs : List V} {k d w h : Int} {x : List Int} (hx : DwAll K H xs [.int k, .int d, .int w, .int h, .list (x.map PySem.W.WData.int)]) : ∃ a, xs = [.int k, .int d, .int w, .int h, .ref a] ∧ SqL K H a (vI x) := by
  cases hx with
  | cons h1 hx =>
  cases hx with
  | cons h2 hx =>
  cases hx with
  | cons h3 hx =>
  cases hx with
  | cons h4 hx =>
  cases hx with
  | cons h5 hx =>
  cases hx
  cases h1
  cases h2
  cases h3
  cases h4
  cases h5 with
  | lst hs ha =>
    have e := ints_dw x _ ha
    subst e
    exact ⟨_, rfl, hs⟩
theorem page_of {n k d w h : Int} {x : List Int} (hn : n = 0 ∨ n = 1 ∨ n = 2 ∨ n = 3) (qa : Sh57Neutral.asked [[n, k, d, w, h], x] = true)
    (q : (Codec.inInt 0 4294967295 k && (Codec.inInt 0 4294967295 d && (Codec.inInt 0 4294967295 w && (Codec.inInt 0 4294967295 h && ((Codec.inLen 0 2313 x && x.all (Codec.inInt 0 4294967295)) && true))))) = true) : Page k d w h x := by
  simp only [Bool.and_eq_true, Codec.inInt_iff, List.all_eq_true] at q
  exact ⟨q.1.1, q.2.1.1, q.2.2.1.1, q.2.2.2.1.1, fun z hz => (q.2.2.2.2.1.2 z hz).1, fun ok => asked_len hn qa ok⟩
/-! ### the end -/
theorem all_mk {P : Program} {w : World} {K : PySem.W.Frag} {h : Heap} {mg : Str → Option Value} {fa f1 f2 f3 f4 f5 f6 f7 f8 f9 : Addr} (X : K.In h) (G : h.Ns mainGlobals mg) (hfa : mg "st_slant" = some (.ref fa))
    {od1 an1 od2 an2 od3 an3 od4 an4 od5 an5 od6 an6 od7 an7 od8 an8 od9 an9 : Option Addr} {sl1 sl2 sl3 sl4 sl5 sl6 sl7 sl8 sl9 : Array (Option Value)} {oc1 kV1 dc1 pm1 cd1 ct1 oc2 kV2 dc2 pm2 cd2 ct2 oc3 kV3 dc3 pm3 cd3 ct3 oc4 kV4 dc4 pm4 cd4 ct4 oc5 kV5 dc5 pm5 cd5 ct5 oc6 kV6 dc6 pm6 cd6 ct6 oc7 kV7 dc7 pm7 cd7 ct7 oc8 kV8 dc8 pm8 cd8 ct8 oc9 kV9 dc9 pm9 cd9 ct9 : Value} {u1 : Tok} {u2 : Tok} {u3 : Tok} {u4 : Tok} {u5 : Tok}
    (a1 : PySem.W.nsIn K mainGlobals "signed" = some (some (.ref f1))) (l1 : K.lookup f1 = some ⟨oc1, od1, .func (PySem.W.fnOf "signed" "signed" (defArgs s_signed) (defBody s_signed) (defScope s_signed) .none kV1 dc1 pm1 an1 cd1 ct1), sl1⟩) (c1 : PySem.W.codeIn K cd1 "signed" = true) (k1 : PySem.W.keepIn K (.ref f1) = true)
    (a2 : PySem.W.nsIn K mainGlobals "side_in_range" = some (some (.ref f2))) (l2 : K.lookup f2 = some ⟨oc2, od2, .func (PySem.W.fnOf "side_in_range" "side_in_range" (defArgs s_side_in_range) (defBody s_side_in_range) (defScope s_side_in_range) .none kV2 dc2 pm2 an2 cd2 ct2), sl2⟩) (c2 : PySem.W.codeIn K cd2 "side_in_range" = true) (k2 : PySem.W.keepIn K (.ref f2) = true)
    (a3 : PySem.W.nsIn K mainGlobals "shear_in_range" = some (some (.ref f3))) (l3 : K.lookup f3 = some ⟨oc3, od3, .func (PySem.W.fnOf "shear_in_range" "shear_in_range" (defArgs s_shear_in_range) (defBody s_shear_in_range) (defScope s_shear_in_range) .none kV3 dc3 pm3 an3 cd3 ct3), sl3⟩) (c3 : PySem.W.codeIn K cd3 "shear_in_range" = true) (k3 : PySem.W.keepIn K (.ref f3) = true)
    (a4 : PySem.W.nsIn K mainGlobals "shear_move" = some (some (.ref f4))) (l4 : K.lookup f4 = some ⟨oc4, od4, .func (PySem.W.fnOf "shear_move" "shear_move" (defArgs s_shear_move) (defBody s_shear_move) (defScope s_shear_move) .none kV4 dc4 pm4 an4 cd4 ct4), sl4⟩) (c4 : PySem.W.codeIn K cd4 "shear_move" = true) (k4 : PySem.W.keepIn K (.ref f4) = true)
    (a5 : PySem.W.nsIn K mainGlobals "shear_moves" = some (some (.ref f5))) (l5 : K.lookup f5 = some ⟨oc5, od5, .func (PySem.W.fnOf "shear_moves" "shear_moves" (defArgs s_shear_moves) (defBody s_shear_moves) (defScope s_shear_moves) .none kV5 dc5 pm5 an5 cd5 ct5), sl5⟩) (c5 : PySem.W.codeIn K cd5 "shear_moves" = true) (k5 : PySem.W.keepIn K (.ref f5) = true)
    (a6 : PySem.W.nsIn K mainGlobals "words_in_row" = some (some (.ref f6))) (l6 : K.lookup f6 = some ⟨oc6, od6, .func (PySem.W.fnOf "words_in_row" "words_in_row" (defArgs s_words_in_row) (defBody s_words_in_row) (defScope s_words_in_row) .none kV6 dc6 pm6 an6 cd6 ct6), sl6⟩) (c6 : PySem.W.codeIn K cd6 "words_in_row" = true) (k6 : PySem.W.keepIn K (.ref f6) = true)
    (a7 : PySem.W.nsIn K mainGlobals "dot_at" = some (some (.ref f7))) (l7 : K.lookup f7 = some ⟨oc7, od7, .func (PySem.W.fnOf "dot_at" "dot_at" (defArgs s_dot_at) (defBody s_dot_at) (defScope s_dot_at) .none kV7 dc7 pm7 an7 cd7 ct7), sl7⟩) (c7 : PySem.W.codeIn K cd7 "dot_at" = true) (k7 : PySem.W.keepIn K (.ref f7) = true)
    (a8 : PySem.W.nsIn K mainGlobals "row_words" = some (some (.ref f8))) (l8 : K.lookup f8 = some ⟨oc8, od8, .func (PySem.W.fnOf "row_words" "row_words" (defArgs s_row_words) (defBody s_row_words) (defScope s_row_words) .none kV8 dc8 pm8 an8 cd8 ct8), sl8⟩) (c8 : PySem.W.codeIn K cd8 "row_words" = true) (k8 : PySem.W.keepIn K (.ref f8) = true)
    (a9 : PySem.W.nsIn K mainGlobals "st_slant" = some (some (.ref f9))) (l9 : K.lookup f9 = some ⟨oc9, od9, .func (PySem.W.fnOf "st_slant" "st_slant" (defArgs s_st_slant) (defBody s_st_slant) (defScope s_st_slant) .none kV9 dc9 pm9 an9 cd9 ct9), sl9⟩) (c9 : PySem.W.codeIn K cd9 "st_slant" = true) (k9 : PySem.W.keepIn K (.ref f9) = true)
    (n1 : PySem.W.nsIn K mainGlobals "WORD_BITS" = some (some (.int 32 u1)))
    (n2 : PySem.W.nsIn K mainGlobals "WORD_LIMIT" = some (some (.int 4294967296 u2)))
    (n3 : PySem.W.nsIn K mainGlobals "FIRST_WORD_BELOW_ZERO" = some (some (.int 2147483648 u3)))
    (n4 : PySem.W.nsIn K mainGlobals "STEEPEST" = some (some (.int 4096 u4)))
    (n5 : PySem.W.nsIn K mainGlobals "LARGEST_SIDE" = some (some (.int 256 u5)))
    (z1 : PySem.W.nsIn K mainGlobals "len" = some none)
    (z2 : PySem.W.nsIn K mainGlobals "range" = some none) :
    ∃ fd : FuncData, (∀ (s : Shared) (us : List Value), us.length = (["k", "d", "w", "h", "x"] : List Str).length → BindsTo s fd ⟨us, []⟩ ((["k", "d", "w", "h", "x"] : List Str).zip us)) ∧ ∀ base : Heap, K.In base → base.Ns mainGlobals mg → FnOk P w K mg base CX0 3 fa fd ["k", "d", "w", "h", "x"] (spMain K) := by
  have e := hfa.symm.trans (PySem.W.mg_of X G a9)
  cases e
  have F1 := fun_mk (st := s_signed) l1 c1 k1
  have b1 := F1.binds (ps := ["word"]) fun _ _ _ _ _ _ us hl => match us, hl with | [_], _ => rfl
  have F2 := fun_mk (st := s_side_in_range) l2 c2 k2
  have b2 := F2.binds (ps := ["side"]) fun _ _ _ _ _ _ us hl => match us, hl with | [_], _ => rfl
  have F3 := fun_mk (st := s_shear_in_range) l3 c3 k3
  have b3 := F3.binds (ps := ["k", "d", "w", "h"]) fun _ _ _ _ _ _ us hl => match us, hl with | [_, _, _, _], _ => rfl
  have F4 := fun_mk (st := s_shear_move) l4 c4 k4
  have b4 := F4.binds (ps := ["k", "d", "w", "c"]) fun _ _ _ _ _ _ us hl => match us, hl with | [_, _, _, _], _ => rfl
  have F5 := fun_mk (st := s_shear_moves) l5 c5 k5
  have b5 := F5.binds (ps := ["k", "d", "w"]) fun _ _ _ _ _ _ us hl => match us, hl with | [_, _, _], _ => rfl
  have F6 := fun_mk (st := s_words_in_row) l6 c6 k6
  have b6 := F6.binds (ps := ["w"]) fun _ _ _ _ _ _ us hl => match us, hl with | [_], _ => rfl
  have F7 := fun_mk (st := s_dot_at) l7 c7 k7
  have b7 := F7.binds (ps := ["x", "w", "h", "c", "r"]) fun _ _ _ _ _ _ us hl => match us, hl with | [_, _, _, _, _], _ => rfl
  have F8 := fun_mk (st := s_row_words) l8 c8 k8
  have b8 := F8.binds (ps := ["dots"]) fun _ _ _ _ _ _ us hl => match us, hl with | [_], _ => rfl
  have F9 := fun_mk (st := s_st_slant) l9 c9 k9
  have b9 := F9.binds (ps := ["k", "d", "w", "h", "x"]) fun _ _ _ _ _ _ us hl => match us, hl with | [_, _, _, _, _], _ => rfl
  exact ⟨_, fun s us hu => match us, hu with | [_, _, _, _, _], _ => .of_eq rfl, fun base _ _ => ok_main (⟨u1, PySem.W.mg_of X G n1, u2, PySem.W.mg_of X G n2, u3, PySem.W.mg_of X G n3, u4, PySem.W.mg_of X G n4, u5, PySem.W.mg_of X G n5, _, _, F1, b1, PySem.W.mg_of X G a1, _, _, F2, b2, PySem.W.mg_of X G a2, _, _, F3, b3, PySem.W.mg_of X G a3, _, _, F4, b4, PySem.W.mg_of X G a4, _, _, F5, b5, PySem.W.mg_of X G a5, _, _, F6, b6, PySem.W.mg_of X G a6, _, _, F7, b7, PySem.W.mg_of X G a7, _, _, F8, b8, PySem.W.mg_of X G a8, _, _, F9, b9, PySem.W.mg_of X G a9, PySem.W.mg_none_of X G z1, PySem.W.mg_none_of X G z2⟩ : Txt K mg)⟩
end Pg
open PySem PySem.W PyProof.Rows
set_option maxRecDepth 100000 in
set_option maxHeartbeats 0 in
theorem PySem.Challenge.cw_pagestraight_s02_st_slant_holds : PySem.Challenge.rw_pagestraight_s02_st_slant.Holds := by
  w_on; k_headS; (case hw => exact ⟨[.int 0, .int 0, .int 0, .int 0, .list []], by decide +kernel, by decide +kernel⟩)
  k_fillS
  refine L2.walk_specK (r := PySem.Challenge.rw_pagestraight_s02_st_slant) (k := 3) (CX := L2.CX0) (ps := ["k", "d", "w", "h", "x"]) (sp := Pg.spMain) (by decide +kernel) rfl rfl ⟨rfl, by decide, by decide⟩ (fun w h Y => PySem.W.kIn_of Y) ?F ?S (fun _ _ _ _ z => z)
  case F =>
    intro w mg fa h Y KX G hmg
    refine' Pg.all_mk KX G hmg ?a1 ?l1 ?c1 ?k1 ?a2 ?l2 ?c2 ?k2 ?a3 ?l3 ?c3 ?k3 ?a4 ?l4 ?c4 ?k4 ?a5 ?l5 ?c5 ?k5 ?a6 ?l6 ?c6 ?k6 ?a7 ?l7 ?c7 ?k7 ?a8 ?l8 ?c8 ?k8 ?a9 ?l9 ?c9 ?k9 ?n1 ?n2 ?n3 ?n4 ?n5 ?z1 ?z2
    (case a1 => k_is)
    (case l1 => k_is)
    (case c1 => k_is)
    (case k1 => k_is)
    (case a2 => k_is)
    (case l2 => k_is)
    (case c2 => k_is)
    (case k2 => k_is)
    (case a3 => k_is)
    (case l3 => k_is)
    (case c3 => k_is)
    (case k3 => k_is)
    (case a4 => k_is)
    (case l4 => k_is)
    (case c4 => k_is)
    (case k4 => k_is)
    (case a5 => k_is)
    (case l5 => k_is)
    (case c5 => k_is)
    (case k5 => k_is)
    (case a6 => k_is)
    (case l6 => k_is)
    (case c6 => k_is)
    (case k6 => k_is)
    (case a7 => k_is)
    (case l7 => k_is)
    (case c7 => k_is)
    (case k7 => k_is)
    (case a8 => k_is)
    (case l8 => k_is)
    (case c8 => k_is)
    (case k8 => k_is)
    (case a9 => k_is)
    (case l9 => k_is)
    (case c9 => k_is)
    (case k9 => k_is)
    (case n1 => k_is)
    (case n2 => k_is)
    (case n3 => k_is)
    (case n4 => k_is)
    (case n5 => k_is)
    (case z1 => k_is)
    (case z2 => k_is)
  case S =>
    intro K H xs a hO hwi hask hx
    obtain ⟨k, d, w, h, x, u⟩ := a
    have A := Pg.page_of (n := 1) (by decide) (show Sh57Neutral.asked [[1, k, d, w, h], x] = true from hask) hwi
    obtain ⟨p, e, hS⟩ := Pg.req5 (k := k) (d := d) (w := w) (h := h) (x := x) hx
    exact ⟨k, d, w, h, p, x, e, hS, A, fun H' p hp => .lst (L2.SqL.of hp) (L2.dw_ints _)⟩
#print axioms PySem.Challenge.cw_pagestraight_s02_st_slant_holds
