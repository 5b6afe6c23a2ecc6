import PyProof.Rows.All
import Wide.All
import OpenK.AllK
import Wide.FinOn
import Open.SpecLaws
import KE.OsHead
import KE.OsGo
import HandS.ForSpec
import HandS.Comp
import HandS.Iter
import HandS.Text
import HandS.WideBits
import HandS.Style
import PySem.Challenge.RW_dotpages_s14_do_turn
set_option Elab.async false
set_option linter.all false
set_option maxRecDepth 100000
set_option maxHeartbeats 4000000
namespace Dot
open Sh56
/-! ### lists laid out by rows of one length -/
theorem flat_len {α : Type} {w : Nat} {g : Nat → List α} (hg : ∀ r, (g r).length = w) : ∀ h, ((List.range h).flatMap g).length = h * w
  | 0 => by simp
  | h + 1 => by
    rw [List.range_succ, List.flatMap_append, List.length_append, flat_len hg h]
    simp [hg, Nat.succ_mul]
theorem flat_get {α : Type} {w : Nat} {g : Nat → List α} (hg : ∀ r, (g r).length = w) : ∀ (h r c : Nat), r < h → c < w → ((List.range h).flatMap g)[r * w + c]? = (g r)[c]?
  | 0, r, c, hr, _ => absurd hr (Nat.not_lt_zero _)
  | h + 1, r, c, hr, hc => by
    rw [List.range_succ, List.flatMap_append]
    by_cases e : r < h
    · have : r * w + c < h * w := by
        have : (r + 1) * w ≤ h * w := Nat.mul_le_mul_right w e
        rw [Nat.succ_mul] at this
        omega
      rw [List.getElem?_append_left (by rw [flat_len hg]; exact this)]
      exact flat_get hg h r c e hc
    · have e2 : r = h := by omega
      subst e2
      rw [List.getElem?_append_right (by rw [flat_len hg]; omega), flat_len hg]
      simp
theorem flat_congr {α β : Type} {f g : α → List β} : ∀ {l : List α}, (∀ x ∈ l, f x = g x) → l.flatMap f = l.flatMap g
  | [], _ => rfl
  | a :: l, h => by
    rw [List.flatMap_cons, List.flatMap_cons, h a List.mem_cons_self, flat_congr fun x hx => h x (List.mem_cons_of_mem _ hx)]
theorem arr_getD {α : Type} (l : List α) (i : Nat) (d : α) : l.toArray.getD i d = l.getD i d := by
  simp [Array.getD_eq_getD_getElem?, List.getD_eq_getElem?_getD]
theorem each_len (w h : Nat) (f : Nat → Nat → Bool) : (each w h f).length = h * w := flat_len (fun r => by simp) h
theorem each_get {w h : Nat} (f : Nat → Nat → Bool) {r c : Nat} (hr : r < h) (hc : c < w) : (each w h f)[r * w + c]? = some (f c r) := by
  unfold each
  rw [flat_get (fun r => by simp) h r c hr hc]
  simp [hc]
theorem dot_each (w h : Nat) (f : Nat → Nat → Bool) (c r : Nat) : dot w h (each w h f).toArray c r = (decide (c < w) && (decide (r < h) && f c r)) := by
  unfold dot
  by_cases hc : c < w
  · by_cases hr : r < h
    · rw [arr_getD, List.getD_eq_getElem?_getD, each_get f hr hc]
      simp
    · simp [hr]
  · simp [hc]
theorem dot_out {w h : Nat} {x : Array Bool} {c r : Nat} (hx : ¬ (c < w ∧ r < h)) : dot w h x c r = false := by
  unfold dot
  by_cases hc : c < w
  · have : ¬ r < h := fun q => hx ⟨hc, q⟩
    simp [this]
  · simp [hc]
/-! ### numbers by their bits -/
theorem bits_sum (x : Nat) : ∀ n : Nat, ((List.range n).map fun j => if x.testBit j = true then 2 ^ j else 0).sum = x % 2 ^ n
  | 0 => by simp [Nat.mod_one]
  | n + 1 => by
    rw [List.range_succ, List.map_append, List.sum_append, bits_sum x n, Nat.mod_pow_succ]
    show x % 2 ^ n + ((if x.testBit n = true then 2 ^ n else 0) + 0) = _
    rw [Nat.testBit_eq_decide_div_mod_eq]
    have h2 : x / 2 ^ n % 2 < 2 := Nat.mod_lt _ (by decide)
    by_cases h : x / 2 ^ n % 2 = 1
    · simp [h]
    · have h0 : x / 2 ^ n % 2 = 0 := by omega
      simp [h0]
/-- a running bitwise or -/
def orG (i : Nat) (f : Nat → Nat) (n : Nat) : Nat := (List.range n).foldl (fun a k => a ||| f k) i
theorem orG_zero (i : Nat) (f : Nat → Nat) : orG i f 0 = i := rfl
theorem orG_succ (i : Nat) (f : Nat → Nat) (n : Nat) : orG i f (n + 1) = orG i f n ||| f n := by
  unfold orG
  rw [List.range_succ, List.foldl_append]
  rfl
theorem testBit_orG (i : Nat) (f : Nat → Nat) (c : Nat) : ∀ n, (orG i f n).testBit c = (i.testBit c || (List.range n).any fun k => (f k).testBit c)
  | 0 => by simp [orG_zero]
  | n + 1 => by
    rw [orG_succ, Nat.testBit_or, testBit_orG i f c n, List.range_succ, List.any_append]
    simp [Bool.or_assoc]
theorem any_range {n : Nat} {f : Nat → Bool} : (List.range n).any f = true ↔ ∃ k, k < n ∧ f k = true := by simp
theorem orG_lt {i : Nat} {f : Nat → Nat} {m : Nat} (hi : i < 2 ^ m) : ∀ {n : Nat}, (∀ k, k < n → f k < 2 ^ m) → orG i f n < 2 ^ m
  | 0, _ => hi
  | n + 1, h => by
    rw [orG_succ]
    exact Nat.or_lt_two_pow (orG_lt hi fun k hk => h k (by omega)) (h n (by omega))
theorem tb_div (x i : Nat) : (x / 2 ^ i % 2 == 1) = x.testBit i := by
  rw [Nat.testBit_eq_decide_div_mod_eq]
  rfl
/-- a row's words put together -/
def rfw (ws : List Nat) : Nat := orG 0 (fun k => ws.getD k 0 * 2 ^ (32 * k)) ws.length
theorem tb_small {x n i : Nat} (h : x < 2 ^ n) (hi : n ≤ i) : x.testBit i = false := Nat.testBit_lt_two_pow (Nat.lt_of_lt_of_le h (Nat.pow_le_pow_right (by decide) hi))
theorem getD_lt {ws : List Nat} {m : Nat} (h : ∀ x ∈ ws, x < m) (hm : 0 < m) (k : Nat) : ws.getD k 0 < m := by
  rw [List.getD_eq_getElem?_getD]
  cases e : ws[k]? with
  | none => exact hm
  | some x => exact h x (List.mem_of_getElem? e)
theorem rfw_bit {ws : List Nat} (h : ∀ x ∈ ws, x < 2 ^ 32) (c : Nat) : (rfw ws).testBit c = (ws.getD (c / 32) 0).testBit (c % 32) := by
  unfold rfw
  rw [testBit_orG, Nat.zero_testBit, Bool.false_or]
  have one : ∀ k, (ws.getD k 0 * 2 ^ (32 * k)).testBit c = (decide (k = c / 32) && (ws.getD (c / 32) 0).testBit (c % 32)) := fun k => by
    rw [Nat.testBit_mul_two_pow]
    by_cases e : k = c / 32
    · subst e
      have : 32 * (c / 32) ≤ c := Nat.mul_div_le c 32
      rw [show c - 32 * (c / 32) = c % 32 by omega]
      simp [this]
    · simp only [e, decide_false, Bool.false_and]
      by_cases l : 32 * k ≤ c
      · rw [tb_small (getD_lt h (by decide) k) (show 32 ≤ c - 32 * k by omega)]
        simp
      · simp [l]
  by_cases hk : c / 32 < ws.length
  · rw [Bool.eq_iff_iff, any_range]
    constructor
    · rintro ⟨k, _, hb⟩
      rw [one, Bool.and_eq_true] at hb
      exact hb.2
    · intro hb
      exact ⟨c / 32, hk, by rw [one, hb]; simp⟩
  · have : ws.getD (c / 32) 0 = 0 := by
      rw [List.getD_eq_getElem?_getD, List.getElem?_eq_none (by omega)]
      rfl
    rw [this, Nat.zero_testBit, List.any_eq_false]
    intro k hk'
    rw [List.mem_range] at hk'
    rw [one]
    have : k ≠ c / 32 := by omega
    simp [this]
/-! ### a page as a list of rows -/
def Rep (w h : Nat) (rows : List Nat) (p : Page) : Prop := rows.length = h ∧ ∀ r c, (rows.getD r 0).testBit c = dot w h p.toArray c r
theorem rep_each {w h : Nat} {rows : List Nat} {f : Nat → Nat → Bool} (hl : rows.length = h) (hb : ∀ r c, r < h → (rows.getD r 0).testBit c = (decide (c < w) && f c r)) : Rep w h rows (each w h f) := by
  refine ⟨hl, fun r c => ?_⟩
  rw [dot_each]
  by_cases hr : r < h
  · rw [hb r c hr]
    simp [hr]
  · rw [List.getD_eq_getElem?_getD, List.getElem?_eq_none (by omega)]
    simp [hr]
theorem Rep.out {w h : Nat} {rows : List Nat} {p : Page} (R : Rep w h rows p) {r c : Nat} (hc : w ≤ c) : (rows.getD r 0).testBit c = false := by
  rw [R.2, dot_out (by omega)]
theorem Rep.lt {w h : Nat} {rows : List Nat} {p : Page} (R : Rep w h rows p) (r : Nat) : rows.getD r 0 < 2 ^ w :=
  Nat.lt_pow_two_of_testBit _ fun _ hc => R.out hc
theorem Rep.mem {w h : Nat} {rows : List Nat} {p : Page} (R : Rep w h rows p) : ∀ x ∈ rows, x < 2 ^ w := fun x hx => by
  obtain ⟨r, hr, e⟩ := List.getElem_of_mem hx
  have := R.lt r
  rw [List.getD_eq_getElem?_getD, List.getElem?_eq_getElem hr, e] at this
  exact this
theorem getD_map {α : Type} (h : Nat) (g : Nat → α) (d : α) {r : Nat} (hr : r < h) : ((List.range h).map g).getD r d = g r := by
  rw [List.getD_eq_getElem?_getD]
  simp [hr]
theorem self_map (rows : List Nat) : rows = (List.range rows.length).map fun r => rows.getD r 0 := by
  apply List.ext_getElem?
  intro i
  by_cases hi : i < rows.length
  · simp [hi]
  · simp [hi]
/-- what is told of a page -/
def outRow (w row : Nat) : List Nat := (List.range (wide w)).map fun k => row / 2 ^ (32 * k) &&& (2 ^ 32 - 1)
def outPage (w : Nat) (rows : List Nat) : List Nat := rows.flatMap (outRow w)
theorem out_words {w h : Nat} {rows : List Nat} {p : Page} (R : Rep w h rows p) : outPage w rows = words w h p := by
  unfold outPage words
  have hl := R.1
  rw [self_map rows, hl, List.flatMap_map]
  refine flat_congr fun r _ => ?_
  unfold outRow
  refine List.map_congr_left fun k _ => ?_
  rw [Nat.and_two_pow_sub_one_eq_mod, ← bits_sum]
  congr 1
  apply List.map_congr_left
  intro j _
  rw [Nat.testBit_div_two_pow, R.2, Nat.add_comm]
/-- the rows of the words that are handed in -/
def pfw (w h : Nat) (x : List Nat) : List Nat := (List.range h).map fun r => rfw ((x.drop (r * wide w)).take (wide w)) &&& (2 ^ w - 1)
theorem page_each (w h : Nat) (d : List Nat) : page w h d = each w h fun c r => (d.getD (r * wide w + c / 32) 0).testBit (c % 32) := by
  unfold page each
  show (List.range h).flatMap _ = (List.range h).flatMap _
  congr 1
  funext r
  congr 1
  funext c
  rw [tb_div, arr_getD]
theorem wide_gt {w c : Nat} (h : c < w) : c / 32 < wide w := by
  unfold wide
  omega
theorem pfw_rep {w h : Nat} {x : List Nat} (hx : ∀ y ∈ x, y < 2 ^ 32) : Rep w h (pfw w h x) (page w h x) := by
  rw [page_each]
  refine rep_each (by simp [pfw]) fun r c hr => ?_
  unfold pfw
  rw [getD_map h _ 0 hr, Nat.testBit_and, Nat.testBit_two_pow_sub_one, Bool.and_comm]
  by_cases hc : c < w
  · simp only [hc, decide_true, Bool.true_and]
    rw [rfw_bit (fun y hy => hx y (List.mem_of_mem_drop (List.mem_of_mem_take hy)))]
    congr 1
    rw [List.getD_eq_getElem?_getD, List.getD_eq_getElem?_getD, List.getElem?_take_of_lt (wide_gt hc), List.getElem?_drop]
  · simp [hc]
theorem pfw_len (w h : Nat) (x : List Nat) : (pfw w h x).length = h := by simp [pfw]
/-! ### bytes -/
def rfb (b : List Nat) : Nat := orG 0 (fun c => if b.getD c 0 = 0 then 0 else 2 ^ c) b.length
theorem rfb_bit (b : List Nat) (c : Nat) : (rfb b).testBit c = (b.getD c 0 != 0) := by
  unfold rfb
  rw [testBit_orG, Nat.zero_testBit, Bool.false_or]
  have one : ∀ k, ((if b.getD k 0 = 0 then 0 else 2 ^ k : Nat)).testBit c = (decide (k = c) && (b.getD c 0 != 0)) := fun k => by
    by_cases e : k = c
    · subst e
      by_cases z : b.getD k 0 = 0
      · simp only [z, if_pos, Nat.zero_testBit]; simp
      · rw [if_neg z, Nat.testBit_two_pow_self]
        simpa using z
    · by_cases z : b.getD k 0 = 0
      · simp only [z, if_pos, Nat.zero_testBit]; simp [e]
      · rw [if_neg z, Nat.testBit_two_pow_of_ne e]; simp [e]
  by_cases hk : c < b.length
  · rw [Bool.eq_iff_iff, any_range]
    constructor
    · rintro ⟨k, _, hb⟩
      rw [one, Bool.and_eq_true] at hb
      exact hb.2
    · intro hb
      exact ⟨c, hk, by rw [one, hb]; simp⟩
  · have : b.getD c 0 = 0 := by
      rw [List.getD_eq_getElem?_getD, List.getElem?_eq_none (by omega)]
      rfl
    rw [this, List.any_eq_false.mpr]
    · rfl
    intro k hk'
    rw [List.mem_range] at hk'
    rw [one]
    have : k ≠ c := by omega
    simp [this]
def pfb (w h : Nat) (b : List Nat) : List Nat := (List.range h).map fun r => rfb ((b.drop (r * w)).take w)
theorem pfb_rep {w h : Nat} {b : List Nat} (hl : b.length = h * w) : Rep w h (pfb w h b) (b.map fun a => a != 0) := by
  refine ⟨by simp [pfb], fun r c => ?_⟩
  unfold dot
  by_cases hr : r < h
  · unfold pfb
    rw [getD_map h _ 0 hr, rfb_bit, arr_getD]
    by_cases hc : c < w
    · have : r * w + c < b.length := by
        rw [hl]
        have : (r + 1) * w ≤ h * w := Nat.mul_le_mul_right w hr
        rw [Nat.succ_mul] at this
        omega
      simp only [List.getD_eq_getElem?_getD]
      rw [List.getElem?_take_of_lt hc, List.getElem?_drop, List.getElem?_map, List.getElem?_eq_getElem this]
      simp [hc, hr]
    · have : ((b.drop (r * w)).take w)[c]? = none := List.getElem?_eq_none (by rw [List.length_take]; omega)
      rw [List.getD_eq_getElem?_getD, this]
      simp [hc]
  · rw [List.getD_eq_getElem?_getD, List.getElem?_eq_none (by simp [pfb]; omega)]
    simp [hr]
/-! ### spread -/
def sprRow (w row : Nat) : List Nat := (List.range w).map fun c => row / 2 ^ c &&& 1
def sprPage (w : Nat) (rows : List Nat) : List Nat := rows.flatMap (sprRow w)
theorem and_one_bit (x i : Nat) : x / 2 ^ i &&& 1 = if x.testBit i = true then 1 else 0 := by
  rw [Nat.and_one_is_mod, Nat.testBit_eq_decide_div_mod_eq]
  by_cases h : x / 2 ^ i % 2 = 1
  · simp [h]
  · simp [h]; omega
theorem spr_page {w h : Nat} {rows : List Nat} {f : Nat → Nat → Bool} (R : Rep w h rows (each w h f)) : sprPage w rows = (each w h f).map fun b => if b = true then 1 else 0 := by
  unfold sprPage
  have hl := R.1
  rw [self_map rows, hl, List.flatMap_map]
  unfold each
  rw [List.map_flatMap]
  refine flat_congr fun r hr => ?_
  rw [List.mem_range] at hr
  unfold sprRow
  rw [List.map_map]
  apply List.map_congr_left
  intro c hc
  rw [List.mem_range] at hc
  rw [and_one_bit, R.2, dot_each]
  simp [hc, hr]
/-! ### a table of three -/
def whereEq (black row bit : Nat) : Nat := if bit = 1 then row else row ^^^ black
theorem whereEq_bit {w row bit i : Nat} (hi : i < w) : (whereEq (2 ^ w - 1) row bit).testBit i = (row.testBit i == decide (bit = 1)) := by
  unfold whereEq
  by_cases h : bit = 1
  · simp [h]
  · rw [if_neg h, Nat.testBit_xor, Nat.testBit_two_pow_sub_one]
    simp [h, hi]
theorem whereEq_out {w row bit i : Nat} (hi : w ≤ i) (h0 : row.testBit i = false) : (whereEq (2 ^ w - 1) row bit).testBit i = false := by
  unfold whereEq
  by_cases h : bit = 1
  · rw [if_pos h]; exact h0
  · rw [if_neg h, Nat.testBit_xor, Nat.testBit_two_pow_sub_one, h0]
    simp; omega
def threeOne (t black a b c k : Nat) : Nat := if (t / 2 ^ k) &&& 1 = 1 then (whereEq black a (k / 2 ^ 2) &&& whereEq black b (k / 2 ^ 1 &&& 1)) &&& whereEq black c (k &&& 1) else 0
def threeRow (t black a b c : Nat) : Nat := orG 0 (threeOne t black a b c) 8
theorem threeOne_bit {t w a b c k i : Nat} (hi : i < w) : (threeOne t (2 ^ w - 1) a b c k).testBit i = (t.testBit k && ((a.testBit i == decide (k / 2 ^ 2 = 1)) && (b.testBit i == decide (k / 2 ^ 1 &&& 1 = 1)) && (c.testBit i == decide (k &&& 1 = 1)))) := by
  unfold threeOne
  rw [and_one_bit]
  by_cases h : t.testBit k = true
  · rw [h, if_pos rfl, if_pos rfl, Nat.testBit_and, Nat.testBit_and, whereEq_bit hi, whereEq_bit hi, whereEq_bit hi, Bool.true_and]
  · rw [if_neg h]
    simp [h]
theorem threeOne_out {t w a b c k i : Nat} (hi : w ≤ i) (h0 : a.testBit i = false) : (threeOne t (2 ^ w - 1) a b c k).testBit i = false := by
  unfold threeOne
  by_cases h : (t / 2 ^ k) &&& 1 = 1
  · rw [if_pos h, Nat.testBit_and, Nat.testBit_and, whereEq_out hi h0]
    simp
  · rw [if_neg h]
    simp
theorem table_any (T : Nat → Bool) (A B C : Bool) : (List.range 8).any (fun k => T k && ((A == decide (k / 2 ^ 2 = 1)) && (B == decide (k / 2 ^ 1 &&& 1 = 1)) && (C == decide (k &&& 1 = 1)))) = T ((if A = true then 4 else 0) + (if B = true then 2 else 0) + (if C = true then 1 else 0)) := by
  cases A <;> cases B <;> cases C <;> simp [List.range_succ]
theorem threeRow_bit {t w a b c i : Nat} (hi : i < w) : (threeRow t (2 ^ w - 1) a b c).testBit i = byTable t (a.testBit i) (b.testBit i) (c.testBit i) := by
  unfold threeRow byTable
  rw [testBit_orG, Nat.zero_testBit, Bool.false_or, tb_div, ← table_any t.testBit]
  congr 1
  funext k
  exact threeOne_bit hi
theorem threeRow_out {t w a b c i : Nat} (hi : w ≤ i) (h0 : a.testBit i = false) : (threeRow t (2 ^ w - 1) a b c).testBit i = false := by
  unfold threeRow
  rw [testBit_orG, Nat.zero_testBit, Bool.false_or, List.any_eq_false]
  intro k _
  rw [threeOne_out hi h0]
  simp
def threePage (t w h : Nat) (x y z : List Nat) : List Nat := (List.range h).map fun r => threeRow t (2 ^ w - 1) (x.getD r 0) (y.getD r 0) (z.getD r 0)
theorem at_dot {w h : Nat} {p : Page} {c r : Nat} (hc : c < w) (hr : r < h) : p.toArray.getD (r * w + c) false = dot w h p.toArray c r := by
  unfold dot
  simp [hc, hr]
theorem place_lt {w h c r : Nat} (hc : c < w) (hr : r < h) : r * w + c < h * w := by
  have : (r + 1) * w ≤ h * w := Nat.mul_le_mul_right w hr
  rw [Nat.succ_mul] at this
  omega
theorem three_rep {t w h : Nat} {x y z : List Nat} {p q s : Page} (hp : p.length = h * w) (X : Rep w h x p) (Y : Rep w h y q) (Z : Rep w h z s) : Rep w h (threePage t w h x y z) (three t p q s) := by
  refine ⟨by simp [threePage], fun r c => ?_⟩
  by_cases hr : r < h
  · unfold threePage
    rw [getD_map h _ 0 hr]
    by_cases hc : c < w
    · rw [threeRow_bit hc, X.2, Y.2, Z.2]
      unfold three
      have hl := place_lt hc hr
      rw [← at_dot hc hr (p := List.map _ _), arr_getD, List.getD_eq_getElem?_getD, List.getElem?_map, List.getElem?_range (by simpa [hp] using hl)]
      show _ = byTable t _ _ _
      rw [at_dot hc hr, at_dot hc hr, at_dot hc hr]
    · rw [threeRow_out (by omega) (X.out (by omega)), dot_out (by omega)]
  · rw [List.getD_eq_getElem?_getD, List.getElem?_eq_none (by simp [threePage]; omega), dot_out (by omega)]
    simp
/-! ### moves -/
def mvRow (w : Nat) (dx : Int) (row : Nat) : Nat := if 0 ≤ dx then (row * 2 ^ dx.toNat) &&& (2 ^ w - 1) else row / 2 ^ (-dx).toNat
def mvPage (w h : Nat) (dx dy : Int) (rows : List Nat) : List Nat := (List.range h).map fun (r : Nat) => if 0 ≤ (r : Int) - dy ∧ (r : Int) - dy < (h : Int) then mvRow w dx (rows.getD ((r : Int) - dy).toNat 0) else 0
theorem mv_rep {w h : Nat} {dx dy : Int} {rows : List Nat} {p : Page} (R : Rep w h rows p) : Rep w h (mvPage w h dx dy rows) (moved w h dx dy p) := by
  unfold moved
  refine rep_each (by simp [mvPage]) fun r c hr => ?_
  unfold mvPage
  rw [getD_map h _ 0 hr]
  unfold there
  by_cases hy : 0 ≤ (r : Int) - dy
  · by_cases hy2 : (r : Int) - dy < (h : Int)
    · rw [if_pos ⟨hy, hy2⟩, decide_eq_true hy, Bool.true_and, ← R.2]
      unfold mvRow
      by_cases hx : 0 ≤ dx
      · rw [if_pos hx, Nat.testBit_and, Nat.testBit_two_pow_sub_one, Nat.testBit_mul_two_pow, Bool.and_comm]
        congr 1
        by_cases hc : 0 ≤ (c : Int) - dx
        · rw [decide_eq_true hc, decide_eq_true (show dx.toNat ≤ c by omega), show c - dx.toNat = ((c : Int) - dx).toNat by omega]
        · rw [decide_eq_false hc, decide_eq_false (show ¬ dx.toNat ≤ c by omega)]
          simp
      · rw [if_neg hx, Nat.testBit_div_two_pow, decide_eq_true (show 0 ≤ (c : Int) - dx by omega), Bool.true_and, show c + (-dx).toNat = ((c : Int) - dx).toNat by omega]
        by_cases hc : c < w
        · simp [hc]
        · rw [R.out (by omega)]
          simp
    · rw [if_neg (fun q => hy2 q.2), dot_out (by omega)]
      simp
  · rw [if_neg (fun q => hy q.1), decide_eq_false hy]
    simp
/-! ### boxes -/
theorem mem_span {p m d n : Nat} : p ∈ span m d n ↔ p < n ∧ p ≤ m + d ∧ m ≤ p + d := by
  unfold span
  rw [List.mem_filterMap]
  constructor
  · rintro ⟨j, hj, e⟩
    rw [List.mem_range] at hj
    split at e
    · cases e
      omega
    · cases e
  · rintro ⟨h1, h2, h3⟩
    refine ⟨p + d - m, ?_, ?_⟩
    · rw [List.mem_range]
      omega
    · rw [if_pos (by omega)]
      congr 1
      omega
def wider (w dx row : Nat) : Nat := orG row (fun s => row * 2 ^ (s + 1) ||| row / 2 ^ (s + 1)) dx &&& (2 ^ w - 1)
theorem wider_bit {w dx row c : Nat} (h0 : ∀ i, w ≤ i → row.testBit i = false) : (wider w dx row).testBit c = (decide (c < w) && (span c dx w).any fun p => row.testBit p) := by
  unfold wider
  rw [Nat.testBit_and, Nat.testBit_two_pow_sub_one, Bool.and_comm, testBit_orG]
  by_cases hc : c < w
  · rw [decide_eq_true hc, Bool.true_and, Bool.true_and, Bool.eq_iff_iff, Bool.or_eq_true, any_range, List.any_eq_true]
    constructor
    · rintro (h | ⟨k, hk, h⟩)
      · exact ⟨c, mem_span.mpr (by omega), h⟩
      · rw [Nat.testBit_or, Bool.or_eq_true, Nat.testBit_mul_two_pow, Nat.testBit_div_two_pow, Bool.and_eq_true] at h
        rcases h with ⟨h1, h2⟩ | h
        · have h1 := of_decide_eq_true h1
          exact ⟨_, mem_span.mpr (by omega), h2⟩
        · have : ¬ w ≤ c + (k + 1) := fun q => by rw [h0 _ q] at h; cases h
          exact ⟨_, mem_span.mpr (by omega), h⟩
    · rintro ⟨p, hp, h⟩
      obtain ⟨h1, h2, h3⟩ := mem_span.mp hp
      by_cases e : p = c
      · subst e; exact .inl h
      · refine .inr ?_
        by_cases l : p < c
        · refine ⟨c - p - 1, by omega, ?_⟩
          rw [Nat.testBit_or, Nat.testBit_mul_two_pow, decide_eq_true (by omega), show c - (c - p - 1 + 1) = p by omega, h]
          simp
        · refine ⟨p - c - 1, by omega, ?_⟩
          rw [Nat.testBit_or, Nat.testBit_div_two_pow, show c + (p - c - 1 + 1) = p by omega, h]
          simp
  · simp [hc]
def joined (l : List Nat) : Nat := orG 0 (fun k => l.getD k 0) l.length
theorem joined_bit (l : List Nat) (c : Nat) : (joined l).testBit c = true ↔ ∃ k, k < l.length ∧ (l.getD k 0).testBit c = true := by
  unfold joined
  rw [testBit_orG, Nat.zero_testBit, Bool.false_or, any_range]
def joinPage (h dy : Nat) (wd : List Nat) : List Nat := (List.range h).map fun r => joined ((wd.take (r + dy + 1)).drop (r - dy))
def thickPage (w h dx dy : Nat) (rows : List Nat) : List Nat := joinPage h dy (rows.map (wider w dx))
theorem join_rep {w h dy : Nat} {rows : List Nat} {p : Page} (R : Rep w h rows p) : Rep w h (joinPage h dy rows) (each w h fun c r => (span r dy h).any fun q => dot w h p.toArray c q) := by
  refine rep_each (by simp [joinPage]) fun r c hr => ?_
  unfold joinPage
  rw [getD_map h _ 0 hr, Bool.eq_iff_iff, joined_bit, Bool.and_eq_true, decide_eq_true_eq, List.any_eq_true]
  have hl := R.1
  constructor
  · rintro ⟨k, hk, h⟩
    rw [List.length_drop, List.length_take] at hk
    rw [List.getD_eq_getElem?_getD, List.getElem?_drop, List.getElem?_take_of_lt (by omega), ← List.getD_eq_getElem?_getD, R.2] at h
    refine ⟨?_, r - dy + k, mem_span.mpr (by omega), h⟩
    by_cases hc : c < w
    · exact hc
    · rw [dot_out (by omega)] at h
      cases h
  · rintro ⟨hc, q, hq, h⟩
    obtain ⟨h1, h2, h3⟩ := mem_span.mp hq
    refine ⟨q - (r - dy), ?_, ?_⟩
    · rw [List.length_drop, List.length_take]
      omega
    · rw [List.getD_eq_getElem?_getD, List.getElem?_drop, List.getElem?_take_of_lt (by omega), ← List.getD_eq_getElem?_getD, show r - dy + (q - (r - dy)) = q by omega, R.2]
      exact h
theorem getD_mapL {f : Nat → Nat} (h0 : f 0 = 0) (l : List Nat) (r : Nat) : (l.map f).getD r 0 = f (l.getD r 0) := by
  rw [List.getD_eq_getElem?_getD, List.getD_eq_getElem?_getD, List.getElem?_map]
  cases l[r]? with
  | none => exact h0.symm
  | some v => rfl
theorem getD_mapL' {f : Nat → Nat} {l : List Nat} {r : Nat} (h : r < l.length) : (l.map f).getD r 0 = f (l.getD r 0) := by
  rw [List.getD_eq_getElem?_getD, List.getD_eq_getElem?_getD, List.getElem?_map, List.getElem?_eq_getElem h]
  rfl
theorem wide_rep {w h dx : Nat} {rows : List Nat} {p : Page} (R : Rep w h rows p) : Rep w h (rows.map (wider w dx)) (each w h fun c r => (span c dx w).any fun q => dot w h p.toArray q r) := by
  refine rep_each (by rw [List.length_map]; exact R.1) fun r c hr => ?_
  rw [getD_mapL' (by rw [R.1]; exact hr), wider_bit (fun i hi => R.out hi)]
  simp only [R.2]
theorem thick_rep {w h dx dy : Nat} {rows : List Nat} {p : Page} (R : Rep w h rows p) : Rep w h (thickPage w h dx dy rows) (thicker w h dx dy p) := join_rep (wide_rep R)
def overPage (w : Nat) (rows : List Nat) : List Nat := rows.map fun row => row ^^^ (2 ^ w - 1)
def thinPage (w h dx dy : Nat) (rows : List Nat) : List Nat := overPage w (thickPage w h dx dy (overPage w rows))
theorem over_rep {w h : Nat} {rows : List Nat} {p : Page} (R : Rep w h rows p) : Rep w h (overPage w rows) (each w h fun c r => !dot w h p.toArray c r) := by
  refine rep_each (by unfold overPage; rw [List.length_map]; exact R.1) fun r c hr => ?_
  unfold overPage
  rw [getD_mapL' (by rw [R.1]; exact hr), Nat.testBit_xor, Nat.testBit_two_pow_sub_one, R.2]
  by_cases hc : c < w
  · simp [hc]
  · rw [dot_out (by omega)]
    simp [hc]
theorem rep_of_dot {w h : Nat} {rows : List Nat} {p q : Page} (R : Rep w h rows p) (e : ∀ c r, c < w → r < h → dot w h p.toArray c r = dot w h q.toArray c r) : Rep w h rows q := by
  refine ⟨R.1, fun r c => ?_⟩
  rw [R.2]
  by_cases hc : c < w ∧ r < h
  · exact e c r hc.1 hc.2
  · rw [dot_out hc, dot_out hc]
theorem any_congr' {l : List Nat} {f g : Nat → Bool} (h : ∀ x ∈ l, f x = g x) : l.any f = l.any g := by
  induction l with
  | nil => rfl
  | cons a l ih => rw [List.any_cons, List.any_cons, h a List.mem_cons_self, ih fun x hx => h x (List.mem_cons_of_mem _ hx)]
theorem all_congr' {l : List Nat} {f g : Nat → Bool} (h : ∀ x ∈ l, f x = g x) : l.all f = l.all g := by
  induction l with
  | nil => rfl
  | cons a l ih => rw [List.all_cons, List.all_cons, h a List.mem_cons_self, ih fun x hx => h x (List.mem_cons_of_mem _ hx)]
theorem not_any (l : List Nat) (f : Nat → Bool) : (!l.any f) = l.all fun x => !f x := by
  induction l with
  | nil => rfl
  | cons a l ih => rw [List.any_cons, List.all_cons, Bool.not_or, ih]
theorem thin_rep {w h dx dy : Nat} {rows : List Nat} {p : Page} (R : Rep w h rows p) : Rep w h (thinPage w h dx dy rows) (thinner w h dx dy p) := by
  refine rep_of_dot (over_rep (thick_rep (over_rep R))) fun c r hc hr => ?_
  unfold thicker thinner
  rw [dot_each, dot_each, dot_each, decide_eq_true hc, decide_eq_true hr, Bool.true_and, Bool.true_and, Bool.true_and, Bool.true_and, not_any]
  refine all_congr' fun q hq => ?_
  have hq := (mem_span.mp hq).1
  rw [dot_each, dot_each, decide_eq_true hc, decide_eq_true hq, Bool.true_and, Bool.true_and, Bool.true_and, Bool.true_and, not_any]
  refine all_congr' fun s hs => ?_
  have hs := (mem_span.mp hs).1
  rw [dot_each, decide_eq_true hs, decide_eq_true hq, Bool.true_and, Bool.true_and, Bool.not_not]
end Dot

namespace Dot
open Sh56
/-! ### a sheet: all rows in one number, a white column behind each -/
def SRep (w h S : Nat) (p : Page) : Prop := ∀ i, S.testBit i = dot w h p.toArray (i % (w + 1)) (i / (w + 1))
theorem div_at {w r c : Nat} (hc : c ≤ w) : (r * (w + 1) + c) / (w + 1) = r := by
  rw [Nat.mul_comm, Nat.mul_add_div (by omega), Nat.div_eq_of_lt (by omega), Nat.add_zero]
theorem mod_at {w r c : Nat} (hc : c ≤ w) : (r * (w + 1) + c) % (w + 1) = c := by
  rw [Nat.mul_comm, Nat.mul_add_mod, Nat.mod_eq_of_lt (by omega)]
theorem SRep.at {w h S : Nat} {p : Page} (R : SRep w h S p) {r c : Nat} (hc : c ≤ w) : S.testBit (r * (w + 1) + c) = dot w h p.toArray c r := by
  rw [R, div_at hc, mod_at hc]
def sheetOf (w : Nat) (rows : List Nat) : Nat := orG 0 (fun r => rows.getD r 0 * 2 ^ (r * (w + 1))) rows.length
theorem sheet_bit {w h : Nat} {rows : List Nat} (hl : rows.length = h) (hw : ∀ r, rows.getD r 0 < 2 ^ w) (i : Nat) : (sheetOf w rows).testBit i = (rows.getD (i / (w + 1)) 0).testBit (i % (w + 1)) := by
  unfold sheetOf
  rw [testBit_orG, Nat.zero_testBit, Bool.false_or]
  have hm : i % (w + 1) < w + 1 := Nat.mod_lt _ (by omega)
  have hi : i / (w + 1) * (w + 1) + i % (w + 1) = i := by rw [Nat.mul_comm]; exact Nat.div_add_mod i (w + 1)
  have one : ∀ k, (rows.getD k 0 * 2 ^ (k * (w + 1))).testBit i = (decide (k = i / (w + 1)) && (rows.getD (i / (w + 1)) 0).testBit (i % (w + 1))) := fun k => by
    rw [Nat.testBit_mul_two_pow]
    by_cases e : k = i / (w + 1)
    · subst e
      rw [show i - i / (w + 1) * (w + 1) = i % (w + 1) by omega]
      simp; omega
    · simp only [e, decide_false, Bool.false_and]
      by_cases l : k * (w + 1) ≤ i
      · have hk : k < i / (w + 1) := by
          have h1 : k ≤ i / (w + 1) := (Nat.le_div_iff_mul_le (by omega)).mpr l
          omega
        have : (k + 1) * (w + 1) ≤ i / (w + 1) * (w + 1) := Nat.mul_le_mul_right _ hk
        rw [Nat.succ_mul] at this
        rw [tb_small (hw k) (show w ≤ i - k * (w + 1) by omega)]
        simp
      · simp [l]
  by_cases hk : i / (w + 1) < rows.length
  · rw [Bool.eq_iff_iff, any_range]
    constructor
    · rintro ⟨k, _, hb⟩
      rw [one, Bool.and_eq_true] at hb
      exact hb.2
    · intro hb
      exact ⟨i / (w + 1), hk, by rw [one, hb]; simp⟩
  · have : rows.getD (i / (w + 1)) 0 = 0 := by
      rw [List.getD_eq_getElem?_getD, List.getElem?_eq_none (by omega)]
      rfl
    rw [this, Nat.zero_testBit, List.any_eq_false]
    intro k hk'
    rw [List.mem_range] at hk'
    rw [one]
    have : k ≠ i / (w + 1) := by omega
    simp [this]
theorem sheet_rep {w h : Nat} {rows : List Nat} {p : Page} (R : Rep w h rows p) : SRep w h (sheetOf w rows) p := fun i => by
  rw [sheet_bit R.1 R.lt, R.2]
def pageOf (w h S : Nat) : List Nat := (List.range h).map fun r => S / 2 ^ (r * (w + 1)) &&& (2 ^ w - 1)
theorem page_of_bits {w h S : Nat} {f : Nat → Nat → Bool} (hb : ∀ r c, r < h → c < w → S.testBit (r * (w + 1) + c) = f c r) : Rep w h (pageOf w h S) (each w h f) := by
  refine rep_each (by simp [pageOf]) fun r c hr => ?_
  unfold pageOf
  rw [getD_map h _ 0 hr, Nat.testBit_and, Nat.testBit_two_pow_sub_one, Nat.testBit_div_two_pow, Bool.and_comm]
  by_cases hc : c < w
  · rw [Nat.add_comm c, hb r c hr hc]
  · simp [hc]
theorem page_of_sheet {w h S : Nat} {p : Page} (R : SRep w h S p) : Rep w h (pageOf w h S) p := by
  refine rep_of_dot (page_of_bits (f := fun c r => dot w h p.toArray c r) fun r c _ hc => R.at (by omega)) fun c r hc hr => ?_
  rw [dot_each, decide_eq_true hc, decide_eq_true hr, Bool.true_and, Bool.true_and]
theorem pageOf_len (w h S : Nat) : (pageOf w h S).length = h := by simp [pageOf]
theorem pageOf_lt (w h S : Nat) : ∀ y ∈ pageOf w h S, y < 2 ^ w := by
  unfold pageOf
  intro y hy
  obtain ⟨r, _, rfl⟩ := List.mem_map.mp hy
  have := Nat.one_le_two_pow (n := w)
  exact Nat.and_lt_two_pow _ (by omega)
/-! ### seen from elsewhere -/
def seenFrom (S : Nat) (z : Int) : Nat := if 0 ≤ z then S / 2 ^ z.toNat else S * 2 ^ (-z).toNat
def bitI (S : Nat) (z : Int) : Bool := decide (0 ≤ z) && S.testBit z.toNat
theorem seen_bit (S : Nat) (z : Int) (i : Nat) : (seenFrom S z).testBit i = bitI S ((i : Int) + z) := by
  unfold seenFrom bitI
  by_cases h : 0 ≤ z
  · rw [if_pos h, Nat.testBit_div_two_pow, decide_eq_true (show 0 ≤ (i : Int) + z by omega), Bool.true_and]
    congr 1
    omega
  · rw [if_neg h, Nat.testBit_mul_two_pow]
    by_cases h2 : 0 ≤ (i : Int) + z
    · rw [decide_eq_true h2, decide_eq_true (show (-z).toNat ≤ i by omega)]
      congr 2
      omega
    · rw [decide_eq_false h2, decide_eq_false (show ¬ (-z).toNat ≤ i by omega)]
      rfl
theorem sheet_there {w h S : Nat} {p : Page} (R : SRep w h S p) (C Z : Int) (h1 : -1 ≤ C) (h2 : C ≤ w) : bitI S (Z * ((w : Int) + 1) + C) = there w h p.toArray C Z := by
  unfold bitI there
  by_cases hZ : 0 ≤ Z
  · obtain ⟨r, rfl⟩ := Int.eq_ofNat_of_zero_le hZ
    have e0 : (r : Int) * ((w : Int) + 1) = ((r * (w + 1) : Nat) : Int) := by push_cast; rfl
    by_cases hC : 0 ≤ C
    · obtain ⟨c, rfl⟩ := Int.eq_ofNat_of_zero_le hC
      rw [e0, decide_eq_true (show (0 : Int) ≤ ((r * (w + 1) : Nat) : Int) + (c : Int) by omega), decide_eq_true hC, decide_eq_true hZ, Bool.true_and, Bool.true_and, Bool.true_and]
      rw [show (((r * (w + 1) : Nat) : Int) + (c : Int)).toNat = r * (w + 1) + c by omega, R.at (by omega)]
      rfl
    · have : C = -1 := by omega
      subst this
      rw [decide_eq_false hC, Bool.false_and, e0]
      cases r with
      | zero => simp
      | succ q =>
        have e1 : ((((q + 1) * (w + 1) : Nat) : Int) + -1).toNat = q * (w + 1) + w := by rw [Nat.succ_mul]; omega
        rw [e1, R.at (Nat.le_refl _), dot_out (by omega), Bool.and_false]
  · rw [decide_eq_false hZ, Bool.false_and, Bool.and_false]
    have : Z * ((w : Int) + 1) + C < 0 := by
      have : Z * ((w : Int) + 1) ≤ (-1) * ((w : Int) + 1) := Int.mul_le_mul_of_nonneg_right (by omega) (by omega)
      omega
    rw [decide_eq_false (by omega), Bool.false_and]
def stepsOf (w k : Nat) : Int := (((k / 3 : Nat) : Int) - 1) * ((w : Int) + 1) + ((k % 3 : Nat) : Int) - 1
def nineOf (w S : Nat) : List Nat := (List.range 9).map fun k => seenFrom S (stepsOf w k)
theorem nine_list (w h : Nat) (x : Array Bool) (c r : Nat) : nine w h x c r = (List.range 9).map fun k => there w h x ((c : Int) + (((k % 3 : Nat) : Int) - 1)) ((r : Int) + (((k / 3 : Nat) : Int) - 1)) := rfl
theorem seen_nine {w h S : Nat} {p : Page} (R : SRep w h S p) {r c : Nat} (hc : c < w) {k : Nat} (hk : k < 9) : (seenFrom S (stepsOf w k)).testBit (r * (w + 1) + c) = (nine w h p.toArray c r).getD k false := by
  rw [seen_bit, nine_list, getD_map 9 _ false hk, ← sheet_there R _ _ (by omega) (by omega)]
  congr 1
  unfold stepsOf
  have e0 : ((r * (w + 1) + c : Nat) : Int) = (r : Int) * ((w : Int) + 1) + (c : Int) := by push_cast; rfl
  rw [e0, Int.add_mul]
  omega
theorem nineOf_bit {w h S : Nat} {p : Page} (R : SRep w h S p) {r c : Nat} (hc : c < w) (k : Nat) : ((nineOf w S).getD k 0).testBit (r * (w + 1) + c) = (nine w h p.toArray c r).getD k false := by
  by_cases hk : k < 9
  · unfold nineOf
    rw [getD_map 9 _ 0 hk, seen_nine R hc hk]
  · rw [List.getD_eq_getElem?_getD, List.getElem?_eq_none (by simp [nineOf]; omega), List.getD_eq_getElem?_getD, List.getElem?_eq_none (by rw [nine_list]; simp; omega)]
    simp
end Dot

namespace Dot
open Sh56
/-! ### patterns of nine -/
def wtho (a b : Nat) : Nat := a ^^^ (a &&& b)
theorem wtho_bit (a b i : Nat) : (wtho a b).testBit i = (a.testBit i && !b.testBit i) := by
  unfold wtho
  rw [Nat.testBit_xor, Nat.testBit_and]
  cases a.testBit i <;> cases b.testBit i <;> rfl
def fitStep (P black white k near F : Nat) : Nat :=
  let F1 := if black / 2 ^ k &&& 1 = 1 then F &&& near else F
  if white / 2 ^ k &&& 1 = 1 then F1 &&& (near ^^^ P) else F1
def fitG (P black white : Nat) (f : Nat → Nat) : Nat → Nat
  | 0 => P
  | n + 1 => fitStep P black white n (f n) (fitG P black white f n)
theorem and_one_eq (x k : Nat) : (x / 2 ^ k &&& 1 = 1) ↔ x.testBit k = true := by
  rw [and_one_bit]
  cases x.testBit k <;> simp
theorem fitG_bit {P black white : Nat} {f : Nat → Nat} {i : Nat} (hP : P.testBit i = true) : ∀ n, (fitG P black white f n).testBit i = (List.range n).all fun k => (!black.testBit k || (f k).testBit i) && (!white.testBit k || !(f k).testBit i)
  | 0 => by simp [fitG, hP]
  | n + 1 => by
    rw [List.range_succ, List.all_append, ← fitG_bit hP n, fitG, fitStep]
    have e1 := and_one_eq black n
    have e2 := and_one_eq white n
    by_cases hb : black.testBit n = true
    · by_cases hw : white.testBit n = true
      · rw [if_pos (e2.mpr hw), if_pos (e1.mpr hb), Nat.testBit_and, Nat.testBit_and, Nat.testBit_xor, hP]
        simp [hb, hw, Bool.and_assoc]
      · rw [if_neg (fun q => hw (e2.mp q)), if_pos (e1.mpr hb), Nat.testBit_and]
        simp [hb, hw]
    · by_cases hw : white.testBit n = true
      · rw [if_pos (e2.mpr hw), if_neg (fun q => hb (e1.mp q)), Nat.testBit_and, Nat.testBit_xor, hP]
        simp [hb, hw]
      · rw [if_neg (fun q => hw (e2.mp q)), if_neg (fun q => hb (e1.mp q))]
        simp [hb, hw]
theorem mod2_zero (x k : Nat) : (x / 2 ^ k % 2 == 0) = !x.testBit k := by
  rw [← tb_div]
  rcases Nat.mod_two_eq_zero_or_one (x / 2 ^ k) with h | h <;> rw [h] <;> rfl
def blackRows (w h : Nat) : List Nat := List.replicate h (2 ^ w - 1)
theorem black_rep (w h : Nat) : Rep w h (blackRows w h) (each w h fun _ _ => true) := by
  refine rep_each (by simp [blackRows]) fun r c hr => ?_
  unfold blackRows
  rw [List.getD_eq_getElem?_getD, List.getElem?_replicate, if_pos hr]
  show (2 ^ w - 1).testBit c = _
  rw [Nat.testBit_two_pow_sub_one, Bool.and_true]
def placesOf (w h : Nat) : Nat := sheetOf w (blackRows w h)
theorem places_bit {w h r c : Nat} (hr : r < h) (hc : c < w) : (placesOf w h).testBit (r * (w + 1) + c) = true := by
  unfold placesOf
  rw [(sheet_rep (black_rep w h)).at (by omega), dot_each]
  simp [hr, hc]
def fitAll (w h black white S : Nat) : Nat := fitG (placesOf w h) black white (fun k => (nineOf w S).getD k 0) 9
theorem fit_rep {w h black white S : Nat} {p : Page} (R : SRep w h S p) : Rep w h (pageOf w h (fitAll w h black white S)) (fitted w h black white p) := by
  unfold fitted
  refine page_of_bits fun r c hr hc => ?_
  unfold fitAll fits
  rw [fitG_bit (places_bit hr hc)]
  refine all_congr' fun k _ => ?_
  rw [nineOf_bit R hc, mod2_zero, mod2_zero]
/-! ### where enough are black -/
def enG (P : Nat) (f : Nat → Nat) : Nat → Nat → Nat
  | 0, 0 => P
  | 0, _ + 1 => 0
  | _ + 1, 0 => P
  | n + 1, k + 1 => enG P f n (k + 1) ||| (enG P f n k &&& f n)
def cntB (b : Nat → Bool) : Nat → Nat
  | 0 => 0
  | n + 1 => cntB b n + if b n = true then 1 else 0
theorem enG_bit (P : Nat) (f : Nat → Nat) (i : Nat) : ∀ n k, (enG P f n k).testBit i = (P.testBit i && decide (k ≤ cntB (fun j => (f j).testBit i) n))
  | 0, 0 => by simp [enG]
  | 0, k + 1 => by simp [enG, cntB]
  | n + 1, 0 => by simp [enG]
  | n + 1, k + 1 => by
    rw [enG, Nat.testBit_or, Nat.testBit_and, enG_bit P f i n (k + 1), enG_bit P f i n k, cntB]
    cases P.testBit i with
    | false => simp
    | true =>
      cases hb : (f n).testBit i with
      | false => simp [hb]
      | true =>
        simp only [Bool.true_and, Bool.and_true, if_true]
        rw [Bool.eq_iff_iff, Bool.or_eq_true, decide_eq_true_eq, decide_eq_true_eq, decide_eq_true_eq]
        omega
theorem enG_zero (P : Nat) (f : Nat → Nat) : ∀ n k, n < k → enG P f n k = 0
  | 0, k + 1, _ => rfl
  | n + 1, k + 1, h => by
    rw [enG, enG_zero P f n (k + 1) (by omega), enG_zero P f n k (by omega)]
    simp
theorem enG_first (P : Nat) (f : Nat → Nat) (n : Nat) : enG P f n 0 = P := by
  cases n <;> rfl
/-- the list within a pass: from m on the new ones -/
def enMix (P : Nat) (f : Nat → Nat) (n N m : Nat) : List Nat := (List.range N).map fun k => if m ≤ k then enG P f (n + 1) k else enG P f n k
def enAll (P : Nat) (f : Nat → Nat) (n N : Nat) : List Nat := (List.range N).map fun k => enG P f n k
theorem enMix_start (P : Nat) (f : Nat → Nat) (n N : Nat) : enMix P f n N (n + 2) = enAll P f n N := by
  unfold enMix enAll
  refine List.map_congr_left fun k _ => ?_
  by_cases h : n + 2 ≤ k
  · rw [if_pos h, enG_zero P f (n + 1) k (by omega), enG_zero P f n k (by omega)]
  · rw [if_neg h]
theorem enMix_end (P : Nat) (f : Nat → Nat) (n N : Nat) : enMix P f n N 1 = enAll P f (n + 1) N := by
  unfold enMix enAll
  refine List.map_congr_left fun k _ => ?_
  by_cases h : 1 ≤ k
  · rw [if_pos h]
  · have : k = 0 := by omega
    subst this
    rw [if_neg h, enG_first, enG_first]
theorem enMix_len (P : Nat) (f : Nat → Nat) (n N m : Nat) : (enMix P f n N m).length = N := by simp [enMix]
theorem enAll_len (P : Nat) (f : Nat → Nat) (n N : Nat) : (enAll P f n N).length = N := by simp [enAll]
theorem enMix_get (P : Nat) (f : Nat → Nat) {n N m k : Nat} (hk : k < N) (hm : k < m) : (enMix P f n N m).getD k 0 = enG P f n k := by
  unfold enMix
  rw [getD_map N _ 0 hk, if_neg (by omega)]
theorem enAll_get (P : Nat) (f : Nat → Nat) {n N k : Nat} (hk : k < N) : (enAll P f n N).getD k 0 = enG P f n k := by
  unfold enAll
  rw [getD_map N _ 0 hk]
theorem enMix_set (P : Nat) (f : Nat → Nat) {n N k : Nat} (hk : k + 1 < N) : (enMix P f n N (k + 2)).set (k + 1) (enG P f n (k + 1) ||| (enG P f n k &&& f n)) = enMix P f n N (k + 1) := by
  apply List.ext_getElem?
  intro i
  unfold enMix
  rw [List.getElem?_set]
  by_cases hi : i < N
  · by_cases e : k + 1 = i
    · subst e
      rw [if_pos rfl, if_pos (by simpa using hi), List.getElem?_map, List.getElem?_range hi]
      simp [enG]
    · rw [if_neg e, List.getElem?_map, List.getElem?_map, List.getElem?_range hi]
      simp only [Option.map_some]
      by_cases h : k + 2 ≤ i
      · rw [if_pos h, if_pos (by omega)]
      · rw [if_neg h, if_neg (by omega)]
  · rw [if_neg (by omega), List.getElem?_map, List.getElem?_map, List.getElem?_eq_none (by simp; omega)]
    rfl
/-- where k of the listed sheets, or more, are black -/
def enough (sheets : List Nat) (P : Nat) : List Nat := enAll P (fun j => sheets.getD j 0) sheets.length (sheets.length + 2)
def countB (l : List Nat) (i : Nat) : Nat := cntB (fun j => (l.getD j 0).testBit i) l.length
theorem enough_bit {l : List Nat} {P k i : Nat} (hk : k < l.length + 2) : ((enough l P).getD k 0).testBit i = (P.testBit i && decide (k ≤ countB l i)) := by
  unfold enough countB
  rw [enAll_get P _ hk, enG_bit]
theorem enough_len (l : List Nat) (P : Nat) : (enough l P).length = l.length + 2 := enAll_len ..
theorem many_cons (b : Bool) (l : List Bool) : many (b :: l) = (if b = true then 1 else 0) + many l := by
  unfold many
  cases b with
  | true => simp; omega
  | false => simp
theorem many_app (l m : List Bool) : many (l ++ m) = many l + many m := by
  unfold many
  rw [List.filter_append, List.length_append]
theorem cntB_many (b : Nat → Bool) : ∀ n, cntB b n = many ((List.range n).map b)
  | 0 => rfl
  | n + 1 => by
    rw [cntB, cntB_many b n, List.range_succ, List.map_append, many_app]
    show _ + _ = _ + many [b n]
    rw [many_cons]
    rfl
theorem count_map {l : List Nat} {i : Nat} {bs : List Bool} (hl : l.length = bs.length) (h : ∀ k, k < l.length → (l.getD k 0).testBit i = bs.getD k false) : countB l i = many bs := by
  unfold countB
  rw [cntB_many]
  congr 1
  apply List.ext_getElem?
  intro k
  by_cases hk : k < l.length
  · rw [List.getElem?_map, List.getElem?_range hk, Option.map_some, h k hk, List.getD_eq_getElem?_getD, List.getElem?_eq_getElem (by omega)]
    rfl
  · rw [List.getElem?_eq_none (by simp; omega), List.getElem?_eq_none (by omega)]
def clockL : List Nat := [1, 2, 5, 8, 7, 6, 3, 0]
def eightOf (w S : Nat) : List Nat := clockL.map fun k => (nineOf w S).getD k 0
theorem eight_len (w S : Nat) : (eightOf w S).length = 8 := rfl
theorem eight_bit {w h S : Nat} {p : Page} (R : SRep w h S p) {r c : Nat} (hc : c < w) (k : Nat) : ((eightOf w S).getD k 0).testBit (r * (w + 1) + c) = (clock (nine w h p.toArray c r)).getD k false := by
  unfold eightOf clock
  rw [List.getD_eq_getElem?_getD, List.getD_eq_getElem?_getD, List.getElem?_map, List.getElem?_map]
  show (((clockL[k]?).map _).getD 0).testBit _ = ((clockL[k]?).map _).getD false
  cases clockL[k]? with
  | none => simp
  | some j => exact nineOf_bit R hc j
theorem eight_many {w h S : Nat} {p : Page} (R : SRep w h S p) {r c : Nat} (hc : c < w) : countB (eightOf w S) (r * (w + 1) + c) = many (clock (nine w h p.toArray c r)) :=
  count_map rfl fun k _ => eight_bit R hc k
theorem nine_mid {w h : Nat} {x : Array Bool} {c r : Nat} : (nine w h x c r).getD 4 false = dot w h x c r := by
  have e : (nine w h x c r).getD 4 false = there w h x ((c : Int) + 0) ((r : Int) + 0) := rfl
  rw [e, Int.add_zero, Int.add_zero]
  unfold there
  simp
theorem nine_count (l : List Bool) (h : l.length = 9) : many l = many (clock l) + if l.getD 4 false = true then 1 else 0 := by
  match l, h with
  | [a, b, c, d, e, f, g, i, j], _ =>
    simp only [clock, List.map, many_cons, List.getD_cons_zero, List.getD_cons_succ]
    show _ = _
    have : many [] = 0 := rfl
    rw [this]
    omega
def keepAll (w k S : Nat) : Nat := (enough (eightOf w S) S).getD k 0
theorem keep_rep {w h k S : Nat} {p : Page} (hk : k ≤ 9) (R : SRep w h S p) : Rep w h (pageOf w h (keepAll w k S)) (kept w h k p) := by
  unfold kept
  refine page_of_bits fun r c hr hc => ?_
  unfold keepAll
  rw [enough_bit (by rw [eight_len]; omega), eight_many R hc, R.at (by omega)]
  cases hd : dot w h p.toArray c r with
  | false => rfl
  | true =>
    have h9 : (nine w h p.toArray c r).length = 9 := rfl
    rw [nine_count _ h9, nine_mid, hd, if_pos rfl, Bool.true_and, Bool.true_and, Bool.eq_iff_iff, decide_eq_true_eq, decide_eq_true_eq]
    omega
end Dot

namespace Dot
open Sh56
/-! ### rounds -/
def followL (e : List Nat) : List Nat := (List.range 8).map fun k => wtho (e.getD ((k + 1) % 8) 0) (e.getD k 0)
def mayGo (e : List Nat) (S : Nat) : Nat := wtho ((enough e S).getD 2 0) ((enough e S).getD 7 0) &&& wtho ((enough (followL e) S).getD 1 0) ((enough (followL e) S).getD 2 0)
def threeAnd (e : List Nat) (t : Nat × Nat × Nat) : Nat := (e.getD t.1 0 &&& e.getD t.2.1 0) &&& e.getD t.2.2 0
def halfR (w S : Nat) (t u : Nat × Nat × Nat) : Nat := wtho S (wtho (wtho (mayGo (eightOf w S) S) (threeAnd (eightOf w S) t)) (threeAnd (eightOf w S) u))
def wholeR (w S : Nat) : Nat := halfR w (halfR w S (0, 2, 4) (2, 4, 6)) (0, 2, 6) (0, 4, 6)
theorem follow_len (e : List Nat) : (followL e).length = 8 := by simp [followL]
theorem follow_many {w h S : Nat} {p : Page} (R : SRep w h S p) {r c : Nat} (hc : c < w) : countB (followL (eightOf w S)) (r * (w + 1) + c) = changes (clock (nine w h p.toArray c r)) := by
  unfold countB
  rw [follow_len, cntB_many]
  unfold changes many
  rw [List.filter_map, List.length_map]
  congr 1
  refine List.filter_congr fun k hk => ?_
  rw [List.mem_range] at hk
  show ((followL (eightOf w S)).getD k 0).testBit _ = _
  unfold followL
  rw [getD_map 8 _ 0 hk, wtho_bit, eight_bit R hc, eight_bit R hc, Bool.and_comm]
theorem three_bits {w h S : Nat} {p : Page} (R : SRep w h S p) {r c : Nat} (hc : c < w) (a b d : Nat) : (threeAnd (eightOf w S) (a, b, d)).testBit (r * (w + 1) + c) = ((clock (nine w h p.toArray c r)).getD a false && ((clock (nine w h p.toArray c r)).getD b false && (clock (nine w h p.toArray c r)).getD d false)) := by
  unfold threeAnd
  rw [Nat.testBit_and, Nat.testBit_and, eight_bit R hc, eight_bit R hc, eight_bit R hc, Bool.and_assoc]
theorem go_bits {w h S : Nat} {p : Page} (R : SRep w h S p) {r c : Nat} (hc : c < w) : (mayGo (eightOf w S) S).testBit (r * (w + 1) + c) = (dot w h p.toArray c r && (decide (2 ≤ many (clock (nine w h p.toArray c r))) && (decide (many (clock (nine w h p.toArray c r)) ≤ 6) && (changes (clock (nine w h p.toArray c r)) == 1)))) := by
  unfold mayGo
  rw [Nat.testBit_and, wtho_bit, wtho_bit, enough_bit (by rw [eight_len]; omega), enough_bit (by rw [eight_len]; omega), enough_bit (by rw [follow_len]; omega), enough_bit (by rw [follow_len]; omega), eight_many R hc, follow_many R hc, R.at (by omega)]
  generalize many (clock (nine w h p.toArray c r)) = m
  generalize changes (clock (nine w h p.toArray c r)) = g
  cases dot w h p.toArray c r with
  | false => rfl
  | true =>
    rw [Bool.eq_iff_iff]
    simp only [Bool.true_and, Bool.and_eq_true, Bool.not_eq_true', decide_eq_true_eq, decide_eq_false_iff_not, beq_iff_eq]
    omega
theorem half_rep {w h S : Nat} {p : Page} {second : Bool} {t u : Nat × Nat × Nat} (R : SRep w h S p)
    (ht : ∀ l : List Bool, goes second l = (l.getD 4 false && (decide (2 ≤ many (clock l)) && (decide (many (clock l) ≤ 6) && (changes (clock l) == 1 && (!((clock l).getD t.1 false && ((clock l).getD t.2.1 false && (clock l).getD t.2.2 false)) && !((clock l).getD u.1 false && ((clock l).getD u.2.1 false && (clock l).getD u.2.2 false)))))))) :
    SRep w h (halfR w S t u) (halfRound second w h p) := by
  intro i
  unfold halfRound
  rw [dot_each]
  have hi : i / (w + 1) * (w + 1) + i % (w + 1) = i := by rw [Nat.mul_comm]; exact Nat.div_add_mod i (w + 1)
  generalize hr : i / (w + 1) = r at hi ⊢
  generalize hc' : i % (w + 1) = c at hi ⊢
  have hle : c ≤ w := by
    have : i % (w + 1) < w + 1 := Nat.mod_lt _ (by omega)
    omega
  rw [← hi]
  unfold halfR
  rw [wtho_bit, R.at hle]
  by_cases hc : c < w
  · by_cases hh : r < h
    · rw [wtho_bit, wtho_bit, go_bits R hc, three_bits R hc, three_bits R hc, ht, nine_mid, decide_eq_true hc, decide_eq_true hh]
      simp only [Bool.true_and, Bool.and_assoc]
    · rw [dot_out (by omega)]
      simp [hh]
  · rw [dot_out (by omega)]
    simp [hc]
theorem whole_rep {w h S : Nat} {p : Page} (R : SRep w h S p) : SRep w h (wholeR w S) (round w h p) :=
  half_rep (second := true) (half_rep (second := false) R fun l => rfl) fun l => rfl
theorem SRep.inj {w h S T : Nat} {p : Page} (R : SRep w h S p) (R' : SRep w h T p) : S = T := Nat.eq_of_testBit_eq fun i => by rw [R, R']
theorem page_ext {w h : Nat} {p q : Page} (hp : p.length = h * w) (hq : q.length = h * w) (e : ∀ c r, c < w → r < h → dot w h p.toArray c r = dot w h q.toArray c r) : p = q := by
  apply List.ext_getElem?
  intro i
  by_cases hi : i < h * w
  · have hw : 0 < w := by
      rcases Nat.eq_zero_or_pos w with h0 | h0
      · rw [h0, Nat.mul_zero] at hi; omega
      · exact h0
    have hc : i % w < w := Nat.mod_lt _ hw
    have hr : i / w < h := (Nat.div_lt_iff_lt_mul hw).mpr hi
    have e2 := e _ _ hc hr
    rw [← at_dot hc hr, ← at_dot hc hr, arr_getD, arr_getD] at e2
    have hd : i / w * w + i % w = i := by rw [Nat.mul_comm]; exact Nat.div_add_mod i w
    rw [hd, List.getD_eq_getElem?_getD, List.getD_eq_getElem?_getD, List.getElem?_eq_getElem (by omega), List.getElem?_eq_getElem (by omega)] at e2
    rw [List.getElem?_eq_getElem (by omega), List.getElem?_eq_getElem (by omega)]
    exact congrArg some e2
  · rw [List.getElem?_eq_none (by omega), List.getElem?_eq_none (by omega)]
theorem SRep.page {w h S : Nat} {p q : Page} (R : SRep w h S p) (R' : SRep w h S q) (hp : p.length = h * w) (hq : q.length = h * w) : p = q :=
  page_ext hp hq fun c r hc hr => by rw [← R.at (by omega), ← R'.at (by omega)]
theorem round_len (w h : Nat) (p : Page) : (round w h p).length = h * w := each_len ..
/-! fewer dots -/
theorem many_le : ∀ {l m : List Bool}, l.length = m.length → (∀ i, l.getD i false = true → m.getD i false = true) → many l ≤ many m ∧ (many l = many m → l = m)
  | [], [], _, _ => ⟨Nat.le_refl _, fun _ => rfl⟩
  | a :: l, b :: m, h, hi => by
    have h2 : l.length = m.length := by simpa using h
    obtain ⟨h3, h4⟩ := many_le h2 fun i q => hi (i + 1) q
    have h0 : a = true → b = true := hi 0
    rw [many_cons, many_cons]
    cases a with
    | true =>
      rw [h0 rfl]
      refine ⟨by omega, fun e => ?_⟩
      rw [h4 (by omega)]
    | false =>
      cases b with
      | true => simp only [if_pos]; exact ⟨by simp; omega, fun e => by simp at e; omega⟩
      | false => exact ⟨by omega, fun e => by rw [h4 (by omega)]⟩
theorem dot_half_le (second : Bool) (w h : Nat) (p : Page) {c r : Nat} (hd : dot w h (halfRound second w h p).toArray c r = true) : dot w h p.toArray c r = true := by
  unfold halfRound at hd
  rw [dot_each, Bool.and_eq_true, Bool.and_eq_true, Bool.and_eq_true] at hd
  exact hd.2.2.1
theorem round_less {w h : Nat} {p : Page} (hp : p.length = h * w) (ne : round w h p ≠ p) : many (round w h p) < many p := by
  have H := many_le (l := round w h p) (m := p) (by rw [round_len, hp]) fun i hi => ?_
  · have : many (round w h p) ≠ many p := fun e => ne (H.2 e)
    have := H.1
    omega
  · by_cases hl : i < h * w
    · have hw : 0 < w := by
        rcases Nat.eq_zero_or_pos w with h0 | h0
        · rw [h0, Nat.mul_zero] at hl; omega
        · exact h0
      have hc : i % w < w := Nat.mod_lt _ hw
      have hr : i / w < h := (Nat.div_lt_iff_lt_mul hw).mpr hl
      have hd : i / w * w + i % w = i := by rw [Nat.mul_comm]; exact Nat.div_add_mod i w
      have e1 := at_dot (p := round w h p) hc hr
      have e2 := at_dot (p := p) hc hr
      rw [arr_getD, hd] at e1 e2
      rw [e1] at hi
      rw [e2]
      exact dot_half_le _ _ _ _ (dot_half_le _ _ _ _ hi)
    · rw [List.getD_eq_getElem?_getD, List.getElem?_eq_none (by rw [round_len]; omega)] at hi
      cases hi
theorem many_len (l : List Bool) : many l ≤ l.length := List.length_filter_le ..
theorem thinned_stop {w h f : Nat} {p : Page} (hf : 0 < f) (e : round w h p = p) : thinned w h f p = (p, 0) := by
  cases f with
  | zero => omega
  | succ f =>
    show (if round w h p = p then (p, 0) else _) = _
    rw [if_pos e]
theorem thinned_go {w h f : Nat} {p : Page} (e : round w h p ≠ p) : thinned w h (f + 1) p = ((thinned w h f (round w h p)).1, (thinned w h f (round w h p)).2 + 1) := by
  show (if round w h p = p then (p, 0) else _) = _
  rw [if_neg e]
/-! ### counts -/
def sumBits (f : Nat → Bool) : Nat → Nat
  | 0 => 0
  | n + 1 => sumBits f n + if f n = true then 1 else 0
theorem sum_bits (f : Nat → Bool) : ∀ n, ((List.range n).map fun k => if f k = true then 1 else 0).sum = many ((List.range n).map f)
  | 0 => rfl
  | n + 1 => by
    rw [List.range_succ, List.map_append, List.map_append, List.sum_append, many_app, sum_bits f n]
    show _ + ((if f n = true then 1 else 0) + 0) = _ + many [f n]
    rw [many_cons]
    rfl
def colPl (rows : List Nat) (c : Nat) : List Nat := rows.map fun row => row / 2 ^ c &&& 1
theorem colPl_range (rows : List Nat) (c : Nat) : colPl rows c = (List.range rows.length).map fun r => if (rows.getD r 0).testBit c = true then 1 else 0 := by
  unfold colPl
  conv => lhs; rw [self_map rows]
  rw [List.map_map]
  refine List.map_congr_left fun r _ => ?_
  exact and_one_bit _ _
def colSums (w : Nat) (rows : List Nat) : List Nat := (List.range w).map fun c => (colPl rows c).sum
def rowSums (w : Nat) (rows : List Nat) : List Nat := rows.map fun row => (sprRow w row).sum
theorem colSums_is {w h : Nat} {rows : List Nat} {p : Page} (R : Rep w h rows p) : colSums w rows = columnCounts w h p := by
  unfold colSums columnCounts
  refine List.map_congr_left fun c _ => ?_
  rw [colPl_range, sum_bits, R.1]
  congr 1
  refine List.map_congr_left fun r _ => R.2 r c
theorem rowSums_is {w h : Nat} {rows : List Nat} {p : Page} (R : Rep w h rows p) : rowSums w rows = rowCounts w h p := by
  unfold rowSums rowCounts
  have hl := R.1
  conv => lhs; rw [self_map rows, hl]
  rw [List.map_map]
  refine List.map_congr_left fun r _ => ?_
  show (sprRow w (rows.getD r 0)).sum = _
  unfold sprRow
  have : (List.range w).map (fun c => rows.getD r 0 / 2 ^ c &&& 1) = (List.range w).map fun c => if (rows.getD r 0).testBit c = true then 1 else 0 := List.map_congr_left fun c _ => and_one_bit _ _
  rw [this, sum_bits]
  congr 1
  refine List.map_congr_left fun c _ => R.2 r c
theorem many_flat (g : Nat → List Bool) : ∀ h, many ((List.range h).flatMap g) = ((List.range h).map fun r => many (g r)).sum
  | 0 => rfl
  | h + 1 => by
    rw [List.range_succ, List.flatMap_append, List.map_append, List.sum_append, many_app, many_flat g h]
    simp
theorem rowSums_all {w h : Nat} (f : Nat → Nat → Bool) : (rowCounts w h (each w h f)).sum = many (each w h f) := by
  unfold rowCounts
  rw [show many (each w h f) = ((List.range h).map fun r => many ((List.range w).map fun c => f c r)).sum from many_flat _ h]
  congr 1
  refine List.map_congr_left fun r hr => ?_
  rw [List.mem_range] at hr
  congr 1
  refine List.map_congr_left fun c hc => ?_
  rw [List.mem_range] at hc
  rw [dot_each]
  simp [hr, hc]
/-! ### from the last on -/
def shL (a p : Nat) : Nat := a * 2 ^ 1 ||| p
def rfl_ (places : List Nat) : Nat := places.foldl shL 0
theorem rfl_snoc (l : List Nat) (p : Nat) : rfl_ (l ++ [p]) = rfl_ l * 2 ^ 1 ||| p := by
  unfold rfl_
  rw [List.foldl_append]
  rfl
theorem rfl_bit (f : Nat → Bool) (j : Nat) : ∀ n, (rfl_ ((List.range n).map fun k => if f k = true then 1 else 0)).testBit j = (decide (j < n) && f (n - 1 - j))
  | 0 => by simp [rfl_]
  | n + 1 => by
    rw [List.range_succ, List.map_append]
    show (rfl_ (_ ++ [if f n = true then 1 else 0])).testBit j = _
    rw [rfl_snoc, Nat.testBit_or, Nat.testBit_mul_two_pow, rfl_bit f (j - 1) n]
    cases j with
    | zero =>
      simp
      cases f n <;> simp
    | succ j =>
      have : ((if f n = true then 1 else 0 : Nat)).testBit (j + 1) = false := by
        refine tb_small (n := 1) ?_ (by omega)
        cases f n <;> decide
      rw [this, Bool.or_false, decide_eq_true (show 1 ≤ j + 1 by omega), Bool.true_and]
      have e : n - 1 - (j + 1 - 1) = n + 1 - 1 - (j + 1) := by omega
      rw [e]
      congr 1
      simp
theorem shL_lt : ∀ (l : List Nat) (a m : Nat), (∀ y ∈ l, y < 2) → a < 2 ^ m → l.foldl shL a < 2 ^ (m + l.length)
  | [], a, m, _, h => h
  | p :: l, a, m, hl, h => by
    have h2 : p < 2 := hl p List.mem_cons_self
    have h3 : shL a p < 2 ^ (m + 1) := by
      unfold shL
      refine Nat.or_lt_two_pow ?_ ?_
      · rw [Nat.pow_succ]; omega
      · have := Nat.one_le_two_pow (n := m)
        rw [Nat.pow_succ]; omega
    have h4 := shL_lt l (shL a p) (m + 1) (fun y hy => hl y (List.mem_cons_of_mem _ hy)) h3
    rw [List.foldl_cons, List.length_cons, show m + (l.length + 1) = m + 1 + l.length by omega]
    exact h4
theorem rfl_lt {l : List Nat} (h : ∀ y ∈ l, y < 2) : rfl_ l < 2 ^ l.length := by
  have := shL_lt l 0 0 h (by decide)
  rwa [Nat.zero_add] at this
theorem spr_range (w row : Nat) : sprRow w row = (List.range w).map fun c => if row.testBit c = true then 1 else 0 := List.map_congr_left fun c _ => and_one_bit _ _
theorem spr_bits (w row : Nat) : ∀ y ∈ sprRow w row, y < 2 := by
  rw [spr_range]
  intro y hy
  obtain ⟨c, _, rfl⟩ := List.mem_map.mp hy
  split <;> decide
theorem col_bits (rows : List Nat) (c : Nat) : ∀ y ∈ colPl rows c, y < 2 := by
  rw [colPl_range]
  intro y hy
  obtain ⟨c, _, rfl⟩ := List.mem_map.mp hy
  split <;> decide
/-! ### turned, mirrored -/
def quartPage (w : Nat) (rows : List Nat) : List Nat := (List.range w).map fun c => rfl_ (colPl rows c)
theorem quart_rep {w h : Nat} {rows : List Nat} {p : Page} (R : Rep w h rows p) : Rep h w (quartPage w rows) (quarter w h p) := by
  unfold quarter
  refine rep_each (by simp [quartPage]) fun r c hr => ?_
  unfold quartPage
  rw [getD_map w _ 0 hr, colPl_range, rfl_bit (fun k => (rows.getD k 0).testBit r), R.1]
  rw [R.2]
theorem quart_len (w : Nat) (rows : List Nat) : (quartPage w rows).length = w := by simp [quartPage]
def mirPage (w : Nat) (rows : List Nat) : List Nat := rows.map fun row => rfl_ (sprRow w row)
theorem mir_rep {w h : Nat} {rows : List Nat} {p : Page} (R : Rep w h rows p) : Rep w h (mirPage w rows) (mirrored w h p) := by
  unfold mirrored
  refine rep_each (by unfold mirPage; rw [List.length_map]; exact R.1) fun r c hr => ?_
  unfold mirPage
  rw [getD_mapL' (by rw [R.1]; exact hr), spr_range, rfl_bit, R.2]
/-! ### halved -/
def everyOther {α : Type} : List α → List α
  | [] => []
  | [a] => [a]
  | a :: _ :: l => a :: everyOther l
theorem other_get {α : Type} : ∀ (l : List α) (i : Nat), (everyOther l)[i]? = l[2 * i]?
  | [], i => by simp [everyOther]
  | [a], 0 => by simp [everyOther]
  | [a], i + 1 => by simp [everyOther]
  | a :: b :: l, 0 => by simp [everyOther]
  | a :: b :: l, i + 1 => by
    show (everyOther l)[i]? = _
    rw [other_get l i, show 2 * (i + 1) = 2 * i + 1 + 1 by omega]
    rfl
theorem other_len {α : Type} : ∀ l : List α, (everyOther l).length = (l.length + 1) / 2
  | [] => by simp [everyOther]
  | [a] => by simp [everyOther]
  | a :: b :: l => by
    show (everyOther l).length + 1 = (l.length + 1 + 1 + 1) / 2
    rw [other_len l]
    omega
def halfRow (k w above below : Nat) : Nat := rfb (everyOther (sprRow (w - w % 2) ((enough [above, above / 2 ^ 1, below, below / 2 ^ 1] (2 ^ w - 1)).getD k 0)))
def halfPage (k w h : Nat) (rows : List Nat) : List Nat := (List.range (h / 2)).map fun r => halfRow k w (rows.getD (2 * r) 0) (rows.getD (2 * r + 1) 0)
theorem halfRow_bit {k w a b c : Nat} (hk : k ≤ 4) : (halfRow k w a b).testBit c = (decide (c < w / 2) && decide (k ≤ many [a.testBit (2 * c), a.testBit (2 * c + 1), b.testBit (2 * c), b.testBit (2 * c + 1)])) := by
  unfold halfRow
  rw [rfb_bit, List.getD_eq_getElem?_getD, other_get]
  by_cases hc : c < w / 2
  · rw [spr_range, List.getElem?_map, List.getElem?_range (show 2 * c < w - w % 2 by omega)]
    show ((if _ then 1 else 0) != 0) = _
    rw [enough_bit (by show k < 4 + 2; omega), Nat.testBit_two_pow_sub_one]
    rw [count_map (bs := [a.testBit (2 * c), a.testBit (2 * c + 1), b.testBit (2 * c), b.testBit (2 * c + 1)]) rfl ?_]
    · rw [decide_eq_true hc, decide_eq_true (show 2 * c < w by omega), Bool.true_and]
      generalize many _ = m
      by_cases h : k ≤ m
      · simp [h]
      · simp [h]
    · intro j hj
      have hj : j < 4 := hj
      match j, hj with
      | 0, _ => rfl
      | 1, _ => exact Nat.testBit_div_two_pow ..
      | 2, _ => rfl
      | 3, _ => exact Nat.testBit_div_two_pow ..
  · rw [spr_range, List.getElem?_map, List.getElem?_eq_none (by simp; omega), decide_eq_false hc]
    rfl
theorem half_page_rep {k w h : Nat} {rows : List Nat} {p : Page} (hk : k ≤ 4) (R : Rep w h rows p) : Rep (w / 2) (h / 2) (halfPage k w h rows) (half w h k p) := by
  unfold half
  refine rep_each (by simp [halfPage]) fun r c hr => ?_
  unfold halfPage
  rw [getD_map (h / 2) _ 0 hr, halfRow_bit hk, R.2, R.2, R.2, R.2]
end Dot

namespace Dot
open Sh56
/-! ### runs -/
def runStep (b : Nat → Bool) (l : List (Nat × Nat)) (c : Nat) : List (Nat × Nat) := if b c = false then l else match l with
  | [] => [(c, 1)]
  | p :: q => if p.1 + p.2 = c then (p.1, p.2 + 1) :: q else (c, 1) :: l
def runL (b : Nat → Bool) (n : Nat) : List (Nat × Nat) := (List.range n).foldl (runStep b) []
theorem runL_succ (b : Nat → Bool) (n : Nat) : runL b (n + 1) = runStep b (runL b n) n := by
  unfold runL
  rw [List.range_succ, List.foldl_append]
  rfl
def prevB (b : Nat → Bool) : Nat → Bool
  | 0 => false
  | n + 1 => b n
def chB (b : Nat → Bool) (c : Nat) : Bool := b c != prevB b c
def chL (b : Nat → Bool) (n : Nat) : List Nat := (List.range n).filter (chB b)
theorem chL_succ (b : Nat → Bool) (n : Nat) : chL b (n + 1) = chL b n ++ if chB b n = true then [n] else [] := by
  unfold chL
  rw [List.range_succ, List.filter_append]
  congr 1
  rw [List.filter_cons]
  rfl
def ends2 (l : List (Nat × Nat)) : List Nat := l.flatMap fun p => [p.1, p.1 + p.2]
theorem ends_cons (p : Nat × Nat) (q : List (Nat × Nat)) : ends2 (p :: q).reverse = ends2 q.reverse ++ [p.1, p.1 + p.2] := by
  unfold ends2
  rw [List.reverse_cons, List.flatMap_append]
  simp
theorem runs_inv (b : Nat → Bool) : ∀ n, (prevB b n = true → ∃ s m q, runL b n = (s, m) :: q ∧ s + m = n ∧ chL b n = ends2 q.reverse ++ [s]) ∧
    (prevB b n = false → chL b n = ends2 (runL b n).reverse ∧ ∀ p q, runL b n = p :: q → p.1 + p.2 < n)
  | 0 => ⟨fun h => (by cases h), fun _ => ⟨rfl, fun p q h => (by cases h)⟩⟩
  | n + 1 => by
    obtain ⟨h1, h2⟩ := runs_inv b n
    rw [runL_succ, chL_succ]
    unfold runStep chB
    show (b n = true → _) ∧ (b n = false → _)
    refine ⟨fun hb => ?_, fun hb => ?_⟩
    · rw [hb, if_neg (by decide)]
      cases hp : prevB b n with
      | true =>
        obtain ⟨s, m, q, e1, e2, e3⟩ := h1 hp
        rw [e1]
        refine ⟨s, m + 1, q, by simp [e2], by omega, ?_⟩
        rw [e3]
        simp
      | false =>
        obtain ⟨e1, e2⟩ := h2 hp
        cases e : runL b n with
        | nil =>
          refine ⟨n, 1, [], rfl, rfl, ?_⟩
          rw [e1, e]
          simp [ends2]
        | cons p q =>
          have := e2 p q e
          refine ⟨n, 1, p :: q, ?_, rfl, ?_⟩
          · show (if p.1 + p.2 = n then _ else _) = _
            rw [if_neg (by omega)]
          · rw [e1, e]
            simp
    · rw [hb, if_pos rfl]
      cases hp : prevB b n with
      | true =>
        obtain ⟨s, m, q, e1, e2, e3⟩ := h1 hp
        rw [e1, e3]
        refine ⟨?_, fun p q' h => ?_⟩
        · rw [ends_cons, e2]
          simp
        · cases h
          show s + m < n + 1
          omega
      | false =>
        obtain ⟨e1, e2⟩ := h2 hp
        refine ⟨?_, fun p q h => ?_⟩
        · rw [e1]
          simp
        · have := e2 p q h
          omega
theorem runs_ends {b : Nat → Bool} {w : Nat} (hb : b w = false) : chL b (w + 1) = ends2 (runL b w).reverse := by
  have := (runs_inv b (w + 1)).2 hb
  rw [runL_succ] at this
  unfold runStep at this
  rw [hb, if_pos rfl] at this
  exact this.1
theorem ends_len (l : List (Nat × Nat)) : (ends2 l).length = 2 * l.length := by
  induction l with
  | nil => rfl
  | cons a l ih =>
    show ([a.1, a.1 + a.2] ++ ends2 l).length = _
    rw [List.length_append, ih]
    simp
    omega
theorem ends_other (l : List (Nat × Nat)) : everyOther (ends2 l) = l.map fun p => p.1 := by
  induction l with
  | nil => rfl
  | cons a l ih =>
    show everyOther (a.1 :: (a.1 + a.2) :: ends2 l) = _
    show a.1 :: everyOther (ends2 l) = _
    rw [ih]
    rfl
theorem ends_get : ∀ (l : List (Nat × Nat)) (k : Nat), k < l.length → (ends2 l).getD (2 * k) 0 = (l.getD k (0, 0)).1 ∧ (ends2 l).getD (2 * k + 1) 0 = (l.getD k (0, 0)).1 + (l.getD k (0, 0)).2
  | [], k, h => absurd h (Nat.not_lt_zero _)
  | a :: l, 0, _ => ⟨rfl, rfl⟩
  | a :: l, k + 1, h => by
    have ih := ends_get l k (by simpa using h)
    rw [show 2 * (k + 1) = 2 * k + 1 + 1 by omega]
    exact ih
theorem lens_map (l : List (Nat × Nat)) : ((List.range l.length).map fun k => (ends2 l).getD (2 * k + 1) 0 - (ends2 l).getD (2 * k) 0) = l.map fun p => p.2 := by
  apply List.ext_getElem?
  intro k
  by_cases hk : k < l.length
  · obtain ⟨e1, e2⟩ := ends_get l k hk
    rw [List.getElem?_map, List.getElem?_range hk, Option.map_some, e1, e2, List.getElem?_map, List.getElem?_eq_getElem hk, List.getD_eq_getElem?_getD, List.getElem?_eq_getElem hk]
    simp
  · rw [List.getElem?_eq_none (by simp; omega), List.getElem?_eq_none (by simp; omega)]
/-- what the program tells of a row -/
def chRow (w row : Nat) : List Nat := (List.range (w + 1)).filter fun c => (row ^^^ row * 2 ^ 1).testBit c
theorem chRow_is (w row : Nat) : chRow w row = chL (fun c => row.testBit c) (w + 1) := by
  unfold chRow chL
  refine List.filter_congr fun c _ => ?_
  unfold chB
  rw [Nat.testBit_xor, Nat.testBit_mul_two_pow]
  cases c with
  | zero => simp [prevB]
  | succ c => simp [prevB]
theorem runs_is {w h : Nat} {x : Page} {r : Nat} : runs w h x r = (runL (fun c => dot w h x.toArray c r) w).reverse := rfl
end Dot

namespace Dot
open Sh56
/-! ### read from the last place on -/
theorem getD_rev (f : Nat → Bool) (n j : Nat) : (((List.range n).map fun k => if f k = true then 1 else 0).reverse.getD j 0 != 0) = (decide (j < n) && f (n - 1 - j)) := by
  rw [List.getD_eq_getElem?_getD]
  by_cases hj : j < n
  · rw [List.getElem?_reverse (by simpa using hj), List.length_map, List.length_range, List.getElem?_map, List.getElem?_range (by omega), decide_eq_true hj, Bool.true_and]
    show ((if f (n - 1 - j) = true then 1 else 0) != 0) = _
    cases f (n - 1 - j) <;> rfl
  · rw [List.getElem?_eq_none (by simp; omega), decide_eq_false hj]
    rfl
theorem rfb_rev (f : Nat → Bool) (n : Nat) : rfb ((List.range n).map fun k => if f k = true then 1 else 0).reverse = rfl_ ((List.range n).map fun k => if f k = true then 1 else 0) :=
  Nat.eq_of_testBit_eq fun j => by rw [rfb_bit, getD_rev, rfl_bit]
theorem rfb_spr (w row : Nat) : rfb (sprRow w row).reverse = rfl_ (sprRow w row) := by
  rw [spr_range, rfb_rev (fun c => row.testBit c)]
theorem rfb_col (rows : List Nat) (c : Nat) : rfb (colPl rows c).reverse = rfl_ (colPl rows c) := by
  rw [colPl_range, rfb_rev (fun r => (rows.getD r 0).testBit c)]
/-! ### what is told, handed in again -/
theorem rows_ext {rows rows' : List Nat} (hl : rows.length = rows'.length) (h : ∀ r, r < rows.length → rows.getD r 0 = rows'.getD r 0) : rows = rows' := by
  rw [self_map rows, self_map rows', ← hl]
  exact List.map_congr_left fun r hr => h r (List.mem_range.mp hr)
theorem outRow_get {w row k : Nat} (hk : k < wide w) : (outRow w row).getD k 0 = row / 2 ^ (32 * k) &&& (2 ^ 32 - 1) := by
  unfold outRow
  rw [getD_map _ _ _ hk]
theorem outRow_lt (w row : Nat) : ∀ y ∈ outRow w row, y < 2 ^ 32 := by
  unfold outRow
  intro y hy
  obtain ⟨k, _, rfl⟩ := List.mem_map.mp hy
  exact Nat.and_lt_two_pow _ (by decide)
theorem outPage_lt (w : Nat) (rows : List Nat) : ∀ y ∈ outPage w rows, y < 2 ^ 32 := by
  unfold outPage
  intro y hy
  obtain ⟨row, _, h⟩ := List.mem_flatMap.mp hy
  exact outRow_lt w row y h
theorem rfw_out {w row : Nat} (h : row < 2 ^ w) : rfw (outRow w row) = row := by
  refine Nat.eq_of_testBit_eq fun c => ?_
  rw [rfw_bit (outRow_lt w row)]
  by_cases hk : c / 32 < wide w
  · rw [outRow_get hk, Nat.testBit_and, Nat.testBit_two_pow_sub_one, Nat.testBit_div_two_pow, decide_eq_true (Nat.mod_lt _ (by decide)), Bool.and_true]
    congr 1
    omega
  · have hc : w ≤ c := by
      unfold wide at hk
      omega
    rw [List.getD_eq_getElem?_getD, List.getElem?_eq_none (by unfold outRow; simp; omega), tb_small h hc]
    exact Nat.zero_testBit _
theorem out_cut (w : Nat) : ∀ (rows : List Nat) (r : Nat), r < rows.length → ((outPage w rows).drop (r * wide w)).take (wide w) = outRow w (rows.getD r 0)
  | [], r, h => absurd h (Nat.not_lt_zero _)
  | a :: l, 0, _ => by
    show List.take _ (List.drop _ (outRow w a ++ outPage w l)) = outRow w a
    rw [Nat.zero_mul, List.drop_zero]
    have : (outRow w a).length = wide w := by simp [outRow]
    rw [← this, List.take_left']
    rfl
  | a :: l, r + 1, h => by
    have ih := out_cut w l r (by simpa using h)
    show List.take _ (List.drop _ (outRow w a ++ outPage w l)) = outRow w (l.getD r 0)
    have : (outRow w a).length = wide w := by simp [outRow]
    rw [← ih, Nat.succ_mul, Nat.add_comm, ← List.drop_drop]
    congr 2
    rw [List.drop_left' this]
theorem pfw_out {w h : Nat} {rows : List Nat} (hl : rows.length = h) (hr : ∀ y ∈ rows, y < 2 ^ w) : pfw w h (outPage w rows) = rows := by
  refine rows_ext (by rw [pfw_len, hl]) fun r hr' => ?_
  rw [pfw_len] at hr'
  unfold pfw
  have hlt : rows.getD r 0 < 2 ^ w := getD_lt hr (Nat.two_pow_pos w) r
  rw [getD_map h _ 0 hr', out_cut w rows r (by omega), rfw_out hlt, Nat.and_two_pow_sub_one_eq_mod, Nat.mod_eq_of_lt hlt]
/-! ### doubled -/
def dblPl (w row : Nat) : List Nat := (List.range (2 * w)).map fun c => row / 2 ^ (c / 2) &&& 1
def dblRow (w row : Nat) : Nat := rfb (dblPl w row)
def dblPage (w h : Nat) (rows : List Nat) : List Nat := (List.range (2 * h)).map fun r => (rows.map (dblRow w)).getD (r / 2) 0
theorem dblRow_bit (w row c : Nat) : (dblRow w row).testBit c = (decide (c < 2 * w) && row.testBit (c / 2)) := by
  unfold dblRow dblPl
  rw [rfb_bit]
  by_cases hc : c < 2 * w
  · rw [getD_map _ _ _ hc, and_one_bit, decide_eq_true hc, Bool.true_and]
    cases row.testBit (c / 2) <;> rfl
  · rw [List.getD_eq_getElem?_getD, List.getElem?_eq_none (by simp; omega), decide_eq_false hc]
    rfl
theorem dbl_rep {w h : Nat} {rows : List Nat} {p : Page} (R : Rep w h rows p) : Rep (2 * w) (2 * h) (dblPage w h rows) (doubled w h p) := by
  unfold doubled
  refine rep_each (by simp [dblPage]) fun r c hr => ?_
  unfold dblPage
  rw [getD_map _ _ _ hr, getD_mapL' (by rw [R.1]; omega), dblRow_bit, R.2]
/-! ### cut -/
def cutRows (x0 u : Nat) (rows : List Nat) : List Nat := rows.map fun row => row / 2 ^ x0 &&& (2 ^ u - 1)
theorem cut_rep {w h x0 y0 u v : Nat} {rows : List Nat} {p : Page} (R : Rep w h rows p) (hv : y0 + v ≤ h) : Rep u v (cutRows x0 u ((rows.drop y0).take v)) (cut w h x0 y0 u v p) := by
  unfold cut
  have hl := R.1
  refine rep_each (by simp [cutRows]; omega) fun r c hr => ?_
  unfold cutRows
  rw [getD_mapL' (by rw [List.length_take, List.length_drop]; omega), Nat.testBit_and, Nat.testBit_two_pow_sub_one, Nat.testBit_div_two_pow, Bool.and_comm]
  congr 1
  rw [List.getD_eq_getElem?_getD, List.getElem?_take_of_lt hr, List.getElem?_drop, ← List.getD_eq_getElem?_getD, R.2, Nat.add_comm c]
/-! ### apart -/
def apartL (w h : Nat) (a b : List Nat) : List Nat := (List.range h).map fun r => (sprRow w (a.getD r 0 ^^^ b.getD r 0)).sum
theorem table_apart (a b : Bool) : byTable 0x3C a b false = (a != b) := by cases a <;> cases b <;> decide
theorem three_apart (w h : Nat) (f g : Nat → Nat → Bool) : three 0x3C (each w h f) (each w h g) [] = each w h fun c r => f c r != g c r := by
  apply List.ext_getElem?
  intro i
  have hs : (three 0x3C (each w h f) (each w h g) []).length = h * w := by
    unfold three
    simp [each_len]
  by_cases hi : i < h * w
  · have hw : 0 < w := by
      rcases Nat.eq_zero_or_pos w with h0 | h0
      · rw [h0, Nat.mul_zero] at hi; omega
      · exact h0
    have hc : i % w < w := Nat.mod_lt _ hw
    have hr : i / w < h := (Nat.div_lt_iff_lt_mul hw).mpr hi
    have hd : i / w * w + i % w = i := by rw [Nat.mul_comm]; exact Nat.div_add_mod i w
    have e1 := each_get f hr hc
    have e2 := each_get g hr hc
    have e3 := each_get (fun c r => f c r != g c r) hr hc
    rw [hd] at e1 e2 e3
    rw [e3]
    unfold three
    show ((List.range (each w h f).toArray.size).map fun i => byTable 0x3C ((each w h f).toArray.getD i false) ((each w h g).toArray.getD i false) (([] : List Bool).toArray.getD i false))[i]? = _
    rw [List.getElem?_map, List.getElem?_range (by rw [List.size_toArray, each_len]; exact hi), Option.map_some, arr_getD, arr_getD, arr_getD, List.getD_eq_getElem?_getD, List.getD_eq_getElem?_getD, e1, e2]
    exact congrArg some (table_apart _ _)
  · rw [List.getElem?_eq_none (by omega), List.getElem?_eq_none (by rw [each_len]; omega)]
theorem apart_is {w h : Nat} {a b : List Nat} {f g : Nat → Nat → Bool} (R : Rep w h a (each w h f)) (R' : Rep w h b (each w h g)) : (apartL w h a b).sum = many (three 0x3C (each w h f) (each w h g) []) := by
  rw [three_apart, show many (each w h fun c r => f c r != g c r) = ((List.range h).map fun r => many ((List.range w).map fun c => f c r != g c r)).sum from many_flat _ h]
  unfold apartL
  congr 1
  refine List.map_congr_left fun r hr => ?_
  rw [List.mem_range] at hr
  rw [spr_range, sum_bits]
  congr 1
  refine List.map_congr_left fun c hc => ?_
  rw [List.mem_range] at hc
  rw [Nat.testBit_xor, R.2, R'.2, dot_each, dot_each]
  simp [hr, hc]
/-! ### one word of three -/
theorem table_mod (t : Nat) (a b c : Bool) : byTable (t % 256) a b c = byTable t a b c := by
  unfold byTable
  rw [tb_div, tb_div, show (256 : Nat) = 2 ^ 8 from rfl, Nat.testBit_mod_two_pow]
  have : (if a = true then 4 else 0) + (if b = true then 2 else 0) + (if c = true then 1 else 0) < 8 := by cases a <;> cases b <;> cases c <;> decide
  rw [decide_eq_true this, Bool.true_and]
theorem table1_is {t a b c : Nat} (ha : a < 2 ^ 32) : ((List.range 32).map fun j => if byTable (t % 256) (a / 2 ^ j % 2 == 1) (b / 2 ^ j % 2 == 1) (c / 2 ^ j % 2 == 1) = true then 2 ^ j else 0).sum = threeRow t (2 ^ 32 - 1) a b c := by
  have e : ((List.range 32).map fun j => if byTable (t % 256) (a / 2 ^ j % 2 == 1) (b / 2 ^ j % 2 == 1) (c / 2 ^ j % 2 == 1) = true then 2 ^ j else 0) = (List.range 32).map fun j => if (threeRow t (2 ^ 32 - 1) a b c).testBit j = true then 2 ^ j else 0 := by
    refine List.map_congr_left fun j hj => ?_
    rw [List.mem_range] at hj
    rw [table_mod, tb_div, tb_div, tb_div, threeRow_bit hj]
  rw [e, bits_sum]
  exact Nat.mod_eq_of_lt (Nat.lt_pow_two_of_testBit _ fun i hi => threeRow_out hi (tb_small ha hi))
/-! ### the least box -/
theorem first_is {l : List Nat} {k : Nat} (hk : k < l.length) (h1 : l.getD k 0 ≠ 0) (h2 : ∀ j, j < k → l.getD j 0 = 0) : firstOf l = k := by
  unfold firstOf
  have e : l.findIdx? (fun n => n != 0) = some k := by
    rw [List.findIdx?_eq_some_iff_getElem]
    refine ⟨hk, ?_, fun j hj => ?_⟩
    · rw [List.getD_eq_getElem?_getD, List.getElem?_eq_getElem hk] at h1
      simpa using h1
    · have := h2 j hj
      rw [List.getD_eq_getElem?_getD, List.getElem?_eq_getElem (by omega)] at this
      simpa using this
  rw [e]
  rfl
theorem last_is {l : List Nat} {k : Nat} (hk : k < l.length) (h1 : l.getD k 0 ≠ 0) (h2 : ∀ j, k < j → l.getD j 0 = 0) : lastOf l = k := by
  unfold lastOf
  have rv : ∀ j, j < l.length → l.reverse.getD j 0 = l.getD (l.length - 1 - j) 0 := fun j hj => by
    rw [List.getD_eq_getElem?_getD, List.getElem?_reverse hj, ← List.getD_eq_getElem?_getD]
  have e : firstOf l.reverse = l.length - 1 - k := by
    refine first_is (by rw [List.length_reverse]; omega) ?_ fun j hj => ?_
    · rw [rv _ (by omega), show l.length - 1 - (l.length - 1 - k) = k by omega]
      exact h1
    · rw [rv _ (by omega)]
      exact h2 _ (by omega)
  rw [e]
  omega
/-- the places of a range that are told -/
def pick (n : Nat) (f : Nat → Bool) : List Nat := (List.range n).filter f
theorem pick_succ (n : Nat) (f : Nat → Bool) : pick (n + 1) f = pick n f ++ if f n = true then [n] else [] := by
  unfold pick
  rw [List.range_succ, List.filter_append, List.filter_cons]
  rfl
theorem pick_len (n : Nat) (f : Nat → Bool) : (pick n f).length ≤ n := by
  have := List.length_filter_le f (List.range n)
  rw [List.length_range] at this
  exact this
theorem mem_pick {n : Nat} {f : Nat → Bool} {k : Nat} : k ∈ pick n f ↔ k < n ∧ f k = true := by
  unfold pick
  rw [List.mem_filter, List.mem_range]
theorem pick_up (n : Nat) (f : Nat → Bool) : (pick n f).Pairwise (· < ·) := List.Pairwise.filter _ List.pairwise_lt_range
theorem pick_first {n : Nat} {f : Nat → Bool} (h : pick n f ≠ []) : (pick n f).getD 0 0 < n ∧ f ((pick n f).getD 0 0) = true ∧ ∀ j, j < (pick n f).getD 0 0 → f j = false := by
  cases e : pick n f with
  | nil => exact absurd e h
  | cons a l =>
    have hm : a ∈ pick n f := by rw [e]; exact List.mem_cons_self
    obtain ⟨h1, h2⟩ := mem_pick.mp hm
    refine ⟨h1, h2, fun j hj => ?_⟩
    have hj : j < a := hj
    cases hf : f j with
    | false => rfl
    | true =>
      have hjm : j ∈ pick n f := mem_pick.mpr ⟨by omega, hf⟩
      have up := pick_up n f
      rw [e] at hjm up
      rw [List.pairwise_cons] at up
      rcases List.mem_cons.mp hjm with rfl | q
      · omega
      · have := up.1 j q
        omega
theorem pick_last {n : Nat} {f : Nat → Bool} (h : pick n f ≠ []) : (pick n f).getD ((pick n f).length - 1) 0 < n ∧ f ((pick n f).getD ((pick n f).length - 1) 0) = true ∧ ∀ j, (pick n f).getD ((pick n f).length - 1) 0 < j → j < n → f j = false := by
  have hl : 0 < (pick n f).length := List.length_pos_iff.mpr h
  have hx : (pick n f).length - 1 < (pick n f).length := by omega
  have e : (pick n f).getD ((pick n f).length - 1) 0 = (pick n f)[(pick n f).length - 1] := by
    rw [List.getD_eq_getElem?_getD, List.getElem?_eq_getElem hx]
    rfl
  rw [e]
  obtain ⟨h1, h2⟩ := mem_pick.mp (List.getElem_mem hx)
  refine ⟨h1, h2, fun j hj hn => ?_⟩
  cases hf : f j with
  | false => rfl
  | true =>
    obtain ⟨i, hi, ei⟩ := List.getElem_of_mem (mem_pick.mpr ⟨hn, hf⟩)
    have up := List.pairwise_iff_getElem.mp (pick_up n f)
    by_cases hlt : i < (pick n f).length - 1
    · have := up i _ hi hx hlt
      omega
    · have : i = (pick n f).length - 1 := by omega
      subst this
      omega
theorem pick_le {n : Nat} {f : Nat → Bool} (h : pick n f ≠ []) : (pick n f).getD 0 0 ≤ (pick n f).getD ((pick n f).length - 1) 0 := by
  obtain ⟨h1, h2, h3⟩ := pick_first h
  obtain ⟨l1, l2, l3⟩ := pick_last h
  apply Nat.le_of_not_lt
  intro hlt
  rw [h3 _ hlt] at l2
  cases l2
theorem first_pick {l : List Nat} {n : Nat} {f : Nat → Bool} (hl : l.length = n) (hf : ∀ j, j < n → (f j = true ↔ l.getD j 0 ≠ 0)) (h : pick n f ≠ []) : firstOf l = (pick n f).getD 0 0 := by
  obtain ⟨h1, h2, h3⟩ := pick_first h
  refine first_is (by omega) ((hf _ h1).mp h2) fun j hj => ?_
  apply Classical.byContradiction
  intro q
  have := (hf j (by omega)).mpr q
  rw [h3 j hj] at this
  cases this
theorem last_pick {l : List Nat} {n : Nat} {f : Nat → Bool} (hl : l.length = n) (hf : ∀ j, j < n → (f j = true ↔ l.getD j 0 ≠ 0)) (h : pick n f ≠ []) : lastOf l = (pick n f).getD ((pick n f).length - 1) 0 := by
  obtain ⟨h1, h2, h3⟩ := pick_last h
  refine last_is (by omega) ((hf _ h1).mp h2) fun j hj => ?_
  apply Classical.byContradiction
  intro q
  by_cases hn : j < n
  · have := (hf j hn).mpr q
    rw [h3 j hj hn] at this
    cases this
  · rw [List.getD_eq_getElem?_getD, List.getElem?_eq_none (by omega)] at q
    exact q rfl
theorem many_ne {n : Nat} {f : Nat → Bool} : many ((List.range n).map f) ≠ 0 ↔ ∃ k, k < n ∧ f k = true := by
  unfold many
  rw [← Nat.pos_iff_ne_zero, List.length_pos_iff]
  constructor
  · intro h
    obtain ⟨b, hb⟩ := List.exists_mem_of_ne_nil _ h
    rw [List.mem_filter, List.mem_map] at hb
    obtain ⟨⟨k, hk, rfl⟩, h2⟩ := hb
    exact ⟨k, List.mem_range.mp hk, h2⟩
  · rintro ⟨k, hk, h⟩ e
    have : true ∈ ((List.range n).map f).filter fun b => b := by
      rw [List.mem_filter, List.mem_map]
      exact ⟨⟨k, List.mem_range.mpr hk, h⟩, rfl⟩
    rw [e] at this
    cases this
def rowsOf (h : Nat) (rows : List Nat) : List Nat := pick h fun r => decide (rows.getD r 0 ≠ 0)
def colsOf (w : Nat) (rows : List Nat) : List Nat := pick w fun c => (joined rows).testBit c
theorem rowCounts_ne {w h : Nat} {rows : List Nat} {p : Page} (R : Rep w h rows p) {r : Nat} (hr : r < h) : decide (rows.getD r 0 ≠ 0) = true ↔ (rowCounts w h p).getD r 0 ≠ 0 := by
  unfold rowCounts
  rw [getD_map _ _ _ hr, many_ne, decide_eq_true_eq]
  constructor
  · intro h0
    obtain ⟨c, hc⟩ := Nat.exists_testBit_of_ne_zero h0
    refine ⟨c, ?_, by rw [← R.2]; exact hc⟩
    apply Classical.byContradiction
    intro q
    rw [R.out (by omega)] at hc
    cases hc
  · rintro ⟨c, hc, hd⟩ h0
    rw [← R.2, h0, Nat.zero_testBit] at hd
    cases hd
theorem colCounts_ne {w h : Nat} {rows : List Nat} {p : Page} (R : Rep w h rows p) {c : Nat} (hc : c < w) : (joined rows).testBit c = true ↔ (columnCounts w h p).getD c 0 ≠ 0 := by
  unfold columnCounts
  rw [getD_map _ _ _ hc, many_ne, joined_bit, R.1]
  constructor
  · rintro ⟨k, hk, hb⟩
    exact ⟨k, hk, by rw [← R.2]; exact hb⟩
  · rintro ⟨k, hk, hb⟩
    exact ⟨k, hk, by rw [R.2]; exact hb⟩
theorem sum_ne {l : List Nat} : l.sum ≠ 0 ↔ ∃ k, k < l.length ∧ l.getD k 0 ≠ 0 := by
  induction l with
  | nil => simp
  | cons a l ih =>
    rw [List.sum_cons]
    constructor
    · intro h
      by_cases ha : a = 0
      · obtain ⟨k, hk, h2⟩ := ih.mp (by omega)
        exact ⟨k + 1, by simpa using hk, h2⟩
      · exact ⟨0, by simp, ha⟩
    · rintro ⟨k, hk, h2⟩
      cases k with
      | zero => have : a ≠ 0 := h2; omega
      | succ k =>
        have : l.sum ≠ 0 := ih.mpr ⟨k, by simpa using hk, h2⟩
        omega
theorem rows_none {w h : Nat} {rows : List Nat} {f : Nat → Nat → Bool} (R : Rep w h rows (each w h f)) : rowsOf h rows = [] ↔ many (each w h f) = 0 := by
  rw [← rowSums_all]
  have hl : (rowCounts w h (each w h f)).length = h := by simp [rowCounts]
  constructor
  · intro e
    apply Classical.byContradiction
    intro q
    obtain ⟨k, hk, h2⟩ := sum_ne.mp q
    rw [hl] at hk
    have : k ∈ rowsOf h rows := mem_pick.mpr ⟨hk, (rowCounts_ne R hk).mpr h2⟩
    rw [e] at this
    cases this
  · intro e
    apply Classical.byContradiction
    intro q
    obtain ⟨k, hk⟩ := List.exists_mem_of_ne_nil _ q
    obtain ⟨h1, h2⟩ := mem_pick.mp hk
    exact sum_ne.mpr ⟨k, by omega, (rowCounts_ne R h1).mp h2⟩ e
theorem cols_some {w h : Nat} {rows : List Nat} {p : Page} (R : Rep w h rows p) (hr : rowsOf h rows ≠ []) : colsOf w rows ≠ [] := by
  obtain ⟨k, hk⟩ := List.exists_mem_of_ne_nil _ hr
  obtain ⟨h1, h2⟩ := mem_pick.mp hk
  have h2 : decide (rows.getD k 0 ≠ 0) = true := h2
  rw [decide_eq_true_eq] at h2
  obtain ⟨c, hc⟩ := Nat.exists_testBit_of_ne_zero h2
  have hcw : c < w := by
    apply Classical.byContradiction
    intro q
    rw [R.out (by omega)] at hc
    cases hc
  have : c ∈ colsOf w rows := mem_pick.mpr ⟨hcw, (joined_bit rows c).mpr ⟨k, by rw [R.1]; exact h1, hc⟩⟩
  intro e
  rw [e] at this
  cases this
/-- what the program tells -/
def boxL (w h : Nat) (rows : List Nat) : List Nat := [(colsOf w rows).getD 0 0, (rowsOf h rows).getD 0 0, (colsOf w rows).getD ((colsOf w rows).length - 1) 0 - (colsOf w rows).getD 0 0 + 1, (rowsOf h rows).getD ((rowsOf h rows).length - 1) 0 - (rowsOf h rows).getD 0 0 + 1]
theorem box_none {w h : Nat} {rows : List Nat} {f : Nat → Nat → Bool} (R : Rep w h rows (each w h f)) (e : rowsOf h rows = []) : box w h (each w h f) = none := by
  unfold box
  rw [if_pos ((rows_none R).mp e)]
theorem box_some {w h : Nat} {rows : List Nat} {f : Nat → Nat → Bool} (R : Rep w h rows (each w h f)) (e : rowsOf h rows ≠ []) : box w h (each w h f) = some (boxL w h rows) := by
  unfold box
  rw [if_neg fun q => e ((rows_none R).mpr q)]
  have ec := cols_some R e
  have lc : (columnCounts w h (each w h f)).length = w := by simp [columnCounts]
  have lr : (rowCounts w h (each w h f)).length = h := by simp [rowCounts]
  have c1 := first_pick lc (fun j hj => colCounts_ne R hj) ec
  have c2 := last_pick lc (fun j hj => colCounts_ne R hj) ec
  have r1 := first_pick lr (fun j hj => rowCounts_ne R hj) e
  have r2 := last_pick lr (fun j hj => rowCounts_ne R hj) e
  have lec := pick_le ec
  have ler := pick_le e
  show some [_, _, _, _] = some [_, _, _, _]
  rw [c1, c2, r1, r2]
  congr 1
  congr 1
  congr 1
  congr 1
  · show _ = (pick w _).getD _ 0 - (pick w _).getD 0 0 + 1
    have lec : (pick w fun c => (joined rows).testBit c).getD 0 0 ≤ (pick w fun c => (joined rows).testBit c).getD ((pick w fun c => (joined rows).testBit c).length - 1) 0 := lec
    show (pick w fun c => (joined rows).testBit c).getD ((pick w fun c => (joined rows).testBit c).length - 1) 0 + 1 - (pick w fun c => (joined rows).testBit c).getD 0 0 = (pick w fun c => (joined rows).testBit c).getD ((pick w fun c => (joined rows).testBit c).length - 1) 0 - (pick w fun c => (joined rows).testBit c).getD 0 0 + 1
    omega
  · congr 1
    have ler : (pick h fun r => decide (rows.getD r 0 ≠ 0)).getD 0 0 ≤ (pick h fun r => decide (rows.getD r 0 ≠ 0)).getD ((pick h fun r => decide (rows.getD r 0 ≠ 0)).length - 1) 0 := ler
    show (pick h fun r => decide (rows.getD r 0 ≠ 0)).getD ((pick h fun r => decide (rows.getD r 0 ≠ 0)).length - 1) 0 + 1 - (pick h fun r => decide (rows.getD r 0 ≠ 0)).getD 0 0 = (pick h fun r => decide (rows.getD r 0 ≠ 0)).getD ((pick h fun r => decide (rows.getD r 0 ≠ 0)).length - 1) 0 - (pick h fun r => decide (rows.getD r 0 ≠ 0)).getD 0 0 + 1
    omega
end Dot

namespace DotH
open PySem PySem.Spec PyProof.Rows L2
/-! ### bit operations on naturals -/
section
variable {X : Cx}
theorem dn_or : OpR X (binaryOp .BitOr) (fun x y H Q => ∃ a b : Nat, x = .int (a : Int) ∧ y = .int (b : Int) ∧ Q (.int ((a ||| b : Nat) : Int)) H) := by
  intro pins s σ H x y v u Q I rx ry h
  obtain ⟨a, b, rfl, rfl, q⟩ := h
  refine op_or pins s σ H _ _ v u Q I rx ry ⟨_, _, rfl, rfl, ?_⟩
  show Q (.int (Builtin.bitOr (a : Int) (b : Int))) H
  rw [bitOr_nn (Int.natCast_nonneg _) (Int.natCast_nonneg _), Int.toNat_natCast, Int.toNat_natCast]
  exact q
theorem dn_and : OpR X (binaryOp .BitAnd) (fun x y H Q => ∃ a b : Nat, x = .int (a : Int) ∧ y = .int (b : Int) ∧ Q (.int ((a &&& b : Nat) : Int)) H) := by
  intro pins s σ H x y v u Q I rx ry h
  obtain ⟨a, b, rfl, rfl, q⟩ := h
  refine op_and pins s σ H _ _ v u Q I rx ry ⟨_, _, rfl, rfl, ?_⟩
  show Q (.int (Builtin.bitAnd (a : Int) (b : Int))) H
  rw [bitAnd_pp (Int.natCast_nonneg _) (Int.natCast_nonneg _), Int.toNat_natCast, Int.toNat_natCast]
  exact q
theorem dn_xor : OpR X (binaryOp .BitXor) (fun x y H Q => ∃ a b : Nat, x = .int (a : Int) ∧ y = .int (b : Int) ∧ Q (.int ((a ^^^ b : Nat) : Int)) H) := by
  intro pins s σ H x y v u Q I rx ry h
  obtain ⟨a, b, rfl, rfl, q⟩ := h
  refine op_xor pins s σ H _ _ v u Q I rx ry ⟨_, _, rfl, rfl, ?_⟩
  show Q (.int (Builtin.bitXor (a : Int) (b : Int))) H
  rw [Bits.bitXor_pp (Int.natCast_nonneg _) (Int.natCast_nonneg _), Int.toNat_natCast, Int.toNat_natCast]
  exact q
theorem dn_shl : OpR X (binaryOp .LShift) (fun x y H Q => ∃ a k : Nat, x = .int (a : Int) ∧ y = .int (k : Int) ∧ (a < 2 ^ 1024 ∧ k ≤ 1024) ∧ Q (.int ((a * 2 ^ k : Nat) : Int)) H) := by
  intro pins s σ H x y v u Q I rx ry h
  obtain ⟨a, k, rfl, rfl, ⟨c1, c2⟩, q⟩ := h
  refine op_shlN pins s σ H _ _ v u Q I rx ry ⟨_, k, rfl, rfl, shl_ok (n := 1024) (by rw [Int.natAbs_natCast]; exact c1) (by omega), ?_⟩
  rw [Int.natCast_mul, PySem.W.kbt_cast] at q
  exact q
theorem dn_shr : OpR X (binaryOp .RShift) (fun x y H Q => ∃ a k : Nat, x = .int (a : Int) ∧ y = .int (k : Int) ∧ Q (.int ((a / 2 ^ k : Nat) : Int)) H) := by
  intro pins s σ H x y v u Q I rx ry h
  obtain ⟨a, k, rfl, rfl, q⟩ := h
  refine op_shrN pins s σ H _ _ v u Q I rx ry ⟨_, k, rfl, rfl, ?_⟩
  rw [Int.natCast_ediv, PySem.W.kbt_cast] at q
  exact q
end
/-! ### lists of naturals as values; heaps -/
abbrev vl (ns : List Nat) : List V := ns.map fun (n : Nat) => V.int (n : Int)
theorem vl_at {ns : List Nat} {i : Nat} {y : V} (h : (vl ns)[i]? = some y) : ∃ n, ns[i]? = some n ∧ y = V.int (n : Int) := by
  rw [List.getElem?_map] at h
  cases e : ns[i]? with
  | none =>
    rw [e] at h
    cases h
  | some z =>
    rw [e] at h
    exact ⟨z, rfl, (Option.some.inj h).symm⟩
theorem at_vl {ns : List Nat} {i n : Nat} (h : ns[i]? = some n) : (vl ns)[i]? = some (V.int (n : Int)) := by
  rw [List.getElem?_map, h]
  rfl
theorem getD_of {ns : List Nat} {i n : Nat} (h : ns[i]? = some n) : ns.getD i 0 = n := by
  rw [List.getD_eq_getElem?_getD, h]
  rfl
theorem same_upd {H : Hp} {p : Addr} {o : HO} (h : H p = none) : Same H (upd H p o) := fun b x e => by
  rw [upd_ne (ne_of_none e h)]
  exact e
theorem same_put {H H4 : Hp} {p : Addr} {o : HO} (s : Same H H4) (h : H p = none) : Same H (upd H4 p o) := fun b x e => by
  rw [upd_ne (ne_of_none e h)]
  exact s b x e
theorem take_more {α : Type} : ∀ {l : List α} {i : Nat} {x : α}, l[i]? = some x → l.take (i + 1) = l.take i ++ [x]
  | [], i, x, h => by simp at h
  | a :: l, 0, x, h => by
    have e : a = x := Option.some.inj h
    subst e
    rfl
  | a :: l, i + 1, x, h => by
    have ih := take_more (l := l) (i := i) (x := x) h
    show a :: l.take (i + 1) = a :: l.take i ++ [x]
    rw [ih]
    rfl
theorem take_map {α : Type} {h : Nat} {g : Nat → α} {i : Nat} (hi : i < h) : ((List.range h).map g).take (i + 1) = ((List.range h).map g).take i ++ [g i] :=
  take_more (by rw [List.getElem?_map, List.getElem?_range hi]; rfl)
theorem take_all {α : Type} {l : List α} {n : Nat} (h : l.length = n) : l.take n = l := List.take_of_length_le (by omega)
theorem vl_app (a : List Nat) (n : Nat) : vl (a ++ [n]) = vl a ++ [V.int (n : Int)] := by
  show List.map _ (a ++ [n]) = _
  rw [List.map_append]
  rfl
theorem cut_nat (xs : List Nat) {a b : Nat} : cutV (vl xs) (some (a : Int)) (some (b : Int)) = vl ((xs.drop a).take (b - a)) := by
  unfold cutV
  rw [HT.sIx_nat, HT.sIx_nat, List.length_map, ← List.map_drop, ← List.map_take]
  congr 1
  apply List.ext_getElem?
  intro i
  rw [List.getElem?_take, List.getElem?_take, List.getElem?_drop, List.getElem?_drop]
  by_cases h : i < b - a
  · rw [if_pos h]
    by_cases h2 : i < min b xs.length - min a xs.length
    · rw [if_pos h2, show min a xs.length = a by omega]
    · rw [if_neg h2, List.getElem?_eq_none (by omega)]
  · rw [if_neg h, if_neg (by omega)]
/-- for k, x in enumerate(list), the list left as it is -/
theorem for_enum {K : PySem.W.Frag} {a : Addr} {xs : List V} {g : TG} {tb : TS} {D : Ends} {σ : L2.St} {H : Hp} (Pv : Nat → L2.St → Hp → Prop) (h0 : Pv 0 σ H) (hl : ∀ i σ H, i ≤ xs.length → Pv i σ H → SqL K H a xs)
    (hs : ∀ i x T σ H, xs[i]? = some x → H T = none → Pv i σ H → g (.ref T) σ (upd H T (.tup [.int ((i : Nat) : Int), x])) fun σ2 H2 => tb { D with nx := Pv (i + 1), ct := Pv (i + 1), bk := D.nx } σ2 H2) (hd : ∀ σ H, Pv xs.length σ H → D.nx σ H) :
    ∃ W : Nat → Nat → L2.St → Hp → Prop, (∃ m, W 0 m σ H) ∧ ∀ i m σ H, W i m σ H →
      ((Ite K a).stop i H ∧ D.nx σ H) ∨ ((Ite K a).go i H ∧ ∃ N : L2.St → Hp → Prop, (∀ σ' H', N σ' H' → ∃ m', m' < m ∧ W (i + 1) m' σ' H') ∧ ∀ x H', (Ite K a).yld i H x H' → g x σ H' fun σ2 H2 => tb { D with nx := N, ct := N, bk := D.nx } σ2 H2) := by
  refine ⟨fun i m σ H => m = xs.length - i ∧ i ≤ xs.length ∧ Pv i σ H, ⟨xs.length, by simp, Nat.zero_le _, h0⟩, ?_⟩
  rintro i m σ H ⟨rfl, hi, p⟩
  have q := hl i σ H hi p
  by_cases hlt : i < xs.length
  · refine .inr ⟨⟨xs, xs[i], q, by simp [hlt]⟩, Pv (i + 1), fun σ' H' p' => ⟨xs.length - (i + 1), by omega, rfl, hlt, p'⟩, fun x H' y => ?_⟩
    obtain ⟨T, z, rfl, nT, rfl, y⟩ := y
    exact hs i z T σ _ (y xs q) nT p
  · have e : i = xs.length := by omega
    subst e
    exact .inl ⟨⟨xs, q, Nat.le_refl _⟩, hd σ H p⟩
/-! ### readings used often -/
theorem rd_chain {tb : TE} {a b c : Int} {σ : L2.St} {H : Hp} {Q : VK} (hb : ∀ Q' : VK, Q' (.int b) H → tb σ H Q') (h : Q (.bl (decide (a ≤ b) && decide (b ≤ c))) H) :
    tChain (rI0 fun i j => .bl (decide (i ≤ j))) (rI0 fun i j => .bl (decide (i ≤ j))) (tC (.int a)) tb (tC (.int c)) σ H Q := by
  refine hb _ ⟨a, b, rfl, rfl, _, rfl, ?_⟩
  by_cases e : a ≤ b
  · rw [decide_eq_true e, if_pos rfl]
    rw [decide_eq_true e, Bool.true_and] at h
    exact ⟨b, c, rfl, rfl, h⟩
  · rw [decide_eq_false e, if_neg Bool.false_ne_true]
    rw [decide_eq_false e, Bool.false_and] at h
    exact h
theorem rd_and {ta tb : TE} {σ : L2.St} {H : Hp} {Q : VK} {p q : Bool} (ha : ∀ Q' : VK, Q' (.bl p) H → ta σ H Q') (hb : ∀ Q' : VK, Q' (.bl q) H → tb σ H Q') (h : Q (.bl (p && q)) H) : tAndV ta tb σ H Q := by
  refine ha _ ⟨p, rfl, ?_⟩
  cases p with
  | true => rw [if_pos rfl]; exact hb _ h
  | false => rw [if_neg Bool.false_ne_true]; exact h
theorem iteB {c : Bool} {A B : Prop} (h1 : c = true → A) (h2 : c = false → B) : if c = true then A else B := by
  cases c with
  | true => rw [if_pos rfl]; exact h1 rfl
  | false => rw [if_neg Bool.false_ne_true]; exact h2 rfl
theorem small_lt {n : Nat} (h : n ≤ 1000000) : n < sizeLine := Nat.lt_of_le_of_lt h (by rw [sizeLine_eq]; decide)
/-! ### promises -/
def spSize (K : PySem.W.Frag) : Sp := fun vs H Q _ => ∃ w h : Nat, vs = [.int (w : Int), .int (h : Int)] ∧ Q (.bl (Sh56.sized w h)) H
def spWords (K : PySem.W.Frag) : Sp := fun vs H Q _ => ∃ w : Nat, vs = [.int (w : Int)] ∧ Q (.int ((Sh56.wide w : Nat) : Int)) H
def spBlack (K : PySem.W.Frag) : Sp := fun vs H Q _ => ∃ w : Nat, vs = [.int (w : Int)] ∧ w ≤ 1024 ∧ Q (.int ((2 ^ w - 1 : Nat) : Int)) H
def spRfw (K : PySem.W.Frag) : Sp := fun vs H Q _ => ∃ (a : Addr) (ws : List Nat), vs = [.ref a] ∧ SqL K H a (vl ws) ∧ (∀ x ∈ ws, x < 2 ^ 32) ∧ ws.length ≤ 16 ∧ ∀ H', Same H H' → Q (.int ((Dot.rfw ws : Nat) : Int)) H'
def spPfw (K : PySem.W.Frag) : Sp := fun vs H Q _ => ∃ (w h : Nat) (a : Addr) (x : List Nat), vs = [.int (w : Int), .int (h : Int), .ref a] ∧ (w ≤ 256 ∧ h ≤ 256) ∧ SqL K H a (vl x) ∧ (∀ y ∈ x, y < 2 ^ 32) ∧
  ∀ H' p, Same H H' → H p = none → H' p = some (.lst (vl (Dot.pfw w h x))) → Q (.ref p) H'
def spAns (K : PySem.W.Frag) : Sp := fun vs H Q _ => ∃ (w : Nat) (a : Addr) (rows : List Nat), vs = [.int (w : Int), .ref a] ∧ SqL K H a (vl rows) ∧ (w ≤ 512 ∧ rows.length ≤ 512) ∧
  ∀ H' p, Same H H' → H p = none → H' p = some (.lst (vl (0 :: Dot.outPage w rows))) → Q (.ref p) H'
def spRfb (K : PySem.W.Frag) : Sp := fun vs H Q _ => ∃ (a : Addr) (b : List Nat), vs = [.ref a] ∧ SqL K H a (vl b) ∧ b.length ≤ 1024 ∧ ∀ H', Same H H' → Q (.int ((Dot.rfb b : Nat) : Int)) H'
def spDoPack (K : PySem.W.Frag) : Sp := fun vs H Q _ => ∃ (w : Nat) (a : Addr) (b : List Nat), vs = [.int (w : Int), .ref a] ∧ SqL K H a (vl b) ∧ b.length ≤ 66049 ∧ PySh56.do_pack_asked w (b.map fun (n : Nat) => (n : Int)) = true ∧
  ∀ (H' : Hp) (p : Addr), H' p = some (.lst ((PySh56.do_pack w (b.map fun (n : Nat) => (n : Int))).map V.int)) → Q (.ref p) H'
end DotH

namespace DotH
open PySem PySem.Spec PyProof.Rows L2
theorem sized_int (w h : Nat) : ((decide ((1 : Int) ≤ (w : Int)) && decide ((w : Int) ≤ 256)) && (decide ((1 : Int) ≤ (h : Int)) && decide ((h : Int) ≤ 256))) = Sh56.sized w h := by
  unfold Sh56.sized Sh56.among
  congr 1 <;> congr 1 <;> rw [Bool.eq_iff_iff, decide_eq_true_eq, decide_eq_true_eq] <;> omega
theorem sized_iff {w h : Nat} : Sh56.sized w h = true ↔ (1 ≤ w ∧ w ≤ 256) ∧ (1 ≤ h ∧ h ≤ 256) := by
  unfold Sh56.sized Sh56.among
  simp
theorem black_cast (w : Nat) : ((2 ^ w - 1 : Nat) : Int) = 2 ^ w - 1 := by
  have := Nat.one_le_two_pow (n := w)
  rw [Int.natCast_sub this, PySem.W.kbt_cast]
  rfl
theorem out_app (w : Nat) {rows : List Nat} {i n : Nat} (h : rows[i]? = some n) : Dot.outPage w (rows.take (i + 1)) = Dot.outPage w (rows.take i) ++ Dot.outRow w n := by
  unfold Dot.outPage
  rw [take_more h, List.flatMap_append, List.flatMap_cons, List.flatMap_nil, List.append_nil]
theorem outRow_len (w n : Nat) : (Dot.outRow w n).length = Sh56.wide w := by simp [Dot.outRow]
theorem outPage_len (w : Nat) : ∀ rows : List Nat, (Dot.outPage w rows).length = rows.length * Sh56.wide w
  | [] => by simp [Dot.outPage]
  | a :: l => by
    have ih := outPage_len w l
    unfold Dot.outPage at ih ⊢
    rw [List.flatMap_cons, List.length_append, ih, outRow_len, List.length_cons, Nat.succ_mul]
    omega
theorem out_small {w n i k : Nat} {rows : List Nat} (hw : w ≤ 512) (hl : rows.length ≤ 512) : (vl ((0 :: Dot.outPage w (rows.take i)) ++ (Dot.outRow w n).take k)).length < sizeLine := by
  refine small_lt ?_
  rw [List.length_map, List.length_append, List.length_cons, outPage_len, List.length_take, List.length_take, outRow_len]
  have h1 : Sh56.wide w ≤ 16 := by unfold Sh56.wide; omega
  have h2 : min i rows.length * Sh56.wide w ≤ 512 * 16 := Nat.mul_le_mul (by omega) h1
  omega
theorem nats_cast (b : List Nat) : Sh56Neutral.nats (b.map fun (n : Nat) => (n : Int)) = b := by
  unfold Sh56Neutral.nats
  rw [List.map_map]
  conv => rhs; rw [← List.map_id b]
  apply List.map_congr_left
  intro x _
  rfl
theorem map_int (l : List Nat) : (l.map fun (n : Nat) => (n : Int)).map V.int = vl l := by
  rw [List.map_map]
  rfl
theorem told_one (l : List Nat) : (Sh56Neutral.told (Sh56.done [l])).map V.int = vl (0 :: l) := by
  show V.int 0 :: (Sh56Neutral.ints l).map V.int = vl (0 :: l)
  unfold Sh56Neutral.ints
  rw [map_int]
  rfl
/-! ### the request -/
theorem dw_int {K : PySem.W.Frag} {H : Hp} {v : V} {z : Int} (h : Dw K H v (.int z)) : v = .int z := by
  cases h
  rfl
theorem dw_lst {K : PySem.W.Frag} {H : Hp} {v : V} {ns : List Int} (h : Dw K H v (.list (ns.map PySem.W.WData.int))) : ∃ a, v = .ref a ∧ SqL K H a (ns.map V.int) := by
  cases h with
  | lst hs ha =>
    have e := L2.ints_dw ns _ ha
    subst e
    exact ⟨_, rfl, hs⟩
theorem dw_cons {K : PySem.W.Frag} {H : Hp} {vs : List V} {d : PySem.W.WData} {ds : List PySem.W.WData} (h : DwAll K H vs (d :: ds)) : ∃ v r, vs = v :: r ∧ Dw K H v d ∧ DwAll K H r ds := by
  cases h with
  | cons h1 h2 => exact ⟨_, _, rfl, h1, h2⟩
theorem dw_nil {K : PySem.W.Frag} {H : Hp} {vs : List V} (h : DwAll K H vs []) : vs = [] := by
  cases h
  rfl
theorem nat_list {m : Int} : ∀ {l : List Int}, l.all (PySem.W.Codec.inInt 0 m) = true → ∃ b : List Nat, l = (b.map fun (n : Nat) => (n : Int)) ∧ ∀ y ∈ b, (y : Int) ≤ m
  | [], _ => ⟨[], rfl, fun _ h => absurd h List.not_mem_nil⟩
  | z :: l, h => by
    rw [List.all_cons, Bool.and_eq_true] at h
    obtain ⟨b, rfl, hb⟩ := nat_list h.2
    obtain ⟨h1, h2⟩ := PySem.W.Codec.inInt_iff.mp h.1
    obtain ⟨n, rfl⟩ := Int.eq_ofNat_of_zero_le h1
    refine ⟨n :: b, rfl, fun y hy => ?_⟩
    rcases List.mem_cons.mp hy with rfl | hy
    · exact h2
    · exact hb y hy
theorem pack_bad {w : Nat} {b : List Nat} (h : Sh56.sized w (b.length / w) = false) : (PySh56.do_pack w (b.map fun (n : Nat) => (n : Int))).map V.int = [V.int (-2)] := by
  have e : PySh56.do_pack w (b.map fun (n : Nat) => (n : Int)) = Sh56Neutral.told (Sh56.answer (if Sh56.sized w ((Sh56Neutral.nats (b.map fun (n : Nat) => (n : Int))).length / w) = true then .pack w (Sh56Neutral.nats (b.map fun (n : Nat) => (n : Int))) else .bad)) := rfl
  rw [e, nats_cast, h]
  rfl
theorem asked_pack (s0 : Int) (l0 : List Int) : Sh56Neutral.asked1 [[0, s0], l0] = (Sh56Neutral.natural s0 32 && (l0.all (fun (z : Int) => Sh56Neutral.natural z 8) && ((if (Sh56.sized ((s0.toNat)) (((Sh56Neutral.nats l0).length / s0.toNat))) = true then l0.length == ((s0.toNat) * (((Sh56Neutral.nats l0).length / s0.toNat))) else (l0.isEmpty) || (l0.length == ((s0.toNat) * (((Sh56Neutral.nats l0).length / s0.toNat)))))))) := rfl
theorem pack_ok {w : Nat} {b : List Nat} (h : Sh56.sized w (b.length / w) = true) (ha : PySh56.do_pack_asked w (b.map fun (n : Nat) => (n : Int)) = true) :
    (PySh56.do_pack w (b.map fun (n : Nat) => (n : Int))).map V.int = vl (0 :: Dot.outPage w (Dot.pfb w (b.length / w) b)) := by
  have e : PySh56.do_pack w (b.map fun (n : Nat) => (n : Int)) = Sh56Neutral.told (Sh56.answer (if Sh56.sized w ((Sh56Neutral.nats (b.map fun (n : Nat) => (n : Int))).length / w) = true then .pack w (Sh56Neutral.nats (b.map fun (n : Nat) => (n : Int))) else .bad)) := rfl
  have ha : Sh56Neutral.asked [[0, (w : Int)], b.map fun (n : Nat) => (n : Int)] = true := ha
  unfold Sh56Neutral.asked at ha
  rw [Bool.and_eq_true] at ha
  have h1 := ha.1
  rw [asked_pack, nats_cast, Int.toNat_natCast, h, if_pos rfl, Bool.and_eq_true, Bool.and_eq_true, List.length_map] at h1
  have hl : b.length = w * (b.length / w) := eq_of_beq h1.2.2
  rw [e, nats_cast, h, if_pos rfl]
  show (Sh56Neutral.told (Sh56.done [Sh56.words w (b.length / w) (b.map fun a => a != 0)])).map V.int = _
  rw [told_one, ← Dot.out_words (Dot.pfb_rep (by rw [Nat.mul_comm]; exact hl))]
end DotH

namespace DotH
open PySem PySem.Spec PyProof.Rows L2
abbrev il (x : List Nat) : List Int := x.map fun (n : Nat) => (n : Int)
/-! ### spread -/
def spDoSpread (K : PySem.W.Frag) : Sp := fun vs H Q _ => ∃ (w h : Nat) (a : Addr) (x : List Nat), vs = [.int (w : Int), .int (h : Int), .ref a] ∧ SqL K H a (vl x) ∧ (∀ y ∈ x, y < 2 ^ 32) ∧
  ∀ (H' : Hp) (p : Addr), H' p = some (.lst ((PySh56.do_spread w h (il x)).map V.int)) → Q (.ref p) H'
theorem spr_app (w : Nat) {rows : List Nat} {i n : Nat} (h : rows[i]? = some n) : Dot.sprPage w (rows.take (i + 1)) = Dot.sprPage w (rows.take i) ++ Dot.sprRow w n := by
  unfold Dot.sprPage
  rw [take_more h, List.flatMap_append, List.flatMap_cons, List.flatMap_nil, List.append_nil]
theorem sprRow_len (w n : Nat) : (Dot.sprRow w n).length = w := by simp [Dot.sprRow]
theorem sprPage_len (w : Nat) : ∀ rows : List Nat, (Dot.sprPage w rows).length = rows.length * w
  | [] => by simp [Dot.sprPage]
  | a :: l => by
    have ih := sprPage_len w l
    unfold Dot.sprPage at ih ⊢
    rw [List.flatMap_cons, List.length_append, ih, sprRow_len, List.length_cons, Nat.succ_mul]
    omega
theorem spr_small {w n i k : Nat} {rows : List Nat} (hw : w ≤ 256) (hl : rows.length ≤ 256) : (vl ((0 :: Dot.sprPage w (rows.take i)) ++ (Dot.sprRow w n).take k)).length < sizeLine := by
  refine small_lt ?_
  rw [List.length_map, List.length_append, List.length_cons, sprPage_len, List.length_take, List.length_take, sprRow_len]
  have h2 : min i rows.length * w ≤ 256 * 256 := Nat.mul_le_mul (by omega) hw
  omega
theorem spread_is (w h : Nat) (x : List Nat) : PySh56.do_spread w h (il x) = Sh56Neutral.told (Sh56.answer (if Sh56.sized w h = true then .spread w h (Sh56Neutral.nats (il x)) else .bad)) := rfl
theorem spread_bad {w h : Nat} {x : List Nat} (hz : Sh56.sized w h = false) : (PySh56.do_spread w h (il x)).map V.int = [V.int (-2)] := by
  rw [spread_is, hz]
  rfl
theorem spread_ok {w h : Nat} {x : List Nat} (hz : Sh56.sized w h = true) (hx : ∀ y ∈ x, y < 2 ^ 32) : (PySh56.do_spread w h (il x)).map V.int = vl (0 :: Dot.sprPage w (Dot.pfw w h x)) := by
  rw [spread_is, nats_cast, hz, if_pos rfl]
  show (Sh56Neutral.told (Sh56.done [(Sh56.page w h x).map fun b => if b = true then 1 else 0])).map V.int = _
  have R := Dot.pfw_rep (w := w) (h := h) hx
  rw [Dot.page_each] at R
  rw [told_one, Dot.page_each, ← Dot.spr_page R]
/-! ### three -/
theorem rd_andT {t u : TT} {σ : L2.St} {H : Hp} {Q : Bool → Hp → Prop} {p q : Bool} (ht : ∀ Q' : Bool → Hp → Prop, Q' p H → t σ H Q') (hu : ∀ Q' : Bool → Hp → Prop, Q' q H → u σ H Q') (h : Q (p && q) H) : tAnd t u σ H Q := by
  refine ht _ ?_
  cases p with
  | true => rw [if_pos rfl]; exact hu _ h
  | false => rw [if_neg Bool.false_ne_true]; exact h
theorem getD_at {ns : List Nat} {i : Nat} (h : i < ns.length) : ns[i]? = some (ns.getD i 0) := by
  rw [List.getD_eq_getElem?_getD, List.getElem?_eq_getElem h]
  rfl
theorem le_255 (t : Nat) : (decide ((0 : Int) ≤ (t : Int)) && decide ((t : Int) ≤ 255)) = decide (t ≤ 255) := by
  rw [decide_eq_true (Int.natCast_nonneg t), Bool.true_and, Bool.eq_iff_iff, decide_eq_true_eq, decide_eq_true_eq]
  omega
def spWhere (K : PySem.W.Frag) : Sp := fun vs H Q _ => ∃ row bit black : Nat, vs = [.int (row : Int), .int (bit : Int), .int (black : Int)] ∧ Q (.int ((Dot.whereEq black row bit : Nat) : Int)) H
def spThreeRows (K : PySem.W.Frag) : Sp := fun vs H Q _ => ∃ t black a b c : Nat, vs = [.int (t : Int), .int (black : Int), .int (a : Int), .int (b : Int), .int (c : Int)] ∧ Q (.int ((Dot.threeRow t black a b c : Nat) : Int)) H
def spDoThree (K : PySem.W.Frag) : Sp := fun vs H Q _ => ∃ (t w h : Nat) (a1 a2 a3 : Addr) (x y z : List Nat), vs = [.int (t : Int), .int (w : Int), .int (h : Int), .ref a1, .ref a2, .ref a3] ∧ (SqL K H a1 (vl x) ∧ SqL K H a2 (vl y) ∧ SqL K H a3 (vl z)) ∧
  ((∀ n ∈ x, n < 2 ^ 32) ∧ (∀ n ∈ y, n < 2 ^ 32) ∧ (∀ n ∈ z, n < 2 ^ 32)) ∧
  ∀ (H' : Hp) (p : Addr), H' p = some (.lst ((PySh56.do_three t w h (il x) (il y) (il z)).map V.int)) → Q (.ref p) H'
theorem three_is (t w h : Nat) (x y z : List Nat) : PySh56.do_three t w h (il x) (il y) (il z) = Sh56Neutral.told (Sh56.answer (if (decide (t ≤ 255) && Sh56.sized w h) = true then .three t w h (Sh56Neutral.nats (il x)) (Sh56Neutral.nats (il y)) (Sh56Neutral.nats (il z)) else .bad)) := rfl
theorem three_bad {t w h : Nat} {x y z : List Nat} (hz : (decide (t ≤ 255) && Sh56.sized w h) = false) : (PySh56.do_three t w h (il x) (il y) (il z)).map V.int = [V.int (-2)] := by
  rw [three_is, hz]
  rfl
theorem three_ok {t w h : Nat} {x y z : List Nat} (hz : (decide (t ≤ 255) && Sh56.sized w h) = true) (hx : ∀ n ∈ x, n < 2 ^ 32) (hy : ∀ n ∈ y, n < 2 ^ 32) (hz3 : ∀ n ∈ z, n < 2 ^ 32) :
    (PySh56.do_three t w h (il x) (il y) (il z)).map V.int = vl (0 :: Dot.outPage w (Dot.threePage t w h (Dot.pfw w h x) (Dot.pfw w h y) (Dot.pfw w h z))) := by
  rw [three_is, nats_cast, nats_cast, nats_cast, hz, if_pos rfl]
  show (Sh56Neutral.told (Sh56.done [Sh56.words w h (Sh56.three t (Sh56.page w h x) (Sh56.page w h y) (Sh56.page w h z))])).map V.int = _
  rw [told_one, ← Dot.out_words (Dot.three_rep (by rw [Dot.page_each, Dot.each_len]) (Dot.pfw_rep hx) (Dot.pfw_rep hy) (Dot.pfw_rep hz3))]
end DotH

namespace DotH
open PySem PySem.Spec PyProof.Rows L2
/-! ### moves -/
theorem rd_chainG {p p' : Int → Int → Bool} {ta tb tc : TE} {a b c : Int} {σ : L2.St} {H : Hp} {Q : VK} (ha : ∀ Q' : VK, Q' (.int a) H → ta σ H Q') (hb : ∀ Q' : VK, Q' (.int b) H → tb σ H Q') (hc : ∀ Q' : VK, Q' (.int c) H → tc σ H Q') (h : Q (.bl (p a b && p' b c)) H) :
    tChain (rI0 fun i j => .bl (p i j)) (rI0 fun i j => .bl (p' i j)) ta tb tc σ H Q := by
  refine ha _ (hb _ ⟨a, b, rfl, rfl, _, rfl, ?_⟩)
  cases e : p a b with
  | true =>
    rw [if_pos rfl]
    rw [e, Bool.true_and] at h
    exact hc _ ⟨b, c, rfl, rfl, h⟩
  | false =>
    rw [if_neg Bool.false_ne_true]
    rw [e, Bool.false_and] at h
    exact h
def spSigned (K : PySem.W.Frag) : Sp := fun vs H Q _ => ∃ n : Nat, vs = [.int (n : Int)] ∧ Q (.int (Sh56Neutral.int32 n)) H
def spMoveFits (K : PySem.W.Frag) : Sp := fun vs H Q _ => ∃ m : Int, vs = [.int m] ∧ Q (.bl (decide (-256 ≤ m ∧ m ≤ 256))) H
def spMvRow (K : PySem.W.Frag) : Sp := fun vs H Q _ => ∃ (row w : Nat) (dx : Int), vs = [.int (row : Int), .int dx, .int ((2 ^ w - 1 : Nat) : Int)] ∧ (row < 2 ^ w ∧ w ≤ 256) ∧ (-256 ≤ dx ∧ dx ≤ 256) ∧ Q (.int ((Dot.mvRow w dx row : Nat) : Int)) H
def spMvPage (K : PySem.W.Frag) : Sp := fun vs H Q _ => ∃ (a : Addr) (rows : List Nat) (dx dy : Int) (w : Nat), vs = [.ref a, .int dx, .int dy, .int ((2 ^ w - 1 : Nat) : Int)] ∧ SqL K H a (vl rows) ∧ (∀ y ∈ rows, y < 2 ^ w) ∧ (w ≤ 256 ∧ rows.length ≤ 256) ∧ (-256 ≤ dx ∧ dx ≤ 256) ∧
  ∀ H' p, Same H H' → H p = none → H' p = some (.lst (vl (Dot.mvPage w rows.length dx dy rows))) → Q (.ref p) H'
def spDoMove (K : PySem.W.Frag) : Sp := fun vs H Q _ => ∃ (dx dy w h : Nat) (a : Addr) (x : List Nat), vs = [.int (dx : Int), .int (dy : Int), .int (w : Int), .int (h : Int), .ref a] ∧ SqL K H a (vl x) ∧ (∀ y ∈ x, y < 2 ^ 32) ∧
  ∀ (H' : Hp) (p : Addr), H' p = some (.lst ((PySh56.do_move dx dy w h (il x)).map V.int)) → Q (.ref p) H'
theorem move_is (dx dy w h : Nat) (x : List Nat) : PySh56.do_move dx dy w h (il x) = Sh56Neutral.told (Sh56.answer (if Sh56.moveOk (Sh56Neutral.int32 dx) (Sh56Neutral.int32 dy) w h = true then .move (Sh56Neutral.int32 dx) (Sh56Neutral.int32 dy) w h (Sh56Neutral.nats (il x)) else .bad)) := rfl
theorem moveOk_is (dx dy : Int) (w h : Nat) : (decide (-256 ≤ dx ∧ dx ≤ 256) && (decide (-256 ≤ dy ∧ dy ≤ 256) && Sh56.sized w h)) = Sh56.moveOk dx dy w h := by
  unfold Sh56.moveOk
  rw [← Bool.and_assoc, Bool.and_comm]
theorem move_bad {dx dy w h : Nat} {x : List Nat} (hz : Sh56.moveOk (Sh56Neutral.int32 dx) (Sh56Neutral.int32 dy) w h = false) : (PySh56.do_move dx dy w h (il x)).map V.int = [V.int (-2)] := by
  rw [move_is, hz]
  rfl
theorem move_ok {dx dy w h : Nat} {x : List Nat} (hz : Sh56.moveOk (Sh56Neutral.int32 dx) (Sh56Neutral.int32 dy) w h = true) (hx : ∀ y ∈ x, y < 2 ^ 32) :
    (PySh56.do_move dx dy w h (il x)).map V.int = vl (0 :: Dot.outPage w (Dot.mvPage w h (Sh56Neutral.int32 dx) (Sh56Neutral.int32 dy) (Dot.pfw w h x))) := by
  rw [move_is, nats_cast, hz, if_pos rfl]
  show (Sh56Neutral.told (Sh56.done [Sh56.words w h (Sh56.moved w h (Sh56Neutral.int32 dx) (Sh56Neutral.int32 dy) (Sh56.page w h x))])).map V.int = _
  rw [told_one, ← Dot.out_words (Dot.mv_rep (Dot.pfw_rep hx))]
theorem pfw_lt {w h : Nat} {x : List Nat} (hx : ∀ y ∈ x, y < 2 ^ 32) : ∀ y ∈ Dot.pfw w h x, y < 2 ^ w := (Dot.pfw_rep (w := w) (h := h) hx).mem
theorem mv_len (w h : Nat) (dx dy : Int) (rows : List Nat) : (Dot.mvPage w h dx dy rows).length = h := by simp [Dot.mvPage]
theorem lt_big {n w : Nat} (h : n < 2 ^ w) (hw : w ≤ 256) : n < 2 ^ 1024 := Nat.lt_of_lt_of_le h (Nat.pow_le_pow_right (by decide) (by omega))
/-! ### boxes -/
def spReach (K : PySem.W.Frag) : Sp := fun vs H Q _ => ∃ dx dy : Nat, vs = [.int (dx : Int), .int (dy : Int)] ∧ Q (.bl (decide (dx ≤ 32) && decide (dy ≤ 32))) H
def spWider (K : PySem.W.Frag) : Sp := fun vs H Q _ => ∃ row dx w : Nat, vs = [.int (row : Int), .int (dx : Int), .int ((2 ^ w - 1 : Nat) : Int)] ∧ (row < 2 ^ w ∧ w ≤ 256) ∧ dx ≤ 32 ∧ Q (.int ((Dot.wider w dx row : Nat) : Int)) H
def spJoined (K : PySem.W.Frag) : Sp := fun vs H Q _ => ∃ (a : Addr) (l : List Nat), vs = [.ref a] ∧ SqL K H a (vl l) ∧ Q (.int ((Dot.joined l : Nat) : Int)) H
def spThick (K : PySem.W.Frag) : Sp := fun vs H Q _ => ∃ (a : Addr) (rows : List Nat) (dx dy w : Nat), vs = [.ref a, .int (dx : Int), .int (dy : Int), .int ((2 ^ w - 1 : Nat) : Int)] ∧ SqL K H a (vl rows) ∧ (∀ y ∈ rows, y < 2 ^ w) ∧ (w ≤ 256 ∧ rows.length ≤ 256) ∧ (dx ≤ 32 ∧ dy ≤ 32) ∧
  ∀ H' p, Same H H' → H p = none → H' p = some (.lst (vl (Dot.thickPage w rows.length dx dy rows))) → Q (.ref p) H'
def spOver (K : PySem.W.Frag) : Sp := fun vs H Q _ => ∃ (a : Addr) (rows : List Nat) (w : Nat), vs = [.ref a, .int ((2 ^ w - 1 : Nat) : Int)] ∧ SqL K H a (vl rows) ∧ rows.length ≤ 256 ∧
  ∀ H' p, Same H H' → H p = none → H' p = some (.lst (vl (Dot.overPage w rows))) → Q (.ref p) H'
def spThin (K : PySem.W.Frag) : Sp := fun vs H Q _ => ∃ (a : Addr) (rows : List Nat) (dx dy w : Nat), vs = [.ref a, .int (dx : Int), .int (dy : Int), .int ((2 ^ w - 1 : Nat) : Int)] ∧ SqL K H a (vl rows) ∧ (∀ y ∈ rows, y < 2 ^ w) ∧ (w ≤ 256 ∧ rows.length ≤ 256) ∧ (dx ≤ 32 ∧ dy ≤ 32) ∧
  ∀ H' p, Same H H' → H p = none → H' p = some (.lst (vl (Dot.thinPage w rows.length dx dy rows))) → Q (.ref p) H'
theorem le_32 (t : Nat) : (decide ((0 : Int) ≤ (t : Int)) && decide ((t : Int) ≤ 32)) = decide (t ≤ 32) := by
  rw [decide_eq_true (Int.natCast_nonneg t), Bool.true_and, Bool.eq_iff_iff, decide_eq_true_eq, decide_eq_true_eq]
  omega
theorem around_is (dx dy w h : Nat) : ((decide (dx ≤ 32) && decide (dy ≤ 32)) && Sh56.sized w h) = Sh56.aroundOk dx dy w h := by
  unfold Sh56.aroundOk
  rw [Bool.and_comm]
theorem around_iff {dx dy w h : Nat} (hz : Sh56.aroundOk dx dy w h = true) : ((1 ≤ w ∧ w ≤ 256) ∧ (1 ≤ h ∧ h ≤ 256)) ∧ (dx ≤ 32 ∧ dy ≤ 32) := by
  unfold Sh56.aroundOk at hz
  rw [Bool.and_eq_true, Bool.and_eq_true, decide_eq_true_eq, decide_eq_true_eq] at hz
  exact ⟨sized_iff.mp hz.1, hz.2⟩
theorem wider_lt (w dx row : Nat) : Dot.wider w dx row < 2 ^ w := by
  unfold Dot.wider
  have := Nat.one_le_two_pow (n := w)
  exact Nat.and_lt_two_pow _ (by omega)
theorem joined_lt {l : List Nat} {w : Nat} (h : ∀ y ∈ l, y < 2 ^ w) : Dot.joined l < 2 ^ w := by
  unfold Dot.joined
  have := Nat.one_le_two_pow (n := w)
  exact Dot.orG_lt (by omega) fun k _ => Dot.getD_lt h (by omega) k
theorem thick_lt (w h dx dy : Nat) (rows : List Nat) : ∀ y ∈ Dot.thickPage w h dx dy rows, y < 2 ^ w := by
  unfold Dot.thickPage Dot.joinPage
  intro y hy
  obtain ⟨r, _, rfl⟩ := List.mem_map.mp hy
  refine joined_lt fun z hz => ?_
  obtain ⟨v, _, rfl⟩ := List.mem_map.mp (List.mem_of_mem_take (List.mem_of_mem_drop hz))
  exact wider_lt w dx v
theorem over_lt {w : Nat} {rows : List Nat} (h : ∀ y ∈ rows, y < 2 ^ w) : ∀ y ∈ Dot.overPage w rows, y < 2 ^ w := by
  unfold Dot.overPage
  intro y hy
  obtain ⟨v, hv, rfl⟩ := List.mem_map.mp hy
  have := Nat.one_le_two_pow (n := w)
  exact Nat.xor_lt_two_pow (h v hv) (by omega)
theorem thick_len (w h dx dy : Nat) (rows : List Nat) : (Dot.thickPage w h dx dy rows).length = h := by simp [Dot.thickPage, Dot.joinPage]
theorem over_len (w : Nat) (rows : List Nat) : (Dot.overPage w rows).length = rows.length := by simp [Dot.overPage]
theorem thin_lt (w h dx dy : Nat) (rows : List Nat) : ∀ y ∈ Dot.thinPage w h dx dy rows, y < 2 ^ w := over_lt (thick_lt _ _ _ _ _)
theorem thin_len (w h dx dy : Nat) (rows : List Nat) : (Dot.thinPage w h dx dy rows).length = h := by
  unfold Dot.thinPage
  rw [over_len, thick_len]
theorem bad_max (r dy : Nat) : (if ((r : Int) - (dy : Int)) > 0 then (r : Int) - (dy : Int) else 0) = ((r - dy : Nat) : Int) := by
  split <;> omega
def spDoBox (g : Int → Int → Int → Int → List Int → List Int) (K : PySem.W.Frag) : Sp := fun vs H Q _ => ∃ (dx dy w h : Nat) (a : Addr) (x : List Nat), vs = [.int (dx : Int), .int (dy : Int), .int (w : Int), .int (h : Int), .ref a] ∧ SqL K H a (vl x) ∧ (∀ y ∈ x, y < 2 ^ 32) ∧
  ∀ (H' : Hp) (p : Addr), H' p = some (.lst ((g dx dy w h (il x)).map V.int)) → Q (.ref p) H'
def spDoThicker := spDoBox PySh56.do_thicker
def spDoThinner := spDoBox PySh56.do_thinner
def spDoOpen := spDoBox PySh56.do_open
def spDoClose := spDoBox PySh56.do_close
theorem thicker_is (dx dy w h : Nat) (x : List Nat) : PySh56.do_thicker dx dy w h (il x) = Sh56Neutral.told (Sh56.answer (if Sh56.aroundOk dx dy w h = true then .thicker dx dy w h (Sh56Neutral.nats (il x)) else .bad)) := rfl
theorem thinner_is (dx dy w h : Nat) (x : List Nat) : PySh56.do_thinner dx dy w h (il x) = Sh56Neutral.told (Sh56.answer (if Sh56.aroundOk dx dy w h = true then .thinner dx dy w h (Sh56Neutral.nats (il x)) else .bad)) := rfl
theorem open_is (dx dy w h : Nat) (x : List Nat) : PySh56.do_open dx dy w h (il x) = Sh56Neutral.told (Sh56.answer (if Sh56.aroundOk dx dy w h = true then .open_ dx dy w h (Sh56Neutral.nats (il x)) else .bad)) := rfl
theorem close_is (dx dy w h : Nat) (x : List Nat) : PySh56.do_close dx dy w h (il x) = Sh56Neutral.told (Sh56.answer (if Sh56.aroundOk dx dy w h = true then .close dx dy w h (Sh56Neutral.nats (il x)) else .bad)) := rfl
section
variable {dx dy w h : Nat} {x : List Nat}
theorem thicker_bad (hz : Sh56.aroundOk dx dy w h = false) : (PySh56.do_thicker dx dy w h (il x)).map V.int = [V.int (-2)] := by rw [thicker_is, hz]; rfl
theorem thinner_bad (hz : Sh56.aroundOk dx dy w h = false) : (PySh56.do_thinner dx dy w h (il x)).map V.int = [V.int (-2)] := by rw [thinner_is, hz]; rfl
theorem open_bad (hz : Sh56.aroundOk dx dy w h = false) : (PySh56.do_open dx dy w h (il x)).map V.int = [V.int (-2)] := by rw [open_is, hz]; rfl
theorem close_bad (hz : Sh56.aroundOk dx dy w h = false) : (PySh56.do_close dx dy w h (il x)).map V.int = [V.int (-2)] := by rw [close_is, hz]; rfl
theorem thicker_ok (hz : Sh56.aroundOk dx dy w h = true) (hx : ∀ y ∈ x, y < 2 ^ 32) : (PySh56.do_thicker dx dy w h (il x)).map V.int = vl (0 :: Dot.outPage w (Dot.thickPage w h dx dy (Dot.pfw w h x))) := by
  rw [thicker_is, nats_cast, hz, if_pos rfl]
  show (Sh56Neutral.told (Sh56.done [Sh56.words w h (Sh56.thicker w h dx dy (Sh56.page w h x))])).map V.int = _
  rw [told_one, ← Dot.out_words (Dot.thick_rep (Dot.pfw_rep hx))]
theorem thinner_ok (hz : Sh56.aroundOk dx dy w h = true) (hx : ∀ y ∈ x, y < 2 ^ 32) : (PySh56.do_thinner dx dy w h (il x)).map V.int = vl (0 :: Dot.outPage w (Dot.thinPage w h dx dy (Dot.pfw w h x))) := by
  rw [thinner_is, nats_cast, hz, if_pos rfl]
  show (Sh56Neutral.told (Sh56.done [Sh56.words w h (Sh56.thinner w h dx dy (Sh56.page w h x))])).map V.int = _
  rw [told_one, ← Dot.out_words (Dot.thin_rep (Dot.pfw_rep hx))]
theorem open_ok (hz : Sh56.aroundOk dx dy w h = true) (hx : ∀ y ∈ x, y < 2 ^ 32) : (PySh56.do_open dx dy w h (il x)).map V.int = vl (0 :: Dot.outPage w (Dot.thickPage w h dx dy (Dot.thinPage w h dx dy (Dot.pfw w h x)))) := by
  rw [open_is, nats_cast, hz, if_pos rfl]
  show (Sh56Neutral.told (Sh56.done [Sh56.words w h (Sh56.opened w h dx dy (Sh56.page w h x))])).map V.int = _
  rw [told_one, ← Dot.out_words (p := Sh56.opened w h dx dy (Sh56.page w h x)) (Dot.thick_rep (Dot.thin_rep (Dot.pfw_rep hx)))]
theorem close_ok (hz : Sh56.aroundOk dx dy w h = true) (hx : ∀ y ∈ x, y < 2 ^ 32) : (PySh56.do_close dx dy w h (il x)).map V.int = vl (0 :: Dot.outPage w (Dot.thinPage w h dx dy (Dot.thickPage w h dx dy (Dot.pfw w h x)))) := by
  rw [close_is, nats_cast, hz, if_pos rfl]
  show (Sh56Neutral.told (Sh56.done [Sh56.words w h (Sh56.closed w h dx dy (Sh56.page w h x))])).map V.int = _
  rw [told_one, ← Dot.out_words (p := Sh56.closed w h dx dy (Sh56.page w h x)) (Dot.thin_rep (Dot.thick_rep (Dot.pfw_rep hx)))]
end
end DotH

namespace DotH
open PySem PySem.Spec PyProof.Rows L2
/-! ### wide shifts, rests -/
section
variable {X : Cx}
theorem dn_shlB : OpR X (binaryOp .LShift) (fun x y H Q => ∃ a k n : Nat, x = .int (a : Int) ∧ y = .int (k : Int) ∧ (a < 2 ^ n ∧ n + k ≤ 134217728) ∧ Q (.int ((a * 2 ^ k : Nat) : Int)) H) := by
  intro pins s σ H x y v u Q I rx ry h
  obtain ⟨a, k, n, rfl, rfl, ⟨c1, c2⟩, q⟩ := h
  refine op_shlN pins s σ H _ _ v u Q I rx ry ⟨_, k, rfl, rfl, shl_ok (n := n) (by rw [Int.natAbs_natCast]; exact c1) c2, ?_⟩
  rw [Int.natCast_mul, PySem.W.kbt_cast] at q
  exact q
theorem dn_mod : OpR X (binaryOp .Mod) (fun x y H Q => ∃ n m : Nat, x = .int (n : Int) ∧ y = .int (m : Int) ∧ 1 ≤ m ∧ Q (.int ((n % m : Nat) : Int)) H) := by
  intro pins s σ H x y v u Q I rx ry h
  obtain ⟨n, m, rfl, rfl, c, q⟩ := h
  refine op_mod pins s σ H _ _ v u Q I rx ry ⟨_, _, rfl, rfl, by omega, ?_⟩
  rw [Int.natCast_emod] at q
  exact q
end
/-! ### walks within comprehensions -/
def TupK (K : PySem.W.Frag) (a : Addr) (xs : List V) : Prop := ∃ (o : Obj) (its : Array Value) (n : Nat), K.lookup a = some o ∧ o.cls = .type "tuple" ∧ o.data = .seq its n ∧ its.size ≤ sizeLine ∧ Vals xs its.toList
theorem lc_enum {K : PySem.W.Frag} {a : Addr} {xs : List V} {g : TG} {tt : TT} {te : TE} {vs : List Nat} {σ : L2.St} {H1 : Hp} {D : Addr} {Qd : Hp → Prop} (Pv : Nat → Hp → Prop) (h0 : Pv 0 (upd H1 D (.lst []))) (hl : ∀ i H, i ≤ xs.length → Pv i H → SqL K H a xs)
    (hs : ∀ i x T H, xs[i]? = some x → H T = none → Pv i H → g (.ref T) (wipe σ vs) (upd H T (.tup [.int ((i : Nat) : Int), x])) fun σ2 H2 => wipe σ2 vs = wipe σ vs ∧ tt σ2 H2 fun b H3 =>
      if b = true then te σ2 H3 fun y H4 => ∃ acc, H4 D = some (.lst acc) ∧ acc.length < sizeLine ∧ Pv (i + 1) (upd H4 D (.lst (acc ++ [y]))) else Pv (i + 1) H3) (hd : ∀ H, Pv xs.length H → Qd H) :
    ∃ W : Nat → Nat → Hp → Prop, (∃ m, W 0 m (upd H1 D (.lst []))) ∧ ∀ i m H, W i m H →
      ((Ite K a).stop i H ∧ Qd H) ∨ ((Ite K a).go i H ∧ ∃ Nx : Hp → Prop, (∀ H', Nx H' → ∃ m', m' < m ∧ W (i + 1) m' H') ∧ ∀ x H', (Ite K a).yld i H x H' → g x (wipe σ vs) H' fun σ2 H2 => wipe σ2 vs = wipe σ vs ∧ tt σ2 H2 fun b H3 =>
        if b = true then te σ2 H3 fun y H4 => ∃ acc, H4 D = some (.lst acc) ∧ acc.length < sizeLine ∧ Nx (upd H4 D (.lst (acc ++ [y]))) else Nx H3) := by
  refine ⟨fun i m H => m = xs.length - i ∧ i ≤ xs.length ∧ Pv i H, ⟨xs.length, by simp, Nat.zero_le _, h0⟩, ?_⟩
  rintro i m H ⟨rfl, hi, p⟩
  have q := hl i H hi p
  by_cases hlt : i < xs.length
  · refine .inr ⟨⟨xs, xs[i], q, by simp [hlt]⟩, Pv (i + 1), fun H' p' => ⟨xs.length - (i + 1), by omega, rfl, hlt, p'⟩, fun x H' y => ?_⟩
    obtain ⟨T, z, rfl, nT, rfl, y⟩ := y
    exact hs i z T _ (y xs q) nT p
  · have e : i = xs.length := by omega
    subst e
    exact .inl ⟨⟨xs, q, Nat.le_refl _⟩, hd H p⟩
theorem same_free {H H' : Hp} {p q : Addr} {o : HO} (s : Same H H') (e : H p = some o) (n : H' q = none) : q ≠ p := fun h => by
  rw [h, s _ _ e] at n
  cases n
theorem vl_cat (a b : List Nat) : vl a ++ vl b = vl (a ++ b) := (List.map_append ..).symm
theorem vl_len (a : List Nat) : (vl a).length = a.length := List.length_map ..
theorem one_line : 1 ≤ sizeLine := by rw [sizeLine_eq]; decide
theorem le_line {n : Nat} (h : n ≤ 1000000) : n ≤ sizeLine := Nat.le_of_lt (small_lt h)
/-! ### promises -/
def spWfp (K : PySem.W.Frag) : Sp := fun vs H Q _ => ∃ (w : Nat) (a : Addr) (rows : List Nat), vs = [.int (w : Int), .ref a] ∧ SqL K H a (vl rows) ∧ (w ≤ 512 ∧ rows.length ≤ 512) ∧
  ∀ H' p, Same H H' → H p = none → H' p = some (.lst (vl (Dot.outPage w rows))) → Q (.ref p) H'
theorem out_small' {w n i k : Nat} {rows : List Nat} (hw : w ≤ 512) (hl : rows.length ≤ 512) : (vl (Dot.outPage w (rows.take i) ++ (Dot.outRow w n).take k)).length < sizeLine := by
  refine small_lt ?_
  rw [List.length_map, List.length_append, outPage_len, List.length_take, List.length_take, outRow_len]
  have h1 : Sh56.wide w ≤ 16 := by unfold Sh56.wide; omega
  have h2 : min i rows.length * Sh56.wide w ≤ 512 * 16 := Nat.mul_le_mul (by omega) h1
  omega
theorem outPage_small {w : Nat} {rows : List Nat} (hw : w ≤ 512) (hl : rows.length ≤ 512) : (Dot.outPage w rows).length ≤ 8192 := by
  rw [outPage_len]
  have h1 : Sh56.wide w ≤ 16 := by unfold Sh56.wide; omega
  exact Nat.mul_le_mul hl h1
def spRowPl (K : PySem.W.Frag) : Sp := fun vs H Q _ => ∃ row w : Nat, vs = [.int (row : Int), .int (w : Int)] ∧ w ≤ 1024 ∧ ∀ H' p, Same H H' → H p = none → H' p = some (.lst (vl (Dot.sprRow w row))) → Q (.ref p) H'
def spColPl (K : PySem.W.Frag) : Sp := fun vs H Q _ => ∃ (a : Addr) (rows : List Nat) (c : Nat), vs = [.ref a, .int (c : Int)] ∧ SqL K H a (vl rows) ∧ rows.length ≤ 1024 ∧ ∀ H' p, Same H H' → H p = none → H' p = some (.lst (vl (Dot.colPl rows c))) → Q (.ref p) H'
theorem colPl_len (rows : List Nat) (c : Nat) : (Dot.colPl rows c).length = rows.length := by simp [Dot.colPl]
def spRfl (K : PySem.W.Frag) : Sp := fun vs H Q _ => ∃ (a : Addr) (l : List Nat), vs = [.ref a] ∧ SqL K H a (vl l) ∧ l.length ≤ 1024 ∧ (∀ y ∈ l, y < 2) ∧ Q (.int ((Dot.rfl_ l : Nat) : Int)) H
def spQuart (K : PySem.W.Frag) : Sp := fun vs H Q _ => ∃ (w : Nat) (a : Addr) (rows : List Nat), vs = [.int (w : Int), .ref a] ∧ SqL K H a (vl rows) ∧ (w ≤ 256 ∧ rows.length ≤ 256) ∧
  ∀ H' p, Same H H' → H p = none → H' p = some (.lst (vl (Dot.quartPage w rows))) → Q (.ref p) H'
/-- the calls with a size and a page -/
def spDoW (g : Int → Int → List Int → List Int) (K : PySem.W.Frag) : Sp := fun vs H Q _ => ∃ (w h : Nat) (a : Addr) (x : List Nat), vs = [.int (w : Int), .int (h : Int), .ref a] ∧ SqL K H a (vl x) ∧ (∀ y ∈ x, y < 2 ^ 32) ∧
  ∀ (H' : Hp) (p : Addr), H' p = some (.lst ((g w h (il x)).map V.int)) → Q (.ref p) H'
def spDoK (g : Int → Int → Int → List Int → List Int) (K : PySem.W.Frag) : Sp := fun vs H Q _ => ∃ (k w h : Nat) (a : Addr) (x : List Nat), vs = [.int (k : Int), .int (w : Int), .int (h : Int), .ref a] ∧ SqL K H a (vl x) ∧ (∀ y ∈ x, y < 2 ^ 32) ∧
  ∀ (H' : Hp) (p : Addr), H' p = some (.lst ((g k w h (il x)).map V.int)) → Q (.ref p) H'
def spDoMirror := spDoW PySh56.do_mirror
def spDoCounts := spDoW PySh56.do_counts
def spDoThinG := spDoW PySh56.do_thin
def spDoKeep := spDoK PySh56.do_keep
def spDoRuns := spDoK PySh56.do_runs
def spDoTurn := spDoK PySh56.do_turn
def spDoHalf := spDoK PySh56.do_half
def spDoFit := spDoBox PySh56.do_fit
/-! ### mirror -/
theorem mirror_is (w h : Nat) (x : List Nat) : PySh56.do_mirror w h (il x) = Sh56Neutral.told (Sh56.answer (if Sh56.sized w h = true then .mirror w h (Sh56Neutral.nats (il x)) else .bad)) := rfl
theorem mirror_bad {w h : Nat} {x : List Nat} (hz : Sh56.sized w h = false) : (PySh56.do_mirror w h (il x)).map V.int = [V.int (-2)] := by rw [mirror_is, hz]; rfl
theorem mirror_ok {w h : Nat} {x : List Nat} (hz : Sh56.sized w h = true) (hx : ∀ y ∈ x, y < 2 ^ 32) : (PySh56.do_mirror w h (il x)).map V.int = vl (0 :: Dot.outPage w (Dot.mirPage w (Dot.pfw w h x))) := by
  rw [mirror_is, nats_cast, hz, if_pos rfl]
  show (Sh56Neutral.told (Sh56.done [Sh56.words w h (Sh56.mirrored w h (Sh56.page w h x))])).map V.int = _
  rw [told_one, ← Dot.out_words (Dot.mir_rep (Dot.pfw_rep hx))]
theorem mir_len (w : Nat) (rows : List Nat) : (Dot.mirPage w rows).length = rows.length := by simp [Dot.mirPage]
/-! ### turn -/
theorem turn_is (q w h : Nat) (x : List Nat) : PySh56.do_turn q w h (il x) = Sh56Neutral.told (Sh56.answer (if (Sh56.sized w h && decide (q ≤ 3)) = true then .turn q w h (Sh56Neutral.nats (il x)) else .bad)) := rfl
theorem turn_bad {q w h : Nat} {x : List Nat} (hz : (Sh56.sized w h && decide (q ≤ 3)) = false) : (PySh56.do_turn q w h (il x)).map V.int = [V.int (-2)] := by rw [turn_is, hz]; rfl
/-- how wide, and the rows, behind i quarters -/
def turnW (w h i : Nat) : Nat := if i % 2 = 0 then w else h
def turnR (w h : Nat) (rows : List Nat) : Nat → List Nat
  | 0 => rows
  | i + 1 => Dot.quartPage (turnW w h i) (turnR w h rows i)
theorem turned_succ (w h : Nat) : ∀ (i : Nat) (p : Sh56.Page), Sh56.turned w h (i + 1) p = Sh56.quarter (turnW w h i) (turnW h w i) (Sh56.turned w h i p) := by
  intro i
  induction i generalizing w h with
  | zero => intro p; rfl
  | succ i ih =>
    intro p
    show Sh56.turned h w (i + 1) (Sh56.quarter w h p) = _
    rw [ih h w]
    have e1 : turnW w h (i + 1) = turnW h w i := by
      unfold turnW
      rcases Nat.mod_two_eq_zero_or_one i with e | e
      · rw [if_neg (by omega), if_pos e]
      · rw [if_pos (by omega), if_neg (by omega)]
    have e2 : turnW h w (i + 1) = turnW w h i := by
      unfold turnW
      rcases Nat.mod_two_eq_zero_or_one i with e | e
      · rw [if_neg (by omega), if_pos e]
      · rw [if_pos (by omega), if_neg (by omega)]
    rw [e1, e2]
    rfl
theorem turnW_succ (w h i : Nat) : turnW w h (i + 1) = turnW h w i := by
  unfold turnW
  rcases Nat.mod_two_eq_zero_or_one i with e | e
  · rw [if_neg (by omega), if_pos e]
  · rw [if_pos (by omega), if_neg (by omega)]
theorem turn_rep {w h : Nat} {rows : List Nat} {p : Sh56.Page} (R : Dot.Rep w h rows p) : ∀ i, Dot.Rep (turnW w h i) (turnW h w i) (turnR w h rows i) (Sh56.turned w h i p)
  | 0 => R
  | i + 1 => by
    rw [turned_succ, turnW_succ, turnW_succ]
    exact Dot.quart_rep (turn_rep R i)
theorem turn_ok {q w h : Nat} {x : List Nat} (hz : (Sh56.sized w h && decide (q ≤ 3)) = true) (hx : ∀ y ∈ x, y < 2 ^ 32) : (PySh56.do_turn q w h (il x)).map V.int = vl (0 :: Dot.outPage (turnW w h q) (turnR w h (Dot.pfw w h x) q)) := by
  rw [turn_is, nats_cast, hz, if_pos rfl]
  show (Sh56Neutral.told (if q % 2 = 0 then Sh56.one w h (Sh56.turned w h q (Sh56.page w h x)) else Sh56.one h w (Sh56.turned w h q (Sh56.page w h x)))).map V.int = _
  have R := turn_rep (Dot.pfw_rep (w := w) (h := h) hx) q
  rw [Dot.out_words R]
  unfold turnW
  by_cases e : q % 2 = 0
  · rw [if_pos e, if_pos e, if_pos e]
    exact told_one _
  · rw [if_neg e, if_neg e, if_neg e]
    exact told_one _
theorem turn_len {w h : Nat} {rows : List Nat} (hl : rows.length = h) : ∀ i, (turnR w h rows i).length = turnW h w i
  | 0 => hl
  | i + 1 => by
    show (Dot.quartPage (turnW w h i) (turnR w h rows i)).length = _
    rw [Dot.quart_len, turnW_succ]
theorem turnW_le {w h : Nat} (hw : w ≤ 256) (hh : h ≤ 256) (i : Nat) : turnW w h i ≤ 256 := by
  unfold turnW
  split <;> assumption
/-! ### counts -/
theorem counts_is (w h : Nat) (x : List Nat) : PySh56.do_counts w h (il x) = Sh56Neutral.told (Sh56.answer (if Sh56.sized w h = true then .counts w h (Sh56Neutral.nats (il x)) else .bad)) := rfl
theorem counts_bad {w h : Nat} {x : List Nat} (hz : Sh56.sized w h = false) : (PySh56.do_counts w h (il x)).map V.int = [V.int (-2)] := by rw [counts_is, hz]; rfl
theorem told_two (n : Nat) (a b : List Nat) : (Sh56Neutral.told ⟨((n : Nat) : Int), [a, b]⟩).map V.int = vl (n :: a.length :: (a ++ b.length :: b)) := by
  show V.int (n : Int) :: (([a, b].flatMap fun (l : List Nat) => ((l.length : Nat) : Int) :: Sh56Neutral.ints l).map V.int) = _
  unfold Sh56Neutral.ints
  simp [List.flatMap_cons, vl]
  rfl
theorem colSums_len (w : Nat) (rows : List Nat) : (Dot.colSums w rows).length = w := by simp [Dot.colSums]
theorem rowSums_len (w : Nat) (rows : List Nat) : (Dot.rowSums w rows).length = rows.length := by simp [Dot.rowSums]
theorem counts_ok {w h : Nat} {x : List Nat} (hz : Sh56.sized w h = true) (hx : ∀ y ∈ x, y < 2 ^ 32) : (PySh56.do_counts w h (il x)).map V.int =
    vl ([(Dot.rowSums w (Dot.pfw w h x)).sum, w] ++ Dot.colSums w (Dot.pfw w h x) ++ [h] ++ Dot.rowSums w (Dot.pfw w h x)) := by
  rw [counts_is, nats_cast, hz, if_pos rfl]
  show (Sh56Neutral.told ⟨((Sh56.many (Sh56.page w h x) : Nat) : Int), [Sh56.columnCounts w h (Sh56.page w h x), Sh56.rowCounts w h (Sh56.page w h x)]⟩).map V.int = _
  have R := Dot.pfw_rep (w := w) (h := h) hx
  rw [told_two, ← Dot.colSums_is R, ← Dot.rowSums_is R, colSums_len, rowSums_len, Dot.pfw_len]
  have e : Sh56.many (Sh56.page w h x) = (Dot.rowSums w (Dot.pfw w h x)).sum := by
    rw [Dot.rowSums_is R, Dot.page_each, Dot.rowSums_all]
  rw [e]
  simp
theorem sum_cast (l : List Nat) : (l.map fun (n : Nat) => (n : Int)).sum = ((l.sum : Nat) : Int) := by
  induction l with
  | nil => rfl
  | cons a l ih =>
    rw [List.map_cons, List.sum_cons, List.sum_cons, ih]
    omega
end DotH

namespace DotH
open PySem PySem.Spec PyProof.Rows L2
theorem le3_cond (k : Nat) (s : Bool) : ((decide ((0 : Int) ≤ (k : Int)) && decide ((k : Int) ≤ 3)) && s) = (s && decide (k ≤ 3)) := by
  rw [Bool.and_comm]
  congr 1
  rw [decide_eq_true (Int.natCast_nonneg k), Bool.true_and, Bool.eq_iff_iff, decide_eq_true_eq, decide_eq_true_eq]
  omega
theorem le9_cond (k : Nat) (s : Bool) : ((decide ((0 : Int) ≤ (k : Int)) && decide ((k : Int) ≤ 9)) && s) = (s && decide (k ≤ 9)) := by
  rw [Bool.and_comm]
  congr 1
  rw [decide_eq_true (Int.natCast_nonneg k), Bool.true_and, Bool.eq_iff_iff, decide_eq_true_eq, decide_eq_true_eq]
  omega
theorem le4_cond (k : Nat) (s : Bool) : ((decide ((1 : Int) ≤ (k : Int)) && decide ((k : Int) ≤ 4)) && s) = (s && Sh56.among k 1 4) := by
  rw [Bool.and_comm]
  unfold Sh56.among
  congr 1
  congr 1 <;> rw [Bool.eq_iff_iff, decide_eq_true_eq, decide_eq_true_eq] <;> omega
theorem sum_list {K : PySem.W.Frag} {H : Hp} {a : Addr} {l : List Nat} (h : SqL K H a (vl l)) : SqL K H a ((il l).map V.int) := by
  rw [map_int]
  exact h
end DotH
namespace DotH
open PySem PySem.Spec PyProof.Rows L2
/-! ### sheets -/
def shBits : Nat := 70000
theorem shBits_ge : 65792 ≤ shBits := by decide
theorem shBits_le : shBits + 1000 ≤ 134217728 := by decide
theorem lt_bits {w h S : Nat} {p : Sh56.Page} (hw : w ≤ 256) (hh : h ≤ 256) (R : Dot.SRep w h S p) : S < 2 ^ shBits := by
  refine Nat.lt_pow_two_of_testBit _ fun i hi => ?_
  rw [R, Dot.dot_out]
  intro hc
  have h1 : i / (w + 1) * (w + 1) + i % (w + 1) = i := by rw [Nat.mul_comm]; exact Nat.div_add_mod i (w + 1)
  have h2 : (i / (w + 1) + 1) * (w + 1) ≤ 256 * 257 := Nat.mul_le_mul (by omega) (by omega)
  rw [Nat.succ_mul] at h2
  have := shBits_ge
  omega
theorem wtho_lt {a b n : Nat} (h : a < 2 ^ n) : Dot.wtho a b < 2 ^ n := by
  refine Nat.lt_pow_two_of_testBit _ fun i hi => ?_
  rw [Dot.wtho_bit, Dot.tb_small h hi]
  rfl
def spSheet (K : PySem.W.Frag) : Sp := fun vs H Q _ => ∃ (w : Nat) (a : Addr) (rows : List Nat), vs = [.int (w : Int), .ref a] ∧ SqL K H a (vl rows) ∧ (∀ y ∈ rows, y < 2 ^ w) ∧ (w ≤ 256 ∧ rows.length ≤ 256) ∧ ∀ H', Same H H' → Q (.int ((Dot.sheetOf w rows : Nat) : Int)) H'
def spPfs (K : PySem.W.Frag) : Sp := fun vs H Q _ => ∃ w h S : Nat, vs = [.int (w : Int), .int (h : Int), .int (S : Int)] ∧ (w ≤ 256 ∧ h ≤ 256) ∧ ∀ H' p, Same H H' → H p = none → H' p = some (.lst (vl (Dot.pageOf w h S))) → Q (.ref p) H'
def spSeen (K : PySem.W.Frag) : Sp := fun vs H Q _ => ∃ (S : Nat) (z : Int), vs = [.int (S : Int), .int z] ∧ (S < 2 ^ shBits ∧ -1000 ≤ z) ∧ Q (.int ((Dot.seenFrom S z : Nat) : Int)) H
def spNine (K : PySem.W.Frag) : Sp := fun vs H Q _ => ∃ w S : Nat, vs = [.int (w : Int), .int (S : Int)] ∧ (w ≤ 256 ∧ S < 2 ^ shBits) ∧ ∀ H' p, Same H H' → H p = none → H' p = some (.lst (vl (Dot.nineOf w S))) → Q (.ref p) H'
def spEight (K : PySem.W.Frag) : Sp := fun vs H Q _ => ∃ w S : Nat, vs = [.int (w : Int), .int (S : Int)] ∧ (w ≤ 256 ∧ S < 2 ^ shBits) ∧ ∀ H' p, Same H H' → H p = none → H' p = some (.lst (vl (Dot.eightOf w S))) → Q (.ref p) H'
def spFitPl (K : PySem.W.Frag) : Sp := fun vs H Q _ => ∃ (a : Addr) (l : List Nat) (black white P : Nat), vs = [.ref a, .int (black : Int), .int (white : Int), .int (P : Int)] ∧ SqL K H a (vl l) ∧ ∀ H', Same H H' → Q (.int ((Dot.fitG P black white (fun k => l.getD k 0) l.length : Nat) : Int)) H'
def spEnough (K : PySem.W.Frag) : Sp := fun vs H Q _ => ∃ (a : Addr) (l : List Nat) (P : Nat), vs = [.ref a, .int (P : Int)] ∧ SqL K H a (vl l) ∧ l.length ≤ 64 ∧ ∀ H' p, Same H H' → H p = none → H' p = some (.lst (vl (Dot.enough l P))) → Q (.ref p) H'
def spWtho (K : PySem.W.Frag) : Sp := fun vs H Q _ => ∃ a b : Nat, vs = [.int (a : Int), .int (b : Int)] ∧ Q (.int ((Dot.wtho a b : Nat) : Int)) H
def spMayGo (K : PySem.W.Frag) : Sp := fun vs H Q _ => ∃ (a : Addr) (e : List Nat) (S : Nat), vs = [.ref a, .int (S : Int)] ∧ SqL K H a (vl e) ∧ e.length = 8 ∧ ∀ H', Same H H' → Q (.int ((Dot.mayGo e S : Nat) : Int)) H'
def spHalfR (K : PySem.W.Frag) : Sp := fun vs H Q _ => ∃ (w S : Nat) (a b : Addr) (t1 t2 t3 u1 u2 u3 : Nat), vs = [.int (w : Int), .int (S : Int), .ref a, .ref b] ∧ (w ≤ 256 ∧ S < 2 ^ shBits) ∧ (SqT K H a (vl [t1, t2, t3]) ∧ SqT K H b (vl [u1, u2, u3])) ∧ ((t1 < 8 ∧ t2 < 8 ∧ t3 < 8) ∧ (u1 < 8 ∧ u2 < 8 ∧ u3 < 8)) ∧
  ∀ H', Same H H' → Q (.int ((Dot.halfR w S (t1, t2, t3) (u1, u2, u3) : Nat) : Int)) H'
def spWholeR (K : PySem.W.Frag) : Sp := fun vs H Q _ => ∃ w S : Nat, vs = [.int (w : Int), .int (S : Int)] ∧ (w ≤ 256 ∧ S < 2 ^ shBits) ∧ ∀ H', Same H H' → Q (.int ((Dot.wholeR w S : Nat) : Int)) H'
theorem clock_lt : ∀ n ∈ Dot.clockL, n < 9 := by decide
theorem nine_len (w S : Nat) : (Dot.nineOf w S).length = 9 := by simp [Dot.nineOf]
theorem rep_vl (k n : Nat) : (List.replicate k [V.int (n : Int)]).flatten = vl (List.replicate k n) := by
  induction k with
  | zero => rfl
  | succ k ih =>
    rw [List.replicate_succ, List.replicate_succ, List.flatten_cons, ih]
    rfl
theorem en_start (P n : Nat) (f : Nat → Nat) : P :: List.replicate (n + 1) 0 = Dot.enAll P f 0 (n + 2) := by
  apply List.ext_getElem?
  intro i
  unfold Dot.enAll
  cases i with
  | zero => simp [Dot.enG]
  | succ i =>
    rw [List.getElem?_cons_succ, List.getElem?_map]
    by_cases hi : i < n + 1
    · rw [List.getElem?_replicate, if_pos hi, List.getElem?_range (by omega)]
      rfl
    · rw [List.getElem?_eq_none (by simp; omega), List.getElem?_eq_none (by simp; omega)]
      rfl
/-! ### fit -/
theorem fit_is (b v w h : Nat) (x : List Nat) : PySh56.do_fit b v w h (il x) = Sh56Neutral.told (Sh56.answer (if (Sh56.sized w h && (decide (b ≤ 511) && decide (v ≤ 511))) = true then .fit b v w h (Sh56Neutral.nats (il x)) else .bad)) := rfl
theorem fit_bad {b v w h : Nat} {x : List Nat} (hz : (Sh56.sized w h && (decide (b ≤ 511) && decide (v ≤ 511))) = false) : (PySh56.do_fit b v w h (il x)).map V.int = [V.int (-2)] := by rw [fit_is, hz]; rfl
theorem fit_ok {b v w h : Nat} {x : List Nat} (hz : (Sh56.sized w h && (decide (b ≤ 511) && decide (v ≤ 511))) = true) (hx : ∀ y ∈ x, y < 2 ^ 32) :
    (PySh56.do_fit b v w h (il x)).map V.int = vl (0 :: Dot.outPage w (Dot.pageOf w h (Dot.fitAll w h b v (Dot.sheetOf w (Dot.pfw w h x))))) := by
  rw [fit_is, nats_cast, hz, if_pos rfl]
  show (Sh56Neutral.told (Sh56.done [Sh56.words w h (Sh56.fitted w h b v (Sh56.page w h x))])).map V.int = _
  rw [told_one, ← Dot.out_words (Dot.fit_rep (Dot.sheet_rep (Dot.pfw_rep hx)))]
theorem fit_cond (b v : Nat) (s : Bool) : ((decide ((0 : Int) ≤ (b : Int)) && decide ((b : Int) ≤ 511)) && ((decide ((0 : Int) ≤ (v : Int)) && decide ((v : Int) ≤ 511)) && s)) = (s && (decide (b ≤ 511) && decide (v ≤ 511))) := by
  have e1 : (decide ((0 : Int) ≤ (b : Int)) && decide ((b : Int) ≤ 511)) = decide (b ≤ 511) := by
    rw [decide_eq_true (Int.natCast_nonneg b), Bool.true_and, Bool.eq_iff_iff, decide_eq_true_eq, decide_eq_true_eq]
    omega
  have e2 : (decide ((0 : Int) ≤ (v : Int)) && decide ((v : Int) ≤ 511)) = decide (v ≤ 511) := by
    rw [decide_eq_true (Int.natCast_nonneg v), Bool.true_and, Bool.eq_iff_iff, decide_eq_true_eq, decide_eq_true_eq]
    omega
  rw [e1, e2, ← Bool.and_assoc, Bool.and_comm]
theorem pfw_sheet {w h : Nat} {x : List Nat} (hw : w ≤ 256) (hh : h ≤ 256) (hx : ∀ y ∈ x, y < 2 ^ 32) : Dot.sheetOf w (Dot.pfw w h x) < 2 ^ shBits := lt_bits hw hh (Dot.sheet_rep (Dot.pfw_rep hx))
theorem black_lt (w h : Nat) : ∀ y ∈ Dot.blackRows w h, y < 2 ^ w := (Dot.black_rep w h).mem
/-! ### keep -/
theorem keep_is (k w h : Nat) (x : List Nat) : PySh56.do_keep k w h (il x) = Sh56Neutral.told (Sh56.answer (if (Sh56.sized w h && decide (k ≤ 9)) = true then .keep k w h (Sh56Neutral.nats (il x)) else .bad)) := rfl
theorem keep_bad {k w h : Nat} {x : List Nat} (hz : (Sh56.sized w h && decide (k ≤ 9)) = false) : (PySh56.do_keep k w h (il x)).map V.int = [V.int (-2)] := by rw [keep_is, hz]; rfl
theorem keep_ok {k w h : Nat} {x : List Nat} (hz : (Sh56.sized w h && decide (k ≤ 9)) = true) (hx : ∀ y ∈ x, y < 2 ^ 32) :
    (PySh56.do_keep k w h (il x)).map V.int = vl (0 :: Dot.outPage w (Dot.pageOf w h (Dot.keepAll w k (Dot.sheetOf w (Dot.pfw w h x))))) := by
  rw [keep_is, nats_cast, hz, if_pos rfl]
  show (Sh56Neutral.told (Sh56.done [Sh56.words w h (Sh56.kept w h k (Sh56.page w h x))])).map V.int = _
  rw [Bool.and_eq_true, decide_eq_true_eq] at hz
  rw [told_one, ← Dot.out_words (Dot.keep_rep hz.2 (Dot.sheet_rep (Dot.pfw_rep hx)))]
end DotH
namespace DotH
open PySem PySem.Spec PyProof.Rows L2
theorem same_tup {K : PySem.W.Frag} {H H' : Hp} {a : Addr} {xs : List V} (e : Same H H') (h : SqT K H a xs) : SqT K H' a xs := by
  rcases h with (h | ⟨o, h⟩) | h
  · exact .inl (.inl (e _ _ h))
  · exact .inl (.inr ⟨o, e _ _ h⟩)
  · exact .inr h
theorem ix_nat {n j : Nat} (hj : j < n) : ixN n (j : Int) = some j := by
  unfold ixN
  rw [if_pos (by omega), if_pos (by omega)]
  simp
theorem vl_set (E : List Nat) (k n : Nat) : (vl E).set k (V.int (n : Int)) = vl (E.set k n) := (List.map_set ..).symm
theorem rgc_down (i : Nat) (hi : i ≤ 1000) : RgC ((i + 1 : Nat) : Int) 0 (-1) (i + 1) := by
  have h := RgC.neg (i := ((i + 1 : Nat) : Int)) (j := 0) (by omega) (by omega) (by decide) (by decide)
  rwa [show ((((i + 1 : Nat) : Int) - 0).toNat) = i + 1 by omega] at h
theorem rep_vl0 (k : Nat) : (List.replicate k [V.int 0]).flatten = vl (List.replicate k 0) := rep_vl k 0
/-! ### thin -/
theorem thin_is (w h : Nat) (x : List Nat) : PySh56.do_thin w h (il x) = Sh56Neutral.told (Sh56.answer (if Sh56.sized w h = true then .thin w h (Sh56Neutral.nats (il x)) else .bad)) := rfl
theorem thin_bad {w h : Nat} {x : List Nat} (hz : Sh56.sized w h = false) : (PySh56.do_thin w h (il x)).map V.int = [V.int (-2)] := by rw [thin_is, hz]; rfl
theorem told_n (n : Nat) (l : List Nat) : (Sh56Neutral.told ⟨((n : Nat) : Int), [l]⟩).map V.int = vl (n :: l) := by
  show V.int (n : Int) :: (Sh56Neutral.ints l).map V.int = vl (n :: l)
  unfold Sh56Neutral.ints
  rw [map_int]
  rfl
theorem thin_ok {w h S k : Nat} {x : List Nat} {p : Sh56.Page} (hz : Sh56.sized w h = true) (R : Dot.SRep w h S p) (e : Sh56.thinned w h (w * h + 1) (Sh56.page w h x) = (p, k)) :
    (PySh56.do_thin w h (il x)).map V.int = vl (k :: Dot.outPage w (Dot.pageOf w h S)) := by
  rw [thin_is, nats_cast, hz, if_pos rfl]
  show (Sh56Neutral.told ⟨(((Sh56.thinned w h (w * h + 1) (Sh56.page w h x)).2 : Nat) : Int), [Sh56.words w h (Sh56.thinned w h (w * h + 1) (Sh56.page w h x)).1]⟩).map V.int = _
  rw [e, told_n, Dot.out_words (Dot.page_of_sheet R)]
theorem page_len (w h : Nat) (x : List Nat) : (Sh56.page w h x).length = h * w := by rw [Dot.page_each, Dot.each_len]
end DotH
namespace DotH
open PySem PySem.Spec PyProof.Rows L2
/-! ### xs[0::2] -/
theorem vals_other : ∀ {xs : List V} {its : List Value}, Vals xs its → Vals (Dot.everyOther xs) (Dot.everyOther its)
  | _, _, .nil => by unfold Dot.everyOther; exact .nil
  | _, _, .cons a .nil => by unfold Dot.everyOther; exact .cons a .nil
  | _, _, .cons a (.cons b t) => by unfold Dot.everyOther; exact .cons a (vals_other t)
theorem other_map {α β : Type} (f : α → β) : ∀ l : List α, Dot.everyOther (l.map f) = (Dot.everyOther l).map f
  | [] => by simp [Dot.everyOther]
  | [a] => by simp [Dot.everyOther]
  | a :: b :: l => by
    show f a :: Dot.everyOther (l.map f) = f a :: (Dot.everyOther l).map f
    rw [other_map f l]
theorem other_bounds (n : Nat) : sliceBounds (some 0) none (some 2) n = (0, (n : Int), 2) := by
  have e : max (0 : Int) (min 0 (n : Int)) = 0 := by omega
  simp [sliceBounds]
  exact e
theorem other_range (n : Nat) : sliceRange 0 (n : Int) 2 = (List.range ((n + 1) / 2)).map fun k => 2 * k := by
  unfold sliceRange
  have h1 : (2 : Int) > 0 := by decide
  by_cases h : (0 : Int) < (n : Int)
  · simp only [h1, if_true, h]
    rw [show ((((n : Int) - 0 + 2 - 1) / 2).toNat) = (n + 1) / 2 by omega]
    refine List.map_congr_left fun k _ => ?_
    omega
  · have e : n = 0 := by omega
    subst e
    simp
theorem other_pick (items : List Value) : slicePick items.toArray (some 0) none (some 2) = (Dot.everyOther items).toArray := by
  unfold slicePick
  rw [other_bounds]
  show ((sliceRange 0 (items.toArray.size : Int) 2).filterMap (items.toArray[·]?)).toArray = _
  rw [other_range, List.size_toArray]
  congr 1
  apply List.ext_getElem?
  intro i
  rw [Dot.other_get]
  have e : ∀ m, m ≤ (items.length + 1) / 2 → ((List.range m).map fun k => 2 * k).filterMap (items.toArray[·]?) = (Dot.everyOther items).take m := by
    intro m
    induction m with
    | zero => intro _; simp
    | succ m ih =>
      intro hm
      rw [List.range_succ, List.map_append, List.filterMap_append, ih (by omega)]
      have hl : 2 * m < items.length := by omega
      have : (Dot.everyOther items)[m]? = some items[2 * m] := by rw [Dot.other_get, List.getElem?_eq_getElem hl]
      rw [take_more this]
      congr 1
      simp [hl]
  rw [e _ (Nat.le_refl _), take_all (Dot.other_len items), Dot.other_get]
section
variable {X : Cx}
def tOther (K : PySem.W.Frag) (te : TE) : TE := fun σ H Q => te σ H fun x H1 => ∃ a xs, x = .ref a ∧ SqL K H1 a xs ∧ ∀ p, H1 p = none → Q (.ref p) (upd H1 p (.lst (Dot.everyOther xs)))
theorem pe_other {e : Expr} {te : TE} {k1 k2 : Nat} {p1 p2 p3 pos : Pos} (he : PE X e te) : PE X (.Subscript e (.Slice (some (.Constant (.int 0) k1 p1)) none (some (.Constant (.int 2) k2 p2)) p3) pos) (tOther X.K te) := by
  refine ⟨fun pins s σ H Q I h => ?_⟩
  refine Subscript_ (thn (he.run pins s σ H _ I h) fun v s1 ⟨x, H1, I1, r1, q1⟩ => ?_)
  obtain ⟨a, xs, ex, hx, q⟩ := q1
  subst ex
  cases r1
  have hlo : PO X (some (.Constant (.int 0) k1 p1)) (tPart (tC (.int 0))) := po_some pe_int
  have hst : PO X (some (.Constant (.int 2) k2 p2)) (tPart (tC (.int 2))) := po_some pe_int
  refine wpAny_Slice (thn (hlo.run pins s1 σ H1 (fun o H2 => o = some 0 ∧ H2 = H1) I1 ⟨0, rfl, rfl, rfl⟩) fun vl s2 ⟨l, H2, I2, pl, el, e2⟩ => ?_)
  subst el e2
  refine thn (po_none.run pins s2 σ H2 (fun o H3 => o = none ∧ H3 = H2) I2 ⟨rfl, rfl⟩) fun vu s3 ⟨u, H3, I3, pu, eu, e3⟩ => ?_
  subst eu e3
  refine thn (hst.run pins s3 σ H3 (fun o H4 => o = some 2 ∧ H4 = H3) I3 ⟨2, rfl, rfl, rfl⟩) fun vs s4 ⟨o, H4, I4, ps, eo, e4⟩ => ?_
  subst eo e4
  have I5 : Inv X pins σ H4 { s4 with heap := s4.heap.push { cls := .type "slice", data := .fields #[vl, vu, vs] } } := I4.kept (t' := s4.toks) fun b ob q => Heap.get?_push_of_some _ q
  obtain ⟨its, r, ht, hz⟩ := I5.list hx
  have hlen := r.length
  show wpAny (model X.prog X.w) X.A (subscriptTail e (.Slice (some (.Constant (.int 0) k1 p1)) none (some (.Constant (.int 2) k2 p2)) p3) (.ref a) (.ref s4.heap.objs.size)) (EP X pins σ Q) X.xe { s4 with heap := s4.heap.push { cls := .type "slice", data := .fields #[vl, vu, vs] } }
  refine tail_any (ops := [.ref a, .ref s4.heap.objs.size]) ht.isList.typeIs (PySem.slot_list_getitem.lookup) ?_ (by with_unfolding_all rfl)
  refine wpAny_getItem_list_slice ht.isList (Heap.IsSliceOf.new _ vl vu vs) pl pu ps (by decide) ?_ (by rw [List.size_toArray]; omega)
  rw [other_pick]
  refine ⟨.ref _, _, I5.laid (t' := s4.toks) (o := .lst (Dot.everyOther xs)) (fun b ob q => Heap.get?_push_of_some _ q) (Nat.le_refl _) ?_, rfl, q _ (I5.hok.fresh (Nat.le_refl _))⟩
  exact ⟨by rw [Dot.other_len]; omega, _, 0, vals_other r, Heap.get?_push_size _ rfl⟩
end
/-! ### half -/
theorem other_vl (l : List Nat) : Dot.everyOther (vl l) = vl (Dot.everyOther l) := other_map _ l
def spHalfRow (K : PySem.W.Frag) : Sp := fun vs H Q _ => ∃ k w a b : Nat, vs = [.int (k : Int), .int (w : Int), .int (a : Int), .int (b : Int)] ∧ (k ≤ 4 ∧ w ≤ 256) ∧ ∀ H', Same H H' → Q (.int ((Dot.halfRow k w a b : Nat) : Int)) H'
theorem half_is (k w h : Nat) (x : List Nat) : PySh56.do_half k w h (il x) = Sh56Neutral.told (Sh56.answer (if (Sh56.sized w h && Sh56.among k 1 4) = true then .half k w h (Sh56Neutral.nats (il x)) else .bad)) := rfl
theorem half_bad {k w h : Nat} {x : List Nat} (hz : (Sh56.sized w h && Sh56.among k 1 4) = false) : (PySh56.do_half k w h (il x)).map V.int = [V.int (-2)] := by rw [half_is, hz]; rfl
theorem half_ok {k w h : Nat} {x : List Nat} (hz : (Sh56.sized w h && Sh56.among k 1 4) = true) (hk : k ≤ 4) (hx : ∀ y ∈ x, y < 2 ^ 32) :
    (PySh56.do_half k w h (il x)).map V.int = vl (0 :: Dot.outPage (w / 2) (Dot.halfPage k w h (Dot.pfw w h x))) := by
  rw [half_is, nats_cast, hz, if_pos rfl]
  show (Sh56Neutral.told (Sh56.done [Sh56.words (w / 2) (h / 2) (Sh56.half w h k (Sh56.page w h x))])).map V.int = _
  rw [told_one, ← Dot.out_words (Dot.half_page_rep hk (Dot.pfw_rep hx))]
theorem among4 {k : Nat} (h : Sh56.among k 1 4 = true) : k ≤ 4 := by
  unfold Sh56.among at h
  rw [Bool.and_eq_true, decide_eq_true_eq, decide_eq_true_eq] at h
  exact h.2
/-! ### runs -/
theorem runs_is (r w h : Nat) (x : List Nat) : PySh56.do_runs r w h (il x) = Sh56Neutral.told (Sh56.answer (if (Sh56.sized w h && decide (r < h)) = true then .runs r w h (Sh56Neutral.nats (il x)) else .bad)) := rfl
theorem runs_bad {r w h : Nat} {x : List Nat} (hz : (Sh56.sized w h && decide (r < h)) = false) : (PySh56.do_runs r w h (il x)).map V.int = [V.int (-2)] := by rw [runs_is, hz]; rfl
theorem runs_cond (r h : Nat) (s : Bool) : (s && (decide ((0 : Int) ≤ (r : Int)) && decide ((r : Int) < (h : Int)))) = (s && decide (r < h)) := by
  congr 1
  rw [decide_eq_true (Int.natCast_nonneg r), Bool.true_and, Bool.eq_iff_iff, decide_eq_true_eq, decide_eq_true_eq]
  omega
/-- the runs of a row by its number -/
def rowRuns (w row : Nat) : List (Nat × Nat) := (Dot.runL (fun c => row.testBit c) w).reverse
theorem row_ends {w row : Nat} (h : row < 2 ^ w) : Dot.chRow w row = Dot.ends2 (rowRuns w row) := by
  rw [Dot.chRow_is]
  exact Dot.runs_ends (Dot.tb_small h (Nat.le_refl _))
theorem runs_ok {r w h : Nat} {x : List Nat} (hz : (Sh56.sized w h && decide (r < h)) = true) (hx : ∀ y ∈ x, y < 2 ^ 32) : (PySh56.do_runs r w h (il x)).map V.int =
    vl (((rowRuns w ((Dot.pfw w h x).getD r 0)).length :: (rowRuns w ((Dot.pfw w h x).getD r 0)).length :: ((rowRuns w ((Dot.pfw w h x).getD r 0)).map fun p => p.1) ++ (rowRuns w ((Dot.pfw w h x).getD r 0)).length :: ((rowRuns w ((Dot.pfw w h x).getD r 0)).map fun p => p.2))) := by
  rw [runs_is, nats_cast, hz, if_pos rfl]
  have R := Dot.pfw_rep (w := w) (h := h) hx
  have e : Sh56.runs w h (Sh56.page w h x) r = rowRuns w ((Dot.pfw w h x).getD r 0) := by
    rw [Dot.runs_is]
    unfold rowRuns
    congr 2
    funext c
    exact (R.2 r c).symm
  show (Sh56Neutral.told ⟨(((Sh56.runs w h (Sh56.page w h x) r).length : Nat) : Int), [(Sh56.runs w h (Sh56.page w h x) r).map fun p => p.1, (Sh56.runs w h (Sh56.page w h x) r).map fun p => p.2]⟩).map V.int = _
  rw [e, told_two, List.length_map, List.length_map]
  rfl
theorem ch_take {w row i : Nat} (hi : i < w + 1) : (List.range (i + 1)).filter (fun c => (row ^^^ row * 2 ^ 1).testBit c) = (List.range i).filter (fun c => (row ^^^ row * 2 ^ 1).testBit c) ++ if (row ^^^ row * 2 ^ 1).testBit i = true then [i] else [] := by
  rw [List.range_succ, List.filter_append, List.filter_cons]
  rfl
theorem ch_len (w row : Nat) : (Dot.chRow w row).length ≤ w + 1 := by
  unfold Dot.chRow
  refine Nat.le_trans (List.length_filter_le ..) ?_
  rw [List.length_range]
  exact Nat.le_refl _
end DotH

namespace DotH
open PySem PySem.Spec PyProof.Rows L2
/-! ### lists cut, turned round, read from the end -/
theorem cut_tail (v : V) (l : List V) : cutV (v :: l) (some 1) none = l := by
  unfold cutV
  have e : HT.sIx (v :: l).length 0 (some 1) = 1 := by
    have := HT.sIx_nat (v :: l).length 0 1
    rw [show min 1 (v :: l).length = 1 by simp] at this
    exact this
  rw [e, HT.sIx_none]
  show List.take (l.length + 1 - 1) l = l
  exact List.take_of_length_le (by omega)
theorem rev_vl (l : List Nat) : (vl l).reverse = vl l.reverse := (List.map_reverse ..).symm
theorem at_last {l : List Nat} (h : l ≠ []) : atI (vl l) (-1) = some (V.int ((l.getD (l.length - 1) 0 : Nat) : Int)) := by
  have hl : 0 < l.length := List.length_pos_iff.mpr h
  unfold atI ixN
  rw [vl_len, if_neg (by decide), if_pos (by omega), show (-1 + (l.length : Int)).toNat = l.length - 1 by omega]
  exact at_vl (getD_at (by omega))
theorem pe_revK {X : Cx} {K : PySem.W.Frag} {e : Expr} {te : TE} {k : Nat} {p1 p2 p3 pos : Pos} (hK : X.K = K) (he : PE X e te) : PE X (.Subscript e (.Slice none none (some (.UnaryOp .USub (.Constant (.int 1) k p1) p2)) p3) pos) (tRevL K te) := by
  subst hK
  exact pe_revL he
/-! ### open, close: what is told is handed in again -/
theorem open_two {dx dy w h : Nat} {x : List Nat} (hz : Sh56.aroundOk dx dy w h = true) (hx : ∀ y ∈ x, y < 2 ^ 32) :
    (PySh56.do_thicker dx dy w h (il (Dot.outPage w (Dot.thinPage w h dx dy (Dot.pfw w h x))))).map V.int = (PySh56.do_open dx dy w h (il x)).map V.int := by
  rw [thicker_ok hz (Dot.outPage_lt _ _), open_ok hz hx, Dot.pfw_out (thin_len _ _ _ _ _) (thin_lt _ _ _ _ _)]
theorem close_two {dx dy w h : Nat} {x : List Nat} (hz : Sh56.aroundOk dx dy w h = true) (hx : ∀ y ∈ x, y < 2 ^ 32) :
    (PySh56.do_thinner dx dy w h (il (Dot.outPage w (Dot.thickPage w h dx dy (Dot.pfw w h x))))).map V.int = (PySh56.do_close dx dy w h (il x)).map V.int := by
  rw [thinner_ok hz (Dot.outPage_lt _ _), close_ok hz hx, Dot.pfw_out (thick_len _ _ _ _ _) (thick_lt _ _ _ _ _)]
/-! ### double -/
def spDbl (K : PySem.W.Frag) : Sp := fun vs H Q _ => ∃ row w : Nat, vs = [.int (row : Int), .int (w : Int)] ∧ w ≤ 256 ∧ ∀ H', Same H H' → Q (.int ((Dot.dblRow w row : Nat) : Int)) H'
def spDoDouble := spDoW PySh56.do_double
theorem dblPl_len (w row : Nat) : (Dot.dblPl w row).length = 2 * w := by simp [Dot.dblPl]
theorem dblPage_len (w h : Nat) (rows : List Nat) : (Dot.dblPage w h rows).length = 2 * h := by simp [Dot.dblPage]
theorem double_is (w h : Nat) (x : List Nat) : PySh56.do_double w h (il x) = Sh56Neutral.told (Sh56.answer (if Sh56.sized w h = true then .double w h (Sh56Neutral.nats (il x)) else .bad)) := rfl
theorem double_bad {w h : Nat} {x : List Nat} (hz : Sh56.sized w h = false) : (PySh56.do_double w h (il x)).map V.int = [V.int (-2)] := by rw [double_is, hz]; rfl
theorem double_ok {w h : Nat} {x : List Nat} (hz : Sh56.sized w h = true) (hx : ∀ y ∈ x, y < 2 ^ 32) : (PySh56.do_double w h (il x)).map V.int = vl (0 :: Dot.outPage (2 * w) (Dot.dblPage w h (Dot.pfw w h x))) := by
  rw [double_is, nats_cast, hz, if_pos rfl]
  show (Sh56Neutral.told (Sh56.done [Sh56.words (2 * w) (2 * h) (Sh56.doubled w h (Sh56.page w h x))])).map V.int = _
  rw [told_one, ← Dot.out_words (Dot.dbl_rep (Dot.pfw_rep hx))]
/-! ### the least box -/
def spDoBoxL := spDoW PySh56.do_box
theorem box_is (w h : Nat) (x : List Nat) : PySh56.do_box w h (il x) = Sh56Neutral.told (Sh56.answer (if Sh56.sized w h = true then .box w h (Sh56Neutral.nats (il x)) else .bad)) := rfl
theorem box_bad {w h : Nat} {x : List Nat} (hz : Sh56.sized w h = false) : (PySh56.do_box w h (il x)).map V.int = [V.int (-2)] := by rw [box_is, hz]; rfl
theorem box_no {w h : Nat} {x : List Nat} (hz : Sh56.sized w h = true) (hx : ∀ y ∈ x, y < 2 ^ 32) (e : Dot.rowsOf h (Dot.pfw w h x) = []) : (PySh56.do_box w h (il x)).map V.int = [V.int (-6)] := by
  rw [box_is, nats_cast, hz, if_pos rfl]
  show (Sh56Neutral.told (match Sh56.box w h (Sh56.page w h x) with | none => Sh56.fail (-6) | some l => Sh56.done [l])).map V.int = _
  have R := Dot.pfw_rep (w := w) (h := h) hx
  rw [Dot.page_each] at R ⊢
  rw [Dot.box_none R e]
  rfl
theorem box_ok {w h : Nat} {x : List Nat} (hz : Sh56.sized w h = true) (hx : ∀ y ∈ x, y < 2 ^ 32) (e : Dot.rowsOf h (Dot.pfw w h x) ≠ []) : (PySh56.do_box w h (il x)).map V.int = vl (0 :: Dot.boxL w h (Dot.pfw w h x)) := by
  rw [box_is, nats_cast, hz, if_pos rfl]
  show (Sh56Neutral.told (match Sh56.box w h (Sh56.page w h x) with | none => Sh56.fail (-6) | some l => Sh56.done [l])).map V.int = _
  have R := Dot.pfw_rep (w := w) (h := h) hx
  rw [Dot.page_each] at R ⊢
  rw [Dot.box_some R e]
  exact told_one _
theorem cols_ok {w h : Nat} {x : List Nat} (hx : ∀ y ∈ x, y < 2 ^ 32) (e : Dot.rowsOf h (Dot.pfw w h x) ≠ []) : Dot.colsOf w (Dot.pfw w h x) ≠ [] := Dot.cols_some (Dot.pfw_rep hx) e
/-! ### cut -/
def spDoCut (K : PySem.W.Frag) : Sp := fun vs H Q _ => ∃ (x0 y0 u v w h : Nat) (a : Addr) (x : List Nat), vs = [.int (x0 : Int), .int (y0 : Int), .int (u : Int), .int (v : Int), .int (w : Int), .int (h : Int), .ref a] ∧ SqL K H a (vl x) ∧ (∀ y ∈ x, y < 2 ^ 32) ∧
  ∀ (H' : Hp) (p : Addr), H' p = some (.lst ((PySh56.do_cut x0 y0 u v w h (il x)).map V.int)) → Q (.ref p) H'
theorem cut_is (x0 y0 u v w h : Nat) (x : List Nat) : PySh56.do_cut x0 y0 u v w h (il x) = Sh56Neutral.told (Sh56.answer (if Sh56.cutOk x0 y0 u v w h = true then .cut x0 y0 u v w h (Sh56Neutral.nats (il x)) else .bad)) := rfl
theorem cut_bad {x0 y0 u v w h : Nat} {x : List Nat} (hz : Sh56.cutOk x0 y0 u v w h = false) : (PySh56.do_cut x0 y0 u v w h (il x)).map V.int = [V.int (-2)] := by rw [cut_is, hz]; rfl
theorem cutOk_iff {x0 y0 u v w h : Nat} : Sh56.cutOk x0 y0 u v w h = true ↔ ((1 ≤ w ∧ w ≤ 256) ∧ (1 ≤ h ∧ h ≤ 256)) ∧ (1 ≤ u ∧ x0 + u ≤ w) ∧ (1 ≤ v ∧ y0 + v ≤ h) := by
  unfold Sh56.cutOk
  rw [Bool.and_eq_true, sized_iff]
  unfold Sh56.among
  simp only [Bool.and_eq_true, decide_eq_true_eq]
  omega
theorem cut_cond (x0 y0 u v w h : Nat) : (Sh56.sized w h && ((decide ((1 : Int) ≤ (u : Int)) && decide ((u : Int) ≤ (w : Int) - (x0 : Int))) && (decide ((1 : Int) ≤ (v : Int)) && decide ((v : Int) ≤ (h : Int) - (y0 : Int))))) = Sh56.cutOk x0 y0 u v w h := by
  rw [Bool.eq_iff_iff, cutOk_iff, Bool.and_eq_true, sized_iff]
  simp only [Bool.and_eq_true, decide_eq_true_eq]
  omega
theorem cut_ok {x0 y0 u v w h : Nat} {x : List Nat} (hz : Sh56.cutOk x0 y0 u v w h = true) (hx : ∀ y ∈ x, y < 2 ^ 32) : (PySh56.do_cut x0 y0 u v w h (il x)).map V.int = vl (0 :: Dot.outPage u (Dot.cutRows x0 u (((Dot.pfw w h x).drop y0).take v))) := by
  rw [cut_is, nats_cast, hz, if_pos rfl]
  show (Sh56Neutral.told (Sh56.done [Sh56.words u v (Sh56.cut w h x0 y0 u v (Sh56.page w h x))])).map V.int = _
  rw [told_one, ← Dot.out_words (Dot.cut_rep (Dot.pfw_rep hx) (cutOk_iff.mp hz).2.2.2)]
theorem cutRows_len (x0 u : Nat) (rows : List Nat) : (Dot.cutRows x0 u rows).length = rows.length := by simp [Dot.cutRows]
/-! ### apart -/
def spDoApart (K : PySem.W.Frag) : Sp := fun vs H Q _ => ∃ (w h : Nat) (a1 a2 : Addr) (x y : List Nat), vs = [.int (w : Int), .int (h : Int), .ref a1, .ref a2] ∧ (SqL K H a1 (vl x) ∧ SqL K H a2 (vl y)) ∧ ((∀ n ∈ x, n < 2 ^ 32) ∧ (∀ n ∈ y, n < 2 ^ 32)) ∧
  ∀ (H' : Hp) (p : Addr), H' p = some (.lst ((PySh56.do_apart w h (il x) (il y)).map V.int)) → Q (.ref p) H'
theorem apart_is (w h : Nat) (x y : List Nat) : PySh56.do_apart w h (il x) (il y) = Sh56Neutral.told (Sh56.answer (if Sh56.sized w h = true then .apart w h (Sh56Neutral.nats (il x)) (Sh56Neutral.nats (il y)) else .bad)) := rfl
theorem apart_bad {w h : Nat} {x y : List Nat} (hz : Sh56.sized w h = false) : (PySh56.do_apart w h (il x) (il y)).map V.int = [V.int (-2)] := by rw [apart_is, hz]; rfl
theorem apart_ok {w h : Nat} {x y : List Nat} (hz : Sh56.sized w h = true) (hx : ∀ n ∈ x, n < 2 ^ 32) (hy : ∀ n ∈ y, n < 2 ^ 32) : (PySh56.do_apart w h (il x) (il y)).map V.int = vl [(Dot.apartL w h (Dot.pfw w h x) (Dot.pfw w h y)).sum] := by
  rw [apart_is, nats_cast, nats_cast, hz, if_pos rfl]
  show (Sh56Neutral.told (Sh56.value (Sh56.many (Sh56.three 0x3C (Sh56.page w h x) (Sh56.page w h y) [])))).map V.int = _
  have R := Dot.pfw_rep (w := w) (h := h) hx
  have R' := Dot.pfw_rep (w := w) (h := h) hy
  rw [Dot.page_each] at R R'
  rw [Dot.page_each, Dot.page_each, ← Dot.apart_is R R']
  rfl
theorem apartL_len (w h : Nat) (a b : List Nat) : (Dot.apartL w h a b).length = h := by simp [Dot.apartL]
/-! ### one word of three -/
def spDoTable1 (K : PySem.W.Frag) : Sp := fun vs H Q _ => ∃ t a b c : Nat, vs = [.int (t : Int), .int (a : Int), .int (b : Int), .int (c : Int)] ∧ a < 2 ^ 32 ∧
  ∀ (H' : Hp) (p : Addr), H' p = some (.lst ((PySh56.do_table1 t a b c).map V.int)) → Q (.ref p) H'
theorem table1_is (t a b c : Nat) : PySh56.do_table1 t a b c = Sh56Neutral.told (Sh56.answer (.table1 (t % 256) a b c)) := rfl
theorem table1_ok {t a b c : Nat} (ha : a < 2 ^ 32) : (PySh56.do_table1 t a b c).map V.int = vl [Dot.threeRow t 4294967295 a b c] := by
  rw [table1_is]
  show (Sh56Neutral.told (Sh56.value (((List.range 32).map fun j => if Sh56.byTable (t % 256) (a / 2 ^ j % 2 == 1) (b / 2 ^ j % 2 == 1) (c / 2 ^ j % 2 == 1) = true then 2 ^ j else 0).sum))).map V.int = _
  rw [Dot.table1_is ha]
  rfl
end DotH

namespace DotR
open PySem PySem.Spec PyProof.Rows L2 DotH
open PySem.W (Codec)
def top (i : Nat) : Stmt := PySem.Challenge.pw_dotpages_s14_do_turn.main.body.getD i (.Pass ⟨0, 0, 0, 0⟩)
section
variable {P : Program} {w : World} {K : PySem.W.Frag} {mg : Str → Option Value} {base : Heap}
abbrev s_size_fits : Stmt := top 4
theorem sc_size_fits : FnScope ["w", "h"] ["w", "h"] (defScope s_size_fits) := ⟨rfl, rfl, rfl, by decide +kernel, rfl, by decide +kernel, by decide +kernel⟩
theorem ok_size_fits {f : Addr} {fd : FuncData} (F : Fun K "size_fits" "size_fits" s_size_fits f fd) {t_LONGEST_SIDE : Tok} (m_LONGEST_SIDE : mg "LONGEST_SIDE" = some (.int 256 t_LONGEST_SIDE)) : FnOk P w K mg base CX0 1 f fd ["w", "h"] (spSize K) := by
  refine F.ok sc_size_fits (fun vs H Q E h => ?_) (fun cdv A outer s H vs Q E hr h => ?_)
  · obtain ⟨w, h, rfl, _⟩ := h
    rfl
  · obtain ⟨w, h, rfl, q⟩ := h
    refine ⟨_, pss_one (ps_ret (pe_and (pe_chain op_le op_le pe_int (pv 0) (pe_glob (v := V.int 256) (by rfl) m_LONGEST_SIDE ⟨_, rfl⟩)) (pe_one (pe_chain op_le op_le pe_int (pv 1) (pe_glob (v := V.int 256) (by rfl) m_LONGEST_SIDE ⟨_, rfl⟩))))), ?_⟩
    refine rd_and (p := decide ((1 : Int) ≤ (w : Int)) && decide ((w : Int) ≤ 256)) (q := decide ((1 : Int) ≤ (h : Int)) && decide ((h : Int) ≤ 256)) (fun Q' h' => rd_chain (fun _ z => ⟨_, rfl, z⟩) h') (fun Q' h' => rd_chain (fun _ z => ⟨_, rfl, z⟩) h') ?_
    rw [sized_int]
    exact q
abbrev s_words_in_row : Stmt := top 5
theorem sc_words_in_row : FnScope ["w"] ["w"] (defScope s_words_in_row) := ⟨rfl, rfl, rfl, by decide +kernel, rfl, by decide +kernel, by decide +kernel⟩
theorem ok_words_in_row {f : Addr} {fd : FuncData} (F : Fun K "words_in_row" "words_in_row" s_words_in_row f fd) {t_WORD_BITS : Tok} (m_WORD_BITS : mg "WORD_BITS" = some (.int 32 t_WORD_BITS)) : FnOk P w K mg base CX0 1 f fd ["w"] (spWords K) := by
  refine F.ok sc_words_in_row (fun vs H Q E h => ?_) (fun cdv A outer s H vs Q E hr h => ?_)
  · obtain ⟨w, rfl, _⟩ := h
    rfl
  · obtain ⟨w, rfl, q⟩ := h
    refine ⟨_, pss_one (ps_ret (pe_op op_fdivNN (pe_op op_subN (pe_op op_addN (pv 0) (pe_glob (v := V.int 32) (by rfl) m_WORD_BITS ⟨_, rfl⟩)) pe_int) (pe_glob (v := V.int 32) (by rfl) m_WORD_BITS ⟨_, rfl⟩))), ?_⟩
    exact ⟨_, rfl, w, 32, rfl, rfl, w + 32, 1, rfl, rfl, by omega, w + 32 - 1, 32, rfl, rfl, ⟨by decide, by decide⟩, q⟩
abbrev s_black_row : Stmt := top 6
theorem sc_black_row : FnScope ["w"] ["w"] (defScope s_black_row) := ⟨rfl, rfl, rfl, by decide +kernel, rfl, by decide +kernel, by decide +kernel⟩
theorem ok_black_row {f : Addr} {fd : FuncData} (F : Fun K "black_row" "black_row" s_black_row f fd) : FnOk P w K mg base CX0 1 f fd ["w"] (spBlack K) := by
  refine F.ok sc_black_row (fun vs H Q E h => ?_) (fun cdv A outer s H vs Q E hr h => ?_)
  · obtain ⟨w, rfl, _⟩ := h
    rfl
  · obtain ⟨w, rfl, hw, q⟩ := h
    refine ⟨_, pss_one (ps_ret (pe_op op_sub (pe_op op_oneShl pe_int (pv 0)) pe_int)), ?_⟩
    refine ⟨_, rfl, w, rfl, rfl, by omega, _, _, rfl, rfl, ?_⟩
    rw [black_cast] at q
    exact q
abbrev s_row_from_words : Stmt := top 7
theorem sc_row_from_words : FnScope ["words", "row", "k", "word"] ["words"] (defScope s_row_from_words) := ⟨rfl, rfl, rfl, by decide +kernel, rfl, by decide +kernel, by decide +kernel⟩
theorem ok_row_from_words {f : Addr} {fd : FuncData} (F : Fun K "row_from_words" "row_from_words" s_row_from_words f fd) {t_WORD_BITS : Tok} (m_WORD_BITS : mg "WORD_BITS" = some (.int 32 t_WORD_BITS)) (m_enumerate : mg "enumerate" = none) : FnOk P w K mg base CX0 1 f fd ["words"] (spRfw K) := by
  refine F.ok sc_row_from_words (fun vs H Q E h => ?_) (fun cdv A outer s H vs Q E hr h => ?_)
  · obtain ⟨a, ws, rfl, _⟩ := h
    rfl
  · obtain ⟨a, ws, rfl, hS, hx, hl, q⟩ := h
    refine ⟨_, pss_cons (ps_set (i := 1) sc_row_from_words.nd rfl (.inl rfl) pe_int)
      (pss_cons (ps_for PassesOwn.never rfl (pi_enum (by rfl) m_enumerate (pa_cons (pv 0) pa_nil)) (pg_tup rfl (pgs_cons (pg_name (i := 2) sc_row_from_words.nd rfl (.inl rfl)) (pgs_cons (pg_name (i := 3) sc_row_from_words.nd rfl (.inl rfl)) pgs_nil)))
        (pss_one (ps_set (i := 1) sc_row_from_words.nd rfl (.inl rfl) (pe_op dn_or (pv 1) (pe_op dn_shl (pv 3) (pe_op op_mulN (pe_glob (v := V.int 32) (by rfl) m_WORD_BITS ⟨_, rfl⟩) (pv 2)))))))
      (pss_one (ps_ret (pv 1)))), ?_⟩
    refine ⟨_, rfl, a, vl ws, rfl, hS, for_enum (K := K) (a := a) (xs := vl ws) (fun i σ H' => ∃ v2 v3, σ = [some (.ref a), some (.int ((Dot.orG 0 (fun k => ws.getD k 0 * 2 ^ (32 * k)) i : Nat) : Int)), v2, v3] ∧ Same H H')
      ⟨none, none, rfl, Same.refl H⟩ (fun i σ H' _ ⟨_, _, _, s5⟩ => s5.seq hS) ?_ ?_⟩
    · rintro i y T σ H' hi nT ⟨v2, v3, rfl, s5⟩
      obtain ⟨n, hn, rfl⟩ := vl_at hi
      have hib : i < ws.length := (List.getElem?_eq_some_iff.mp hn).1
      have hnb : n < 2 ^ 1024 := Nat.lt_of_lt_of_le (hx n (List.mem_of_getElem? hn)) (Nat.pow_le_pow_right (by decide) (by decide))
      refine ⟨T, _, rfl, .inl (.inl upd_same), rfl, _, _, rfl, _, _, rfl, rfl, ?_⟩
      refine ⟨_, rfl, _, rfl, _, rfl, 32, i, rfl, rfl, by decide, n, 32 * i, rfl, rfl, ⟨hnb, by omega⟩, _, _, rfl, rfl, ?_⟩
      refine ⟨some (.int (i : Int)), some (.int (n : Int)), ?_, s5.trans (same_upd nT)⟩
      rw [Dot.orG_succ, getD_of hn]
      rfl
    · rintro σ H' ⟨v2, v3, rfl, s5⟩
      rw [List.length_map]
      exact ⟨_, rfl, q _ s5⟩
abbrev s_page_from_words : Stmt := top 8
theorem sc_page_from_words : FnScope ["w", "h", "x", "width", "black", "r"] ["w", "h", "x"] (defScope s_page_from_words) := ⟨rfl, rfl, rfl, by decide +kernel, rfl, by decide +kernel, by decide +kernel⟩
theorem ok_page_from_words {f : Addr} {fd : FuncData} (F : Fun K "page_from_words" "page_from_words" s_page_from_words f fd) {f_words_in_row : Addr} {fd_words_in_row : FuncData} (G_words_in_row : FnOk P w K mg base CX0 1 f_words_in_row fd_words_in_row ["w"] (spWords K)) (m_words_in_row : mg "words_in_row" = some (.ref f_words_in_row)) (p_words_in_row : PySem.W.keepIn K (.ref f_words_in_row) = true) (b_words_in_row : Binds K fd_words_in_row ["w"] []) {f_black_row : Addr} {fd_black_row : FuncData} (G_black_row : FnOk P w K mg base CX0 1 f_black_row fd_black_row ["w"] (spBlack K)) (m_black_row : mg "black_row" = some (.ref f_black_row)) (p_black_row : PySem.W.keepIn K (.ref f_black_row) = true) (b_black_row : Binds K fd_black_row ["w"] []) {f_row_from_words : Addr} {fd_row_from_words : FuncData} (G_row_from_words : FnOk P w K mg base CX0 1 f_row_from_words fd_row_from_words ["words"] (spRfw K)) (m_row_from_words : mg "row_from_words" = some (.ref f_row_from_words)) (p_row_from_words : PySem.W.keepIn K (.ref f_row_from_words) = true) (b_row_from_words : Binds K fd_row_from_words ["words"] []) (m_range : mg "range" = none) : FnOk P w K mg base CX0 2 f fd ["w", "h", "x"] (spPfw K) := by
  refine F.ok sc_page_from_words (fun vs H Q E h => ?_) (fun cdv A outer s H vs Q E hr h => ?_)
  · obtain ⟨w, h, a, x, rfl, _⟩ := h
    rfl
  · obtain ⟨w, h, a, x, rfl, ⟨hw, hh⟩, hS, hx, q⟩ := h
    refine ⟨_, pss_cons (ps_set (i := 3) sc_page_from_words.nd rfl (.inr rfl) (pe_call G_words_in_row (hr.mono (by decide)) (by rfl) m_words_in_row p_words_in_row b_words_in_row .nil pass0 (pa_cons (pv 0) pa_nil)))
      (pss_cons (ps_set (i := 4) sc_page_from_words.nd rfl (.inr rfl) (pe_call G_black_row (hr.mono (by decide)) (by rfl) m_black_row p_black_row b_black_row .nil pass0 (pa_cons (pv 0) pa_nil)))
      (pss_one (ps_ret (pe_lc (own := [("r", 5)]) (g := gName 5) (tt := tYes) rfl sc_page_from_words.nd (pi_range1 (by rfl) m_range (pa_cons (pv 1) pa_nil)) (blkOk_by (own := [("r", 5)]) (N := ["w", "h", "x", "width", "black", "r"]) (sc := defScope s_page_from_words) (by decide +kernel))
        (fun _ _ _ _ _ => pg_name (i := 5) sc_page_from_words.nd rfl (Or.inl rfl)) (fun _ _ _ _ _ => pts_nil)
        (fun _ _ _ _ _ => pe_op dn_and (pe_call G_row_from_words (hr.mono (by decide)) (by rfl) m_row_from_words p_row_from_words b_row_from_words .nil pass0 (pa_cons (pe_slice (r := rSlL K) sl_list (pv 2) (po_some (pe_op op_mulN (pv 5) (pv 3))) (po_some (pe_op op_mulN (pe_op op_addN (pv 5) pe_int) (pv 3)))) pa_nil)) (pv 4)))))), ?_⟩
    have hwd : Sh56.wide w ≤ 8 := by unfold Sh56.wide; omega
    refine ⟨_, rfl, w, rfl, ?_⟩
    refine ⟨_, rfl, w, rfl, by omega, ?_⟩
    refine ⟨_, rfl, (h : Int), rfl, by omega, by omega, fun D nD => ?_⟩
    generalize hwe : Sh56.wide w = wd at hwd
    refine lc_range (lo := 0) (n := h) (fun i H' => Same H H' ∧ H' D = some (.lst (vl ((Dot.pfw w h x).take i)))) ⟨same_upd nD, upd_same⟩ ?_ ?_
    · rintro i H' hi ⟨s5, hD⟩
      rw [Int.zero_add]
      refine ⟨rfl, ?_⟩
      rw [show (tYes : TT) = fun _ H Q => Q true H from rfl]; refine iteT ?_
      refine ⟨_, rfl, _, rfl, _, rfl, i, wd, rfl, rfl, by omega, _, rfl, _, rfl, i, 1, rfl, rfl, _, rfl, i + 1, wd, rfl, rfl, by omega, _, rfl, a, vl x, rfl, s5.seq hS, fun p np => ?_⟩
      rw [cut_nat, show (i + 1) * wd - i * wd = wd by rw [Nat.succ_mul]; omega]
      have s6 := s5.trans (same_upd (o := .lst (vl ((x.drop (i * wd)).take wd))) np)
      refine ⟨p, _, rfl, SqL.of upd_same, fun y hy => hx y (List.mem_of_mem_drop (List.mem_of_mem_take hy)), ?_, fun H7 s7 => ?_⟩
      · rw [List.length_take]
        omega
      refine ⟨_, rfl, _, _, rfl, rfl, ?_⟩
      refine ⟨_, s7 _ _ (by rw [upd_ne (ne_of_none hD np)]; exact hD), ?_, same_put (s6.trans s7) nD, ?_⟩
      · refine small_lt ?_
        rw [List.length_map, List.length_take]
        omega
      · rw [upd_same]
        have e : (Dot.pfw w h x).take (i + 1) = (Dot.pfw w h x).take i ++ [Dot.rfw ((x.drop (i * Sh56.wide w)).take (Sh56.wide w)) &&& (2 ^ w - 1)] := take_map hi
        rw [e, vl_app, hwe]
    · rintro H' ⟨s5, hD⟩
      rw [take_all (Dot.pfw_len w h x)] at hD
      exact q _ D s5 nD hD
abbrev s_words_from_page : Stmt := top 9
theorem sc_words_from_page : FnScope ["w", "page", "words", "row", "k"] ["w", "page"] (defScope s_words_from_page) := ⟨rfl, rfl, rfl, by decide +kernel, rfl, by decide +kernel, by decide +kernel⟩
theorem ok_words_from_page {f : Addr} {fd : FuncData} (F : Fun K "words_from_page" "words_from_page" s_words_from_page f fd) {f_words_in_row : Addr} {fd_words_in_row : FuncData} (G_words_in_row : FnOk P w K mg base CX0 1 f_words_in_row fd_words_in_row ["w"] (spWords K)) (m_words_in_row : mg "words_in_row" = some (.ref f_words_in_row)) (p_words_in_row : PySem.W.keepIn K (.ref f_words_in_row) = true) (b_words_in_row : Binds K fd_words_in_row ["w"] []) {t_WORD_BITS : Tok} (m_WORD_BITS : mg "WORD_BITS" = some (.int 32 t_WORD_BITS)) {t_WORD_FULL : Tok} (m_WORD_FULL : mg "WORD_FULL" = some (.int 4294967295 t_WORD_FULL)) (m_range : mg "range" = none) : FnOk P w K mg base CX0 2 f fd ["w", "page"] (spWfp K) := by
  refine F.ok sc_words_from_page (fun vs H Q E h => ?_) (fun cdv A outer s H vs Q E hr h => ?_)
  · obtain ⟨w, a, rows, rfl, _⟩ := h
    rfl
  · obtain ⟨w, a, rows, rfl, hS, ⟨hw, hl⟩, q⟩ := h
    refine ⟨_, pss_cons (ps_set (i := 2) sc_words_from_page.nd rfl (.inl rfl) (pe_lst pa_nil))
      (pss_cons (ps_for PassesOwn.never rfl (pi_list (pv 1)) (pg_name (i := 3) sc_words_from_page.nd rfl (.inl rfl))
        (pss_one (ps_for PassesOwn.never rfl (pi_range1 (by rfl) m_range (pa_cons (pe_call G_words_in_row (hr.mono (by decide)) (by rfl) m_words_in_row p_words_in_row b_words_in_row .nil pass0 (pa_cons (pv 0) pa_nil)) pa_nil)) (pg_name (i := 4) sc_words_from_page.nd rfl (.inl rfl))
          (pss_one (ps_expr (pe_bm PySem.F.plainAttrs_list PySem.F.slot_list_append PySem.F.type_list_append mt_append (pv 2) (pa_cons (pe_op dn_and (pe_op dn_shr (pv 3) (pe_op op_mulN (pe_glob (v := V.int 32) (by rfl) m_WORD_BITS ⟨_, rfl⟩) (pv 4))) (pe_glob (v := V.int 4294967295) (by rfl) m_WORD_FULL ⟨_, rfl⟩)) pa_nil)))))))
      (pss_one (ps_ret (pv 2)))), ?_⟩
    refine ⟨Nat.zero_le _, fun l nl => ?_⟩
    have s1 : Same H (upd H l (.lst [])) := same_upd nl
    refine ⟨_, rfl, a, rfl, ⟨_, s1.seq hS⟩, for_list (K := K) (a := a) (xs := vl rows) (fun i σ H' => ∃ v3 v4, σ = [some (.int (w : Int)), some (.ref a), some (.ref l), v3, v4] ∧ Same H H' ∧ H' l = some (.lst (vl (Dot.outPage w (rows.take i)))))
      ⟨none, none, rfl, s1, upd_same⟩ (fun i σ H' _ ⟨_, _, _, s5, _⟩ => s5.seq hS) ?_ ?_⟩
    · rintro i y σ H' hi ⟨v3, v4, rfl, s5, hq⟩
      obtain ⟨n, hn, rfl⟩ := vl_at hi
      have hwd : Sh56.wide w ≤ 16 := by unfold Sh56.wide; omega
      refine ⟨_, rfl, w, rfl, ((Sh56.wide w : Nat) : Int), rfl, by omega, by omega, for_range (lo := 0) (n := Sh56.wide w) (fun k σ H' => ∃ v4, σ = [some (.int (w : Int)), some (.ref a), some (.ref l), some (.int (n : Int)), v4] ∧ Same H H' ∧ H' l = some (.lst (vl (Dot.outPage w (rows.take i) ++ (Dot.outRow w n).take k))))
        ⟨v4, rfl, s5, by rw [List.take_zero, List.append_nil]; exact hq⟩ ?_ ?_⟩
      · rintro k σ H2 hk ⟨v4, rfl, s6, hq6⟩
        rw [Int.zero_add]
        refine ⟨_, rfl, .inl ⟨rfl, _, SqL.of hq6⟩, _, rfl, _, rfl, 32, k, rfl, rfl, by decide, n, 32 * k, rfl, rfl, _, 4294967295, rfl, rfl, l, _, _, rfl, rfl, hq6, out_small' hw hl, ?_⟩
        refine ⟨_, rfl, same_put s6 nl, ?_⟩
        rw [upd_same]
        have e : (Dot.outRow w n).take (k + 1) = (Dot.outRow w n).take k ++ [n / 2 ^ (32 * k) &&& 4294967295] := take_map hk
        rw [e, ← List.append_assoc, vl_app]
      · rintro σ H2 ⟨v4, rfl, s6, hq6⟩
        refine ⟨_, _, rfl, s6, ?_⟩
        rw [take_all (outRow_len w n)] at hq6
        rw [hq6, out_app w hn]
    · rintro σ H' ⟨v3, v4, rfl, s5, hq⟩
      rw [List.length_map, List.take_length] at hq
      exact ⟨_, rfl, q _ l s5 nl hq⟩
abbrev s_answer_page : Stmt := top 10
theorem sc_answer_page : FnScope ["w", "page"] ["w", "page"] (defScope s_answer_page) := ⟨rfl, rfl, rfl, by decide +kernel, rfl, by decide +kernel, by decide +kernel⟩
theorem ok_answer_page {f : Addr} {fd : FuncData} (F : Fun K "answer_page" "answer_page" s_answer_page f fd) {f_words_from_page : Addr} {fd_words_from_page : FuncData} (G_words_from_page : FnOk P w K mg base CX0 2 f_words_from_page fd_words_from_page ["w", "page"] (spWfp K)) (m_words_from_page : mg "words_from_page" = some (.ref f_words_from_page)) (p_words_from_page : PySem.W.keepIn K (.ref f_words_from_page) = true) (b_words_from_page : Binds K fd_words_from_page ["w", "page"] []) : FnOk P w K mg base CX0 3 f fd ["w", "page"] (spAns K) := by
  refine F.ok sc_answer_page (fun vs H Q E h => ?_) (fun cdv A outer s H vs Q E hr h => ?_)
  · obtain ⟨w, a, rows, rfl, _⟩ := h
    rfl
  · obtain ⟨w, a, rows, rfl, hS, ⟨hw, hl⟩, q⟩ := h
    refine ⟨_, pss_one (ps_ret (pe_op op_cat (pe_lst (pa_cons pe_int pa_nil)) (pe_call G_words_from_page (hr.mono (by decide)) (by rfl) m_words_from_page p_words_from_page b_words_from_page .nil pass0 (pa_cons (pv 0) (pa_cons (pv 1) pa_nil))))), ?_⟩
    refine ⟨one_line, fun l nl => ?_⟩
    have s1 : Same H (upd H l (.lst [.int 0])) := same_upd nl
    refine ⟨_, rfl, _, rfl, w, a, rows, rfl, s1.seq hS, ⟨hw, hl⟩, fun H2 p s2 np e2 => ?_⟩
    refine ⟨l, p, _, _, rfl, rfl, s2 _ _ upd_same, e2, ?_, fun r nr => ?_⟩
    · refine le_line ?_
      have := outPage_small hw hl
      rw [vl_len]
      show 1 + _ ≤ _
      omega
    · refine q _ r ((s1.trans s2).trans (same_upd nr)) ((s1.trans s2).free nr) ?_
      rw [upd_same]
      rfl
abbrev s_column_places : Stmt := top 11
theorem sc_column_places : FnScope ["page", "c", "row"] ["page", "c"] (defScope s_column_places) := ⟨rfl, rfl, rfl, by decide +kernel, rfl, by decide +kernel, by decide +kernel⟩
theorem ok_column_places {f : Addr} {fd : FuncData} (F : Fun K "column_places" "column_places" s_column_places f fd) : FnOk P w K mg base CX0 1 f fd ["page", "c"] (spColPl K) := by
  refine F.ok sc_column_places (fun vs H Q E h => ?_) (fun cdv A outer s H vs Q E hr h => ?_)
  · obtain ⟨a, rows, c, rfl, _⟩ := h
    rfl
  · obtain ⟨a, rows, c, rfl, hS, hl, q⟩ := h
    refine ⟨_, pss_one (ps_ret (pe_lc (own := [("row", 2)]) (g := gName 2) (tt := tYes) rfl sc_column_places.nd (pi_list (pv 0)) (blkOk_by (own := [("row", 2)]) (N := ["page", "c", "row"]) (sc := defScope s_column_places) (by decide +kernel)) (fun _ _ _ _ _ => pg_name (i := 2) sc_column_places.nd rfl (Or.inl rfl)) (fun _ _ _ _ _ => pts_nil) (fun _ _ _ _ _ => pe_op dn_and (pe_op dn_shr (pv 2) (pv 1)) pe_int))), ?_⟩
    refine ⟨_, rfl, a, rfl, ⟨_, hS⟩, fun D nD => ?_⟩
    refine lc_list (K := K) (a := a) (xs := vl rows) (fun i H' => Same H H' ∧ H' D = some (.lst (vl ((Dot.colPl rows c).take i)))) ⟨same_upd nD, upd_same⟩ (fun i H' _ ⟨s5, _⟩ => s5.seq hS) ?_ ?_
    · rintro i y H' hi ⟨s5, hD⟩
      obtain ⟨n, hn, rfl⟩ := vl_at hi
      refine ⟨rfl, ?_⟩
      rw [show (tYes : TT) = fun _ H Q => Q true H from rfl]; refine iteT ?_
      refine ⟨_, rfl, _, rfl, n, c, rfl, rfl, _, 1, rfl, rfl, ?_⟩
      refine ⟨_, hD, ?_, same_put s5 nD, ?_⟩
      · refine small_lt ?_
        rw [List.length_map, List.length_take, colPl_len]
        omega
      · rw [upd_same]
        have e : (Dot.colPl rows c).take (i + 1) = (Dot.colPl rows c).take i ++ [n / 2 ^ c &&& 1] := take_more (by unfold Dot.colPl; rw [List.getElem?_map, hn]; rfl)
        rw [e, vl_app]
    · rintro H' ⟨s5, hD⟩
      rw [List.length_map, take_all (colPl_len _ _)] at hD
      exact q _ D s5 nD hD
abbrev s_row_from_bytes : Stmt := top 12
theorem sc_row_from_bytes : FnScope ["row_bytes", "row", "c", "byte"] ["row_bytes"] (defScope s_row_from_bytes) := ⟨rfl, rfl, rfl, by decide +kernel, rfl, by decide +kernel, by decide +kernel⟩
theorem ok_row_from_bytes {f : Addr} {fd : FuncData} (F : Fun K "row_from_bytes" "row_from_bytes" s_row_from_bytes f fd) (m_enumerate : mg "enumerate" = none) : FnOk P w K mg base CX0 1 f fd ["row_bytes"] (spRfb K) := by
  refine F.ok sc_row_from_bytes (fun vs H Q E h => ?_) (fun cdv A outer s H vs Q E hr h => ?_)
  · obtain ⟨a, b, rfl, _⟩ := h
    rfl
  · obtain ⟨a, b, rfl, hS, hl, q⟩ := h
    refine ⟨_, pss_cons (ps_set (i := 1) sc_row_from_bytes.nd rfl (.inl rfl) pe_int)
      (pss_cons (ps_for PassesOwn.never rfl (pi_enum (by rfl) m_enumerate (pa_cons (pv 0) pa_nil)) (pg_tup rfl (pgs_cons (pg_name (i := 2) sc_row_from_bytes.nd rfl (.inl rfl)) (pgs_cons (pg_name (i := 3) sc_row_from_bytes.nd rfl (.inl rfl)) pgs_nil)))
        (pss_one (ps_if (pt_cmpR op_ne (pv 3) pe_int (nomark _)) (pss_one (ps_set (i := 1) sc_row_from_bytes.nd rfl (.inl rfl) (pe_op dn_or (pv 1) (pe_op dn_shl pe_int (pv 2))))) pss_nil)))
      (pss_one (ps_ret (pv 1)))), ?_⟩
    refine ⟨_, rfl, a, vl b, rfl, hS, for_enum (K := K) (a := a) (xs := vl b) (fun i σ H' => ∃ v2 v3, σ = [some (.ref a), some (.int ((Dot.orG 0 (fun c => if b.getD c 0 = 0 then 0 else 2 ^ c) i : Nat) : Int)), v2, v3] ∧ Same H H')
      ⟨none, none, rfl, Same.refl H⟩ (fun i σ H' _ ⟨_, _, _, s5⟩ => s5.seq hS) ?_ ?_⟩
    · rintro i y T σ H' hi nT ⟨v2, v3, rfl, s5⟩
      obtain ⟨n, hn, rfl⟩ := vl_at hi
      have hib : i < b.length := (List.getElem?_eq_some_iff.mp hn).1
      refine ⟨T, _, rfl, .inl (.inl upd_same), rfl, _, _, rfl, _, _, rfl, rfl, ?_⟩
      refine ⟨_, rfl, rfl, _, rfl, ?_⟩
      by_cases h0 : n = 0
      · have h1 : (V.int (n : Int) = V.int 0) := by rw [h0]; rfl
        refine iteNS h1 ?_
        refine ⟨some (.int (i : Int)), some (.int (n : Int)), ?_, s5.trans (same_upd nT)⟩
        rw [Dot.orG_succ, getD_of hn, if_pos h0, Nat.or_zero]
        rfl
      · have h1 : ¬ (V.int (n : Int) = V.int 0) := fun e => by
          have := V.int.inj e
          omega
        rw [decide_eq_false h1]
        refine iteT ?_
        refine ⟨_, rfl, _, rfl, 1, i, rfl, rfl, ⟨Nat.one_lt_two_pow (by decide), by omega⟩, _, _, rfl, rfl, ?_⟩
        refine ⟨some (.int (i : Int)), some (.int (n : Int)), ?_, s5.trans (same_upd nT)⟩
        rw [Dot.orG_succ, getD_of hn, if_neg h0, Nat.one_mul]
        rfl
    · rintro σ H' ⟨v2, v3, rfl, s5⟩
      rw [List.length_map]
      exact ⟨_, rfl, q _ s5⟩
abbrev s_quarter_turned : Stmt := top 13
theorem sc_quarter_turned : FnScope ["w", "page", "c"] ["w", "page"] (defScope s_quarter_turned) := ⟨rfl, rfl, rfl, by decide +kernel, rfl, by decide +kernel, by decide +kernel⟩
theorem ok_quarter_turned {f : Addr} {fd : FuncData} (F : Fun K "quarter_turned" "quarter_turned" s_quarter_turned f fd) {f_row_from_bytes : Addr} {fd_row_from_bytes : FuncData} (G_row_from_bytes : FnOk P w K mg base CX0 1 f_row_from_bytes fd_row_from_bytes ["row_bytes"] (spRfb K)) (m_row_from_bytes : mg "row_from_bytes" = some (.ref f_row_from_bytes)) (p_row_from_bytes : PySem.W.keepIn K (.ref f_row_from_bytes) = true) (b_row_from_bytes : Binds K fd_row_from_bytes ["row_bytes"] []) {f_column_places : Addr} {fd_column_places : FuncData} (G_column_places : FnOk P w K mg base CX0 1 f_column_places fd_column_places ["page", "c"] (spColPl K)) (m_column_places : mg "column_places" = some (.ref f_column_places)) (p_column_places : PySem.W.keepIn K (.ref f_column_places) = true) (b_column_places : Binds K fd_column_places ["page", "c"] []) (m_range : mg "range" = none) : FnOk P w K mg base CX0 2 f fd ["w", "page"] (spQuart K) := by
  refine F.ok sc_quarter_turned (fun vs H Q E h => ?_) (fun cdv A outer s H vs Q E hr h => ?_)
  · obtain ⟨w, a, rows, rfl, _⟩ := h
    rfl
  · obtain ⟨w, a, rows, rfl, hS, ⟨hw, hl⟩, q⟩ := h
    refine ⟨_, (pss_one (ps_ret (pe_lc (own := [("c", 2)]) (g := gName 2) (tt := tYes) rfl sc_quarter_turned.nd (pi_range1 (by rfl) m_range (pa_cons (pv 0) pa_nil)) (blkOk_by (own := [("c", 2)]) (N := ["w", "page", "c"]) (sc := defScope s_quarter_turned) (by decide +kernel)) (fun _ _ _ _ _ => pg_name (i := 2) sc_quarter_turned.nd rfl (Or.inl rfl)) (fun _ _ _ _ _ => pts_nil) (fun _ _ _ _ _ => (pe_call G_row_from_bytes (hr.mono (by decide)) (by rfl) m_row_from_bytes p_row_from_bytes b_row_from_bytes .nil pass0 (pa_cons (pe_revK (K := K) rfl (pe_call G_column_places (hr.mono (by decide)) (by rfl) m_column_places p_column_places b_column_places .nil pass0 (pa_cons (pv 1) (pa_cons (pv 2) pa_nil)))) pa_nil)))))), ?_⟩
    refine ⟨_, rfl, (w : Int), rfl, by omega, by omega, fun D nD => ?_⟩
    refine lc_range (lo := 0) (n := w) (fun i H' => Same H H' ∧ H' D = some (.lst (vl ((Dot.quartPage w rows).take i)))) ⟨same_upd nD, upd_same⟩ ?_ ?_
    · rintro i H' hi ⟨s5, hD⟩
      rw [Int.zero_add]
      refine ⟨rfl, ?_⟩
      rw [show (tYes : TT) = fun _ H Q => Q true H from rfl]; refine iteT ?_
      refine ⟨_, rfl, _, rfl, a, rows, i, rfl, s5.seq hS, by omega, fun H4 p s4 np e4 => ?_⟩
      refine ⟨p, _, rfl, SqL.of e4, fun p5 n5 => ?_⟩
      rw [rev_vl]
      refine ⟨p5, _, rfl, SqL.of upd_same, by rw [List.length_reverse, colPl_len]; omega, fun H6 s6 => ?_⟩
      have s7 := (s4.trans (same_upd (o := .lst (vl (Dot.colPl rows i).reverse)) n5)).trans s6
      refine ⟨_, s7 _ _ hD, ?_, same_put (s5.trans s7) nD, ?_⟩
      · refine small_lt ?_
        rw [List.length_map, List.length_take]
        omega
      · rw [upd_same]
        have e : (Dot.quartPage w rows).take (i + 1) = (Dot.quartPage w rows).take i ++ [Dot.rfl_ (Dot.colPl rows i)] := take_map hi
        rw [e, vl_app, Dot.rfb_col]
    · rintro H' ⟨s5, hD⟩
      rw [take_all (Dot.quart_len w rows)] at hD
      exact q _ D s5 nD hD
abbrev s_do_turn : Stmt := top 14
theorem sc_do_turn : FnScope ["q", "w", "h", "x", "wide", "page", "quarter", "high"] ["q", "w", "h", "x"] (defScope s_do_turn) := ⟨rfl, rfl, rfl, by decide +kernel, rfl, by decide +kernel, by decide +kernel⟩
theorem ok_do_turn {f : Addr} {fd : FuncData} (F : Fun K "do_turn" "do_turn" s_do_turn f fd) {f_size_fits : Addr} {fd_size_fits : FuncData} (G_size_fits : FnOk P w K mg base CX0 1 f_size_fits fd_size_fits ["w", "h"] (spSize K)) (m_size_fits : mg "size_fits" = some (.ref f_size_fits)) (p_size_fits : PySem.W.keepIn K (.ref f_size_fits) = true) (b_size_fits : Binds K fd_size_fits ["w", "h"] []) {f_page_from_words : Addr} {fd_page_from_words : FuncData} (G_page_from_words : FnOk P w K mg base CX0 2 f_page_from_words fd_page_from_words ["w", "h", "x"] (spPfw K)) (m_page_from_words : mg "page_from_words" = some (.ref f_page_from_words)) (p_page_from_words : PySem.W.keepIn K (.ref f_page_from_words) = true) (b_page_from_words : Binds K fd_page_from_words ["w", "h", "x"] []) {f_quarter_turned : Addr} {fd_quarter_turned : FuncData} (G_quarter_turned : FnOk P w K mg base CX0 2 f_quarter_turned fd_quarter_turned ["w", "page"] (spQuart K)) (m_quarter_turned : mg "quarter_turned" = some (.ref f_quarter_turned)) (p_quarter_turned : PySem.W.keepIn K (.ref f_quarter_turned) = true) (b_quarter_turned : Binds K fd_quarter_turned ["w", "page"] []) {f_answer_page : Addr} {fd_answer_page : FuncData} (G_answer_page : FnOk P w K mg base CX0 3 f_answer_page fd_answer_page ["w", "page"] (spAns K)) (m_answer_page : mg "answer_page" = some (.ref f_answer_page)) (p_answer_page : PySem.W.keepIn K (.ref f_answer_page) = true) (b_answer_page : Binds K fd_answer_page ["w", "page"] []) (m_range : mg "range" = none) (m_len : mg "len" = none) : FnOk P w K mg base CX0 4 f fd ["q", "w", "h", "x"] (spDoTurn K) := by
  refine F.ok sc_do_turn (fun vs H Q E h => ?_) (fun cdv A outer s H vs Q E hr h => ?_)
  · obtain ⟨k, w, h, a, x, rfl, _⟩ := h
    rfl
  · obtain ⟨k, w, h, a, x, rfl, hS, hx, q⟩ := h
    refine ⟨_, pss_cons (ps_if (pt_not (PW.pt (pw_and (pt_chain op_le op_le pe_int (pv 0) pe_int) (pw_and1 (pt_val (pe_call G_size_fits (hr.mono (by decide)) (by rfl) m_size_fits p_size_fits b_size_fits .nil pass0 (pa_cons (pv 1) (pa_cons (pv 2) pa_nil)))))))) (pss_one (ps_ret (pe_lst (pa_cons (pe_un un_neg pe_int) pa_nil)))) pss_nil)
      (pss_cons (ps_set (i := 4) sc_do_turn.nd rfl (.inl rfl) (pv 1)) (pss_cons (ps_set (i := 5) sc_do_turn.nd rfl (.inl rfl) (pe_call G_page_from_words (hr.mono (by decide)) (by rfl) m_page_from_words p_page_from_words b_page_from_words .nil pass0 (pa_cons (pv 1) (pa_cons (pv 2) (pa_cons (pv 3) pa_nil))))) (pss_cons (ps_for PassesOwn.never rfl (pi_range1 (by rfl) m_range (pa_cons (pv 0) pa_nil)) (pg_name (i := 6) sc_do_turn.nd rfl (.inl rfl)) (pss_cons (ps_set (i := 7) sc_do_turn.nd rfl (.inl rfl) (pe_callB call_len_seq (by rfl) m_len PySem.boot_len (pa_cons (pv 5) pa_nil))) (pss_cons (ps_set (i := 5) sc_do_turn.nd rfl (.inl rfl) (pe_call G_quarter_turned (hr.mono (by decide)) (by rfl) m_quarter_turned p_quarter_turned b_quarter_turned .nil pass0 (pa_cons (pv 4) (pa_cons (pv 5) pa_nil)))) (pss_one (ps_set (i := 4) sc_do_turn.nd rfl (.inl rfl) (pv 7)))))) (pss_one (ps_ret (pe_call G_answer_page (hr.mono (by decide)) (by rfl) m_answer_page p_answer_page b_answer_page .nil pass0 (pa_cons (pv 4) (pa_cons (pv 5) pa_nil)))))))), ?_⟩
    refine rd_andT (p := decide ((0 : Int) ≤ (k : Int)) && decide ((k : Int) ≤ 3)) (q := Sh56.sized w h) (fun Q' h' => rd_chain (fun _ z => ⟨_, rfl, z⟩) ⟨_, rfl, h'⟩) (fun Q' h' => ⟨_, rfl, _, rfl, w, h, rfl, _, rfl, h'⟩) ?_
    rw [le3_cond]
    refine iteB (fun hn => ?_) (fun hn => ?_)
    · rw [Bool.not_eq_true'] at hn
      refine ⟨_, rfl, one_line, fun p np => ?_⟩
      refine q _ p ?_
      rw [upd_same, turn_bad hn]
    · rw [Bool.not_eq_false'] at hn
      have hn2 := hn
      rw [Bool.and_eq_true] at hn2
      obtain ⟨hz, hk⟩ := hn2
      obtain ⟨hw, hh⟩ := sized_iff.mp hz

      have hk := of_decide_eq_true hk
      refine ⟨_, rfl, ?_⟩
      refine ⟨_, rfl, _, rfl, _, rfl, w, h, a, x, rfl, ⟨hw.2, hh.2⟩, hS, hx, fun H3 pg s3 npg epg => ?_⟩
      have lP := Dot.pfw_len w h x
      refine ⟨_, rfl, (k : Int), rfl, by omega, by omega, for_range (lo := 0) (n := k) (fun i σ H' => ∃ v6 v7 pg, σ = [some (.int (k : Int)), some (.int (w : Int)), some (.int (h : Int)), some (.ref a), some (.int ((turnW w h i : Nat) : Int)), some (.ref pg), v6, v7] ∧ H' pg = some (.lst (vl (turnR w h (Dot.pfw w h x) i))))
        ⟨none, none, pg, rfl, epg⟩ ?_ ?_⟩
      · rintro i σ H' hi ⟨v6, v7, pg, rfl, hp⟩
        have hl := turn_len (w := w) lP i
        have h1 := turnW_le hw.2 hh.2 i
        have h2 := turnW_le hh.2 hw.2 i
        refine ⟨_, rfl, pg, _, rfl, .inl (SqL.of hp), ?_⟩
        refine ⟨_, rfl, _, rfl, turnW w h i, pg, _, rfl, SqL.of hp, ⟨h1, by omega⟩, fun H4 p s4 np e4 => ?_⟩
        refine ⟨_, rfl, some (.int (0 + (i : Int))), some (.int ((turnW h w i : Nat) : Int)), p, ?_, e4⟩
        rw [turnW_succ, vl_len, hl]
        rfl
      · rintro σ H' ⟨v6, v7, pg, rfl, hp⟩
        have hl := turn_len (w := w) lP k
        have h1 := turnW_le hw.2 hh.2 k
        have h2 := turnW_le hh.2 hw.2 k
        refine ⟨_, rfl, _, rfl, _, pg, _, rfl, SqL.of hp, ⟨by omega, by omega⟩, fun H7 p s7 np e7 => ?_⟩
        refine q _ p ?_
        rw [e7, turn_ok hn hx]
end
theorem all_mk {P : Program} {w : World} {K : PySem.W.Frag} {h : Heap} {mg : Str → Option Value} {fa : Addr} (X : K.In h) (G : h.Ns mainGlobals mg) (hfa : mg "do_turn" = some (.ref fa))
    {od_size_fits an_size_fits : Option Addr} {sl_size_fits : Array (Option Value)} {oc_size_fits kV_size_fits dc_size_fits pm_size_fits cd_size_fits ct_size_fits : Value} {f_size_fits : Addr} {od_words_in_row an_words_in_row : Option Addr} {sl_words_in_row : Array (Option Value)} {oc_words_in_row kV_words_in_row dc_words_in_row pm_words_in_row cd_words_in_row ct_words_in_row : Value} {f_words_in_row : Addr} {od_black_row an_black_row : Option Addr} {sl_black_row : Array (Option Value)} {oc_black_row kV_black_row dc_black_row pm_black_row cd_black_row ct_black_row : Value} {f_black_row : Addr} {od_row_from_words an_row_from_words : Option Addr} {sl_row_from_words : Array (Option Value)} {oc_row_from_words kV_row_from_words dc_row_from_words pm_row_from_words cd_row_from_words ct_row_from_words : Value} {f_row_from_words : Addr} {od_page_from_words an_page_from_words : Option Addr} {sl_page_from_words : Array (Option Value)} {oc_page_from_words kV_page_from_words dc_page_from_words pm_page_from_words cd_page_from_words ct_page_from_words : Value} {f_page_from_words : Addr} {od_words_from_page an_words_from_page : Option Addr} {sl_words_from_page : Array (Option Value)} {oc_words_from_page kV_words_from_page dc_words_from_page pm_words_from_page cd_words_from_page ct_words_from_page : Value} {f_words_from_page : Addr} {od_answer_page an_answer_page : Option Addr} {sl_answer_page : Array (Option Value)} {oc_answer_page kV_answer_page dc_answer_page pm_answer_page cd_answer_page ct_answer_page : Value} {f_answer_page : Addr} {od_column_places an_column_places : Option Addr} {sl_column_places : Array (Option Value)} {oc_column_places kV_column_places dc_column_places pm_column_places cd_column_places ct_column_places : Value} {f_column_places : Addr} {od_row_from_bytes an_row_from_bytes : Option Addr} {sl_row_from_bytes : Array (Option Value)} {oc_row_from_bytes kV_row_from_bytes dc_row_from_bytes pm_row_from_bytes cd_row_from_bytes ct_row_from_bytes : Value} {f_row_from_bytes : Addr} {od_quarter_turned an_quarter_turned : Option Addr} {sl_quarter_turned : Array (Option Value)} {oc_quarter_turned kV_quarter_turned dc_quarter_turned pm_quarter_turned cd_quarter_turned ct_quarter_turned : Value} {f_quarter_turned : Addr} {od_do_turn an_do_turn : Option Addr} {sl_do_turn : Array (Option Value)} {oc_do_turn kV_do_turn dc_do_turn pm_do_turn cd_do_turn ct_do_turn : Value} {f_do_turn : Addr}
    (a_size_fits : PySem.W.nsIn K mainGlobals "size_fits" = some (some (.ref f_size_fits))) (l_size_fits : K.lookup f_size_fits = some ⟨oc_size_fits, od_size_fits, .func (PySem.W.fnOf "size_fits" "size_fits" (defArgs s_size_fits) (defBody s_size_fits) (defScope s_size_fits) .none kV_size_fits dc_size_fits pm_size_fits an_size_fits cd_size_fits ct_size_fits), sl_size_fits⟩) (c_size_fits : PySem.W.codeIn K cd_size_fits "size_fits" = true) (k_size_fits : PySem.W.keepIn K (.ref f_size_fits) = true)
    (a_words_in_row : PySem.W.nsIn K mainGlobals "words_in_row" = some (some (.ref f_words_in_row))) (l_words_in_row : K.lookup f_words_in_row = some ⟨oc_words_in_row, od_words_in_row, .func (PySem.W.fnOf "words_in_row" "words_in_row" (defArgs s_words_in_row) (defBody s_words_in_row) (defScope s_words_in_row) .none kV_words_in_row dc_words_in_row pm_words_in_row an_words_in_row cd_words_in_row ct_words_in_row), sl_words_in_row⟩) (c_words_in_row : PySem.W.codeIn K cd_words_in_row "words_in_row" = true) (k_words_in_row : PySem.W.keepIn K (.ref f_words_in_row) = true)
    (a_black_row : PySem.W.nsIn K mainGlobals "black_row" = some (some (.ref f_black_row))) (l_black_row : K.lookup f_black_row = some ⟨oc_black_row, od_black_row, .func (PySem.W.fnOf "black_row" "black_row" (defArgs s_black_row) (defBody s_black_row) (defScope s_black_row) .none kV_black_row dc_black_row pm_black_row an_black_row cd_black_row ct_black_row), sl_black_row⟩) (c_black_row : PySem.W.codeIn K cd_black_row "black_row" = true) (k_black_row : PySem.W.keepIn K (.ref f_black_row) = true)
    (a_row_from_words : PySem.W.nsIn K mainGlobals "row_from_words" = some (some (.ref f_row_from_words))) (l_row_from_words : K.lookup f_row_from_words = some ⟨oc_row_from_words, od_row_from_words, .func (PySem.W.fnOf "row_from_words" "row_from_words" (defArgs s_row_from_words) (defBody s_row_from_words) (defScope s_row_from_words) .none kV_row_from_words dc_row_from_words pm_row_from_words an_row_from_words cd_row_from_words ct_row_from_words), sl_row_from_words⟩) (c_row_from_words : PySem.W.codeIn K cd_row_from_words "row_from_words" = true) (k_row_from_words : PySem.W.keepIn K (.ref f_row_from_words) = true)
    (a_page_from_words : PySem.W.nsIn K mainGlobals "page_from_words" = some (some (.ref f_page_from_words))) (l_page_from_words : K.lookup f_page_from_words = some ⟨oc_page_from_words, od_page_from_words, .func (PySem.W.fnOf "page_from_words" "page_from_words" (defArgs s_page_from_words) (defBody s_page_from_words) (defScope s_page_from_words) .none kV_page_from_words dc_page_from_words pm_page_from_words an_page_from_words cd_page_from_words ct_page_from_words), sl_page_from_words⟩) (c_page_from_words : PySem.W.codeIn K cd_page_from_words "page_from_words" = true) (k_page_from_words : PySem.W.keepIn K (.ref f_page_from_words) = true)
    (a_words_from_page : PySem.W.nsIn K mainGlobals "words_from_page" = some (some (.ref f_words_from_page))) (l_words_from_page : K.lookup f_words_from_page = some ⟨oc_words_from_page, od_words_from_page, .func (PySem.W.fnOf "words_from_page" "words_from_page" (defArgs s_words_from_page) (defBody s_words_from_page) (defScope s_words_from_page) .none kV_words_from_page dc_words_from_page pm_words_from_page an_words_from_page cd_words_from_page ct_words_from_page), sl_words_from_page⟩) (c_words_from_page : PySem.W.codeIn K cd_words_from_page "words_from_page" = true) (k_words_from_page : PySem.W.keepIn K (.ref f_words_from_page) = true)
    (a_answer_page : PySem.W.nsIn K mainGlobals "answer_page" = some (some (.ref f_answer_page))) (l_answer_page : K.lookup f_answer_page = some ⟨oc_answer_page, od_answer_page, .func (PySem.W.fnOf "answer_page" "answer_page" (defArgs s_answer_page) (defBody s_answer_page) (defScope s_answer_page) .none kV_answer_page dc_answer_page pm_answer_page an_answer_page cd_answer_page ct_answer_page), sl_answer_page⟩) (c_answer_page : PySem.W.codeIn K cd_answer_page "answer_page" = true) (k_answer_page : PySem.W.keepIn K (.ref f_answer_page) = true)
    (a_column_places : PySem.W.nsIn K mainGlobals "column_places" = some (some (.ref f_column_places))) (l_column_places : K.lookup f_column_places = some ⟨oc_column_places, od_column_places, .func (PySem.W.fnOf "column_places" "column_places" (defArgs s_column_places) (defBody s_column_places) (defScope s_column_places) .none kV_column_places dc_column_places pm_column_places an_column_places cd_column_places ct_column_places), sl_column_places⟩) (c_column_places : PySem.W.codeIn K cd_column_places "column_places" = true) (k_column_places : PySem.W.keepIn K (.ref f_column_places) = true)
    (a_row_from_bytes : PySem.W.nsIn K mainGlobals "row_from_bytes" = some (some (.ref f_row_from_bytes))) (l_row_from_bytes : K.lookup f_row_from_bytes = some ⟨oc_row_from_bytes, od_row_from_bytes, .func (PySem.W.fnOf "row_from_bytes" "row_from_bytes" (defArgs s_row_from_bytes) (defBody s_row_from_bytes) (defScope s_row_from_bytes) .none kV_row_from_bytes dc_row_from_bytes pm_row_from_bytes an_row_from_bytes cd_row_from_bytes ct_row_from_bytes), sl_row_from_bytes⟩) (c_row_from_bytes : PySem.W.codeIn K cd_row_from_bytes "row_from_bytes" = true) (k_row_from_bytes : PySem.W.keepIn K (.ref f_row_from_bytes) = true)
    (a_quarter_turned : PySem.W.nsIn K mainGlobals "quarter_turned" = some (some (.ref f_quarter_turned))) (l_quarter_turned : K.lookup f_quarter_turned = some ⟨oc_quarter_turned, od_quarter_turned, .func (PySem.W.fnOf "quarter_turned" "quarter_turned" (defArgs s_quarter_turned) (defBody s_quarter_turned) (defScope s_quarter_turned) .none kV_quarter_turned dc_quarter_turned pm_quarter_turned an_quarter_turned cd_quarter_turned ct_quarter_turned), sl_quarter_turned⟩) (c_quarter_turned : PySem.W.codeIn K cd_quarter_turned "quarter_turned" = true) (k_quarter_turned : PySem.W.keepIn K (.ref f_quarter_turned) = true)
    (a_do_turn : PySem.W.nsIn K mainGlobals "do_turn" = some (some (.ref f_do_turn))) (l_do_turn : K.lookup f_do_turn = some ⟨oc_do_turn, od_do_turn, .func (PySem.W.fnOf "do_turn" "do_turn" (defArgs s_do_turn) (defBody s_do_turn) (defScope s_do_turn) .none kV_do_turn dc_do_turn pm_do_turn an_do_turn cd_do_turn ct_do_turn), sl_do_turn⟩) (c_do_turn : PySem.W.codeIn K cd_do_turn "do_turn" = true) (k_do_turn : PySem.W.keepIn K (.ref f_do_turn) = true)
    {t_LONGEST_SIDE : Tok} (q_LONGEST_SIDE : PySem.W.nsIn K mainGlobals "LONGEST_SIDE" = some (some (.int 256 t_LONGEST_SIDE)))
    {t_WORD_BITS : Tok} (q_WORD_BITS : PySem.W.nsIn K mainGlobals "WORD_BITS" = some (some (.int 32 t_WORD_BITS)))
    {t_WORD_FULL : Tok} (q_WORD_FULL : PySem.W.nsIn K mainGlobals "WORD_FULL" = some (some (.int 4294967295 t_WORD_FULL)))
    (z_enumerate : PySem.W.nsIn K mainGlobals "enumerate" = some none)
    (z_len : PySem.W.nsIn K mainGlobals "len" = some none)
    (z_range : PySem.W.nsIn K mainGlobals "range" = some none) :
    ∃ fd : FuncData, (∀ (s : Shared) (us : List Value), us.length = (["q", "w", "h", "x"] : List Str).length → BindsTo s fd ⟨us, []⟩ ((["q", "w", "h", "x"] : List Str).zip us)) ∧ ∀ base : Heap, K.In base → base.Ns mainGlobals mg → FnOk P w K mg base CX0 4 fa fd ["q", "w", "h", "x"] (spDoTurn K) := by
  have e := hfa.symm.trans (PySem.W.mg_of X G a_do_turn)
  cases e
  have F_size_fits := fun_mk (st := s_size_fits) l_size_fits c_size_fits k_size_fits
  have b_size_fits := F_size_fits.binds (ps := ["w", "h"]) fun _ _ _ _ _ _ us hl => match us, hl with | [_, _], _ => rfl
  have F_words_in_row := fun_mk (st := s_words_in_row) l_words_in_row c_words_in_row k_words_in_row
  have b_words_in_row := F_words_in_row.binds (ps := ["w"]) fun _ _ _ _ _ _ us hl => match us, hl with | [_], _ => rfl
  have F_black_row := fun_mk (st := s_black_row) l_black_row c_black_row k_black_row
  have b_black_row := F_black_row.binds (ps := ["w"]) fun _ _ _ _ _ _ us hl => match us, hl with | [_], _ => rfl
  have F_row_from_words := fun_mk (st := s_row_from_words) l_row_from_words c_row_from_words k_row_from_words
  have b_row_from_words := F_row_from_words.binds (ps := ["words"]) fun _ _ _ _ _ _ us hl => match us, hl with | [_], _ => rfl
  have F_page_from_words := fun_mk (st := s_page_from_words) l_page_from_words c_page_from_words k_page_from_words
  have b_page_from_words := F_page_from_words.binds (ps := ["w", "h", "x"]) fun _ _ _ _ _ _ us hl => match us, hl with | [_, _, _], _ => rfl
  have F_words_from_page := fun_mk (st := s_words_from_page) l_words_from_page c_words_from_page k_words_from_page
  have b_words_from_page := F_words_from_page.binds (ps := ["w", "page"]) fun _ _ _ _ _ _ us hl => match us, hl with | [_, _], _ => rfl
  have F_answer_page := fun_mk (st := s_answer_page) l_answer_page c_answer_page k_answer_page
  have b_answer_page := F_answer_page.binds (ps := ["w", "page"]) fun _ _ _ _ _ _ us hl => match us, hl with | [_, _], _ => rfl
  have F_column_places := fun_mk (st := s_column_places) l_column_places c_column_places k_column_places
  have b_column_places := F_column_places.binds (ps := ["page", "c"]) fun _ _ _ _ _ _ us hl => match us, hl with | [_, _], _ => rfl
  have F_row_from_bytes := fun_mk (st := s_row_from_bytes) l_row_from_bytes c_row_from_bytes k_row_from_bytes
  have b_row_from_bytes := F_row_from_bytes.binds (ps := ["row_bytes"]) fun _ _ _ _ _ _ us hl => match us, hl with | [_], _ => rfl
  have F_quarter_turned := fun_mk (st := s_quarter_turned) l_quarter_turned c_quarter_turned k_quarter_turned
  have b_quarter_turned := F_quarter_turned.binds (ps := ["w", "page"]) fun _ _ _ _ _ _ us hl => match us, hl with | [_, _], _ => rfl
  have F_do_turn := fun_mk (st := s_do_turn) l_do_turn c_do_turn k_do_turn
  have m_LONGEST_SIDE := PySem.W.mg_of X G q_LONGEST_SIDE
  have m_WORD_BITS := PySem.W.mg_of X G q_WORD_BITS
  have m_WORD_FULL := PySem.W.mg_of X G q_WORD_FULL
  have m_enumerate := PySem.W.mg_none_of X G z_enumerate
  have m_len := PySem.W.mg_none_of X G z_len
  have m_range := PySem.W.mg_none_of X G z_range
  refine ⟨PySem.W.fnOf "do_turn" "do_turn" (defArgs s_do_turn) (defBody s_do_turn) (defScope s_do_turn) .none kV_do_turn dc_do_turn pm_do_turn an_do_turn cd_do_turn ct_do_turn, fun s us hu => match us, hu with | [_, _, _, _], _ => .of_eq rfl, fun base _ _ => ?_⟩
  have G_size_fits : FnOk P w K mg base CX0 1 f_size_fits _ ["w", "h"] (spSize K) := ok_size_fits F_size_fits m_LONGEST_SIDE
  have G_words_in_row : FnOk P w K mg base CX0 1 f_words_in_row _ ["w"] (spWords K) := ok_words_in_row F_words_in_row m_WORD_BITS
  have G_black_row : FnOk P w K mg base CX0 1 f_black_row _ ["w"] (spBlack K) := ok_black_row F_black_row
  have G_row_from_words : FnOk P w K mg base CX0 1 f_row_from_words _ ["words"] (spRfw K) := ok_row_from_words F_row_from_words m_WORD_BITS m_enumerate
  have G_page_from_words : FnOk P w K mg base CX0 2 f_page_from_words _ ["w", "h", "x"] (spPfw K) := ok_page_from_words F_page_from_words G_words_in_row (PySem.W.mg_of X G a_words_in_row) k_words_in_row b_words_in_row G_black_row (PySem.W.mg_of X G a_black_row) k_black_row b_black_row G_row_from_words (PySem.W.mg_of X G a_row_from_words) k_row_from_words b_row_from_words m_range
  have G_words_from_page : FnOk P w K mg base CX0 2 f_words_from_page _ ["w", "page"] (spWfp K) := ok_words_from_page F_words_from_page G_words_in_row (PySem.W.mg_of X G a_words_in_row) k_words_in_row b_words_in_row m_WORD_BITS m_WORD_FULL m_range
  have G_answer_page : FnOk P w K mg base CX0 3 f_answer_page _ ["w", "page"] (spAns K) := ok_answer_page F_answer_page G_words_from_page (PySem.W.mg_of X G a_words_from_page) k_words_from_page b_words_from_page
  have G_column_places : FnOk P w K mg base CX0 1 f_column_places _ ["page", "c"] (spColPl K) := ok_column_places F_column_places
  have G_row_from_bytes : FnOk P w K mg base CX0 1 f_row_from_bytes _ ["row_bytes"] (spRfb K) := ok_row_from_bytes F_row_from_bytes m_enumerate
  have G_quarter_turned : FnOk P w K mg base CX0 2 f_quarter_turned _ ["w", "page"] (spQuart K) := ok_quarter_turned F_quarter_turned G_row_from_bytes (PySem.W.mg_of X G a_row_from_bytes) k_row_from_bytes b_row_from_bytes G_column_places (PySem.W.mg_of X G a_column_places) k_column_places b_column_places m_range
  exact ok_do_turn F_do_turn G_size_fits (PySem.W.mg_of X G a_size_fits) k_size_fits b_size_fits G_page_from_words (PySem.W.mg_of X G a_page_from_words) k_page_from_words b_page_from_words G_quarter_turned (PySem.W.mg_of X G a_quarter_turned) k_quarter_turned b_quarter_turned G_answer_page (PySem.W.mg_of X G a_answer_page) k_answer_page b_answer_page m_range m_len
theorem app_it {R : Type} {c0 c1 c2 c3 : Codec} (g : Codec.fn R [c0, c1, c2, c3]) (x0 : c0.denote) (x1 : c1.denote) (x2 : c2.denote) (x3 : c3.denote) (u : Unit) : Codec.app [c0, c1, c2, c3] g (x0, x1, x2, x3, u) = g x0 x1 x2 x3 := rfl
end DotR
open PySem PySem.W PyProof.Rows
set_option maxRecDepth 100000 in
set_option maxHeartbeats 0 in
theorem PySem.Challenge.cw_dotpages_s14_do_turn_holds : PySem.Challenge.rw_dotpages_s14_do_turn.Holds := by
  w_on; k_headS; (case hw => exact ⟨[.int 0, .int 0, .int 0, .list []], by decide +kernel, by decide +kernel⟩)
  k_fillS
  refine L2.walk_specK (r := PySem.Challenge.rw_dotpages_s14_do_turn) (k := 4) (CX := L2.CX0) (ps := ["q", "w", "h", "x"]) (sp := DotH.spDoTurn) (by decide +kernel) rfl rfl ⟨rfl, by decide, by decide⟩ (fun w h Y => PySem.W.kIn_of Y) ?F ?S (fun _ _ _ _ z => z)
  case F =>
    intro w mg fa h Y KX G hmg
    refine' DotR.all_mk KX G hmg ?a_size_fits ?l_size_fits ?c_size_fits ?k_size_fits ?a_words_in_row ?l_words_in_row ?c_words_in_row ?k_words_in_row ?a_black_row ?l_black_row ?c_black_row ?k_black_row ?a_row_from_words ?l_row_from_words ?c_row_from_words ?k_row_from_words ?a_page_from_words ?l_page_from_words ?c_page_from_words ?k_page_from_words ?a_words_from_page ?l_words_from_page ?c_words_from_page ?k_words_from_page ?a_answer_page ?l_answer_page ?c_answer_page ?k_answer_page ?a_column_places ?l_column_places ?c_column_places ?k_column_places ?a_row_from_bytes ?l_row_from_bytes ?c_row_from_bytes ?k_row_from_bytes ?a_quarter_turned ?l_quarter_turned ?c_quarter_turned ?k_quarter_turned ?a_do_turn ?l_do_turn ?c_do_turn ?k_do_turn ?q_LONGEST_SIDE ?q_WORD_BITS ?q_WORD_FULL ?z_enumerate ?z_len ?z_range
    (case a_size_fits => k_is)
    (case l_size_fits => k_is)
    (case c_size_fits => k_is)
    (case k_size_fits => k_is)
    (case a_words_in_row => k_is)
    (case l_words_in_row => k_is)
    (case c_words_in_row => k_is)
    (case k_words_in_row => k_is)
    (case a_black_row => k_is)
    (case l_black_row => k_is)
    (case c_black_row => k_is)
    (case k_black_row => k_is)
    (case a_row_from_words => k_is)
    (case l_row_from_words => k_is)
    (case c_row_from_words => k_is)
    (case k_row_from_words => k_is)
    (case a_page_from_words => k_is)
    (case l_page_from_words => k_is)
    (case c_page_from_words => k_is)
    (case k_page_from_words => k_is)
    (case a_words_from_page => k_is)
    (case l_words_from_page => k_is)
    (case c_words_from_page => k_is)
    (case k_words_from_page => k_is)
    (case a_answer_page => k_is)
    (case l_answer_page => k_is)
    (case c_answer_page => k_is)
    (case k_answer_page => k_is)
    (case a_column_places => k_is)
    (case l_column_places => k_is)
    (case c_column_places => k_is)
    (case k_column_places => k_is)
    (case a_row_from_bytes => k_is)
    (case l_row_from_bytes => k_is)
    (case c_row_from_bytes => k_is)
    (case k_row_from_bytes => k_is)
    (case a_quarter_turned => k_is)
    (case l_quarter_turned => k_is)
    (case c_quarter_turned => k_is)
    (case k_quarter_turned => k_is)
    (case a_do_turn => k_is)
    (case l_do_turn => k_is)
    (case c_do_turn => k_is)
    (case k_do_turn => k_is)
    (case q_LONGEST_SIDE => k_is)
    (case q_WORD_BITS => k_is)
    (case q_WORD_FULL => k_is)
    (case z_enumerate => k_is)
    (case z_len => k_is)
    (case z_range => k_is)
  case S =>
    intro K H xs a hO hwi hask hx
    obtain ⟨z0, z1, z2, y0, u⟩ := a
    have hask : PySh56.do_turn_asked z0 z1 z2 y0 = true := (DotR.app_it (R := Bool) (c0 := .int 0 4294967295) (c1 := .int 0 4294967295) (c2 := .int 0 4294967295) (c3 := .list 0 2400 (.int 0 4294967295)) PySh56.do_turn_asked z0 z1 z2 y0 u).symm.trans hask
    have hans : Codec.enc (.list 0 1048576 (.int (-9223372036854775808) 18446744073709551615)) (Codec.app [.int 0 4294967295, .int 0 4294967295, .int 0 4294967295, .list 0 2400 (.int 0 4294967295)] PySh56.do_turn (z0, z1, z2, y0, u)) = .list ((PySh56.do_turn z0 z1 z2 y0).map WData.int) := congrArg (Codec.enc (.list 0 1048576 (.int (-9223372036854775808) 18446744073709551615))) (DotR.app_it (R := List Int) (c0 := .int 0 4294967295) (c1 := .int 0 4294967295) (c2 := .int 0 4294967295) (c3 := .list 0 2400 (.int 0 4294967295)) PySh56.do_turn z0 z1 z2 y0 u)
    have q : (Codec.inInt 0 4294967295 z0 && (Codec.inInt 0 4294967295 z1 && (Codec.inInt 0 4294967295 z2 && ((Codec.inLen 0 2400 y0 && y0.all (Codec.inInt 0 4294967295)) && true)))) = true := hwi
    rw [Bool.and_eq_true, Bool.and_eq_true, Bool.and_eq_true, Bool.and_eq_true, Bool.and_eq_true] at q
    obtain ⟨hz0, ⟨hz1, ⟨hz2, ⟨⟨hl0, hb0⟩, _⟩⟩⟩⟩ := q
    obtain ⟨v0, w0, rfl, d0, hx⟩ := DotH.dw_cons hx
    obtain ⟨v1, w1, rfl, d1, hx⟩ := DotH.dw_cons hx
    obtain ⟨v2, w2, rfl, d2, hx⟩ := DotH.dw_cons hx
    obtain ⟨v3, w3, rfl, d3, hx⟩ := DotH.dw_cons hx
    obtain rfl := DotH.dw_nil hx
    obtain rfl := DotH.dw_int d0
    obtain rfl := DotH.dw_int d1
    obtain rfl := DotH.dw_int d2
    obtain ⟨p0, rfl, s0⟩ := DotH.dw_lst d3
    obtain ⟨k, rfl⟩ := Int.eq_ofNat_of_zero_le (Codec.inInt_iff.mp hz0).1
    obtain ⟨w, rfl⟩ := Int.eq_ofNat_of_zero_le (Codec.inInt_iff.mp hz1).1
    obtain ⟨h, rfl⟩ := Int.eq_ofNat_of_zero_le (Codec.inInt_iff.mp hz2).1
    obtain ⟨x, rfl, hc0⟩ := DotH.nat_list hb0
    rw [DotH.map_int] at s0
    have hl0 := (Codec.inNat_iff.mp hl0).2
    rw [List.length_map] at hl0
    exact ⟨k, w, h, p0, x, rfl, s0, fun y hy => by have := hc0 y hy; omega, fun H' p hp => Eq.mpr (congrArg (L2.Dw K H' (L2.V.ref p)) hans) (.lst (L2.SqL.of hp) (L2.dw_ints _))⟩
#print axioms PySem.Challenge.cw_dotpages_s14_do_turn_holds
